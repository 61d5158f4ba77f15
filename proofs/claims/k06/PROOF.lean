import PyProof.Rows.All
import Wide.All
import OpenK.AllK
import Wide.FinOn
import Lean
import PyProof.EqAt
import PyProof.EqKinds
import PyProof.TupleCall
import KE.KMinKey
import KE.KLam
import KE.KDictList
import PyProof.MaxThree
import PyProof.WalkInts
import PyProof.WalksMore
import PySem.Challenge.RW_fewplaces_k06_whole_side_by_side
set_option Elab.async false
set_option linter.all false
set_option maxRecDepth 100000
namespace L2
open PySem PySem.Spec PyProof.Rows
abbrev Key := Sum Int Str
def keyIs : Key → Value → Bool
  | .inl k, v => Value.isInt k v
  | .inr x, v => Value.isStrOf x v
def keyH (w : World) : Key → Int
  | .inl k => hashInt k
  | .inr x => hashStr w x
theorem keyIs_shape : ∀ {k : Key} {v : Value}, keyIs k v = true → (∃ i t, k = Sum.inl i ∧ v = Value.int i t) ∨ (∃ x t, k = Sum.inr x ∧ v = Value.str x t)
  | .inl i, v, h => by
    obtain ⟨t, e⟩ := Value.isInt_shape (k := i) (v := v) h
    exact .inl ⟨i, t, rfl, e⟩
  | .inr x, v, h => by
    obtain ⟨t, e⟩ := Value.isStrOf_shape (x := x) (v := v) h
    exact .inr ⟨x, t, rfl, e⟩
theorem keyIs_int (i : Int) (t : Tok) : keyIs (.inl i) (.int i t) = true := by simp [keyIs, Value.isInt]
theorem keyIs_str (x : Str) (t : Tok) : keyIs (.inr x) (.str x t) = true := by simp [keyIs, Value.isStrOf]
theorem key_ll (a b : Int) : decide ((Sum.inl a : Key) = Sum.inl b) = (a == b) := by
  by_cases e : a = b
  · subst e; simp
  · have h : ¬ (Sum.inl a : Key) = Sum.inl b := fun q => e (Sum.inl.inj q)
    rw [decide_eq_false h]
    exact (beq_eq_false_iff_ne.mpr e).symm
theorem key_rr (a b : Str) : decide ((Sum.inr a : Key) = Sum.inr b) = decide (a = b) := by
  by_cases e : a = b
  · subst e; simp
  · have h : ¬ (Sum.inr a : Key) = Sum.inr b := fun q => e (Sum.inr.inj q)
    rw [decide_eq_false h, decide_eq_false e]
theorem key_lr (a : Int) (b : Str) : decide ((Sum.inl a : Key) = Sum.inr b) = false := decide_eq_false (fun q => nomatch q)
theorem key_rl (a : Str) (b : Int) : decide ((Sum.inr a : Key) = Sum.inl b) = false := decide_eq_false (fun q => nomatch q)
def mixKind (prog : Program) (w : World) : PySem.KeyKind prog w Key where
  is := keyIs
  hash := keyH w
  inj := fun v a b ha hb => by
    rcases keyIs_shape ha with ⟨i, t, rfl, rfl⟩ | ⟨x, t, rfl, rfl⟩
    · rcases keyIs_shape hb with ⟨j, u, rfl, e⟩ | ⟨y, u, rfl, e⟩
      · injection e with e1 _; rw [e1]
      · exact nomatch e
    · rcases keyIs_shape hb with ⟨j, u, rfl, e⟩ | ⟨y, u, rfl, e⟩
      · exact nomatch e
      · injection e with e1 _; rw [e1]
  byValue := fun k v h => by
    rcases keyIs_shape h with ⟨i, t, rfl, rfl⟩ | ⟨x, t, rfl, rfl⟩ <;> rfl
  pyHash := fun hv h => by
    rcases keyIs_shape hv with ⟨i, t, rfl, rfl⟩ | ⟨x, t, rfl, rfl⟩
    · exact wpAny_pyHash_int h
    · exact wpAny_pyHash_str h
  eqBool := fun hu hv h => by
    rcases keyIs_shape hu with ⟨i, t, rfl, rfl⟩ | ⟨x, t, rfl, rfl⟩
    · rcases keyIs_shape hv with ⟨j, u, rfl, rfl⟩ | ⟨y, u, rfl, rfl⟩
      · rw [key_ll] at h; exact wpAny_eqBool_int h
      · rw [key_lr] at h; exact SeqAt.EqAt.int_str i t y u _ _ _ _ h
    · rcases keyIs_shape hv with ⟨j, u, rfl, rfl⟩ | ⟨y, u, rfl, rfl⟩
      · rw [key_rl] at h; exact SeqAt.EqAt.str_int x t j u _ _ _ _ h
      · rw [key_rr] at h; exact wpAny_eqBool_str h
  «strs» := fun k x t v h => by
    rcases keyIs_shape h with ⟨i, u, rfl, e⟩ | ⟨y, u, rfl, e⟩
    · exact nomatch e
    · injection e with e1 _
      subst e1
      cases v <;> rfl
theorem mixKind_int (prog : Program) (w : World) (i : Int) (t : Tok) : (mixKind prog w).is (.inl i) (.int i t) = true := keyIs_int i t
theorem mixKind_str (prog : Program) (w : World) (x : Str) (t : Tok) : (mixKind prog w).is (.inr x) (.str x t) = true := keyIs_str x t
end L2
namespace L2
open PySem PySem.Spec PyProof.Rows
inductive V where
  | non | bl (b : Bool) | int (i : Int) | str (x : Str) | byt (b : Array UInt8) | flt (b : UInt64) | ref (a : Addr) | ty (n : String)
  deriving DecidableEq
def RelV : V → Value → Prop
  | .non, u => u = Value.none
  | .bl b, u => u = Value.bool b
  | .int i, u => ∃ t, u = Value.int i t
  | .str x, u => ∃ t, u = Value.str x t
  | .byt b, u => ∃ t, u = Value.bytes b t
  | .flt b, u => ∃ t, u = Value.float b t
  | .ref a, u => u = Value.ref a
  | .ty n, u => u = Value.type n
abbrev Vals : List V → List Value → Prop := Paired RelV
theorem Vals.length {xs : List V} {us : List Value} (r : Vals xs us) : xs.length = us.length := Paired.length r
theorem Vals.get : ∀ {xs : List V} {us : List Value} {i : Nat} {x : V}, Vals xs us → xs[i]? = some x → ∃ u, us[i]? = some u ∧ RelV x u
  | _, _, _, _, .nil, e => by simp at e
  | _, _, 0, _, .cons r _, e => by simp at e; subst e; exact ⟨_, rfl, r⟩
  | _, _, i + 1, x, .cons _ t, e => by
    obtain ⟨u, h1, h2⟩ := Vals.get (i := i) (x := x) t (by simpa using e)
    exact ⟨u, by simpa using h1, h2⟩
theorem Vals.set {x : V} {u : Value} (r : RelV x u) : ∀ {xs : List V} {us : List Value} (i : Nat), Vals xs us → Vals (xs.set i x) (us.set i u)
  | _, _, _, .nil => .nil
  | _, _, 0, .cons _ t => .cons r t
  | _, _, i + 1, .cons q t => .cons q (Vals.set r i t)
theorem Vals.append : ∀ {xs ys : List V} {us ws : List Value}, Vals xs us → Vals ys ws → Vals (xs ++ ys) (us ++ ws)
  | _, _, _, _, .nil, s => s
  | _, _, _, _, .cons r t, s => .cons r (Vals.append t s)
theorem Vals.take : ∀ {xs : List V} {us : List Value} (n : Nat), Vals xs us → Vals (xs.take n) (us.take n)
  | _, _, 0, _ => .nil
  | _, _, _ + 1, .nil => .nil
  | _, _, n + 1, .cons r t => .cons r (Vals.take n t)
theorem Vals.drop : ∀ {xs : List V} {us : List Value} (n : Nat), Vals xs us → Vals (xs.drop n) (us.drop n)
  | _, _, 0, r => r
  | _, _, _ + 1, .nil => .nil
  | _, _, n + 1, .cons _ t => Vals.drop n t
def RelO : Option V → Option Value → Prop
  | some v, some u => RelV v u
  | none, none => True
  | _, _ => False
def KV {κ : Type} : List (κ × V) → List (κ × Value) → Prop := Paired fun (p : κ × V) (q : κ × Value) => p.1 = q.1 ∧ RelV p.2 q.2
def kV : Key → V
  | .inl i => .int i
  | .inr x => .str x
inductive HO where
  | lst (xs : List V)
  | tup (xs : List V)
  | dK (kvs : List (Key × V)) | dT (kvs : List (List Key × V))
  | set (S : Int → Bool) (n : Nat)
  | ins (C dx : Addr) (fs : List (Str × V))
  | own (x : Addr)
  | xd (fs : List (Str × V))
  | met (f x : Addr)
  | rng (lo hi : Int)
  | frz (o : Obj) (u : HO)
  | tbl (ps : Array Value)
  | ext (φ : Heap → Prop)
abbrev Hp := Addr → Option HO
def upd (H : Hp) (a : Addr) (o : HO) : Hp := fun b => if b = a then some o else H b
theorem upd_same {H : Hp} {a : Addr} {o : HO} : upd H a o a = some o := by unfold upd; rw [if_pos rfl]
theorem upd_ne {H : Hp} {a b : Addr} {o : HO} (h : b ≠ a) : upd H a o b = H b := by unfold upd; rw [if_neg h]
theorem ne_of {H : Hp} {a b : Addr} {o u : HO} (h : H a = some o) (h' : H b = some u) (d : o ≠ u) : a ≠ b := by
  intro e; subst e; rw [h] at h'; exact d (Option.some.inj h')
theorem ne_of_none {H : Hp} {a b : Addr} {o : HO} (h : H a = some o) (h' : H b = none) : a ≠ b := by
  intro e; subst e; rw [h] at h'; cases h'
section
variable (P : Program) (w : World)
def ObjOk (H : Hp) (h : Heap) (a : Addr) : HO → Prop
  | .lst xs => xs.length ≤ sizeLine ∧ ∃ (its : List Value) (n : Nat), Vals xs its ∧ h.get? a = some { cls := .type "list", data := .seq its.toArray n }
  | .tup xs => xs.length ≤ sizeLine ∧ ∃ its : List Value, Vals xs its ∧ IsTup h a its.toArray
  | .dK kvs => kvs.length ≤ sizeLine ∧ (a == sysModules) = false ∧ ∃ vs, KV kvs vs ∧ h.DictOf (mixKind P w) a vs
  | .dT kvs => kvs.length ≤ sizeLine ∧ (a == sysModules) = false ∧ ∃ xs : List (List Key × Addr × Value),
      Paired (fun (p : List Key × V) (q : List Key × Addr × Value) => p.1 = q.1 ∧ H q.2.1 = some (.tup (p.1.map kV)) ∧ RelV p.2 q.2.2) kvs xs ∧
      ∃ o es ep, h.get? a = some o ∧ o.ExactDict ∧ o.data = .dict es ep ∧ es.toList = xs.map (entryOfKey (tupleKind (mixKind P w))) ∧ (xs.map (·.1)).Nodup
  | .set S n => h.SetOf (intKind P w) a S n
  | .ins C dx fs => H dx = some (.own a) ∧ fs.length ≤ 1000 ∧ dx ≠ a ∧ h.get? a = some (PySem.W.instObj C dx) ∧
      ∃ mA, h.Ns1 dx mA ∧ (∀ f, RelO (fs.lookup f) (mA f)) ∧ PySem.Within mA (fs.map (·.1))
  | .own _ => ∃ o, h.get? a = some o
  | .xd fs => ∃ mA, h.Ns1 a mA ∧ ∀ f, RelO (fs.lookup f) (mA f)
  | .rng lo hi => ∃ t u v, h.get? a = some { cls := .type "range", data := .fields #[.int lo t, .int hi u, .int 1 v] }
  | .frz o u => h.get? a = some o ∧ ObjOk H h a u
  | .tbl ps => h.get? a = some { cls := .none, data := .fields ps }
  | .met f x => h.get? a = some (PySem.W.methodObj (.ref f) (.ref x))
  | .ext φ => φ h ∧ (∃ o, h.get? a = some o) ∧ ∀ h1 h2 : Heap, φ h1 → (∀ o, h1.get? a = some o → h2.get? a = some o) → φ h2
def HOk (H : Hp) (h : Heap) : Prop := ∀ a o, H a = some o → ObjOk P w H h a o
end
section
variable {P : Program} {w : World} {H H' : Hp} {h h' : Heap} {a : Addr} {o : HO}
theorem ObjOk.lt (x : ObjOk P w H h a o) : a < h.objs.size := by
  cases o with
  | lst xs => obtain ⟨_, _, _, _, e⟩ := x; exact Heap.lt_size e
  | tup xs => obtain ⟨_, _, _, p⟩ := x; exact p.lt
  | dK kvs => obtain ⟨_, _, _, _, o, _, _, e, _⟩ := x; exact Heap.lt_size e
  | dT kvs => obtain ⟨_, _, _, _, o, _, _, e, _⟩ := x; exact Heap.lt_size e
  | set S n => obtain ⟨o, _, _, _, e, _⟩ := x; exact Heap.lt_size e
  | ins C dx fs => obtain ⟨_, _, _, e, _⟩ := x; exact Heap.lt_size e
  | own y => obtain ⟨_, e⟩ := x; exact Heap.lt_size e
  | xd fs => obtain ⟨_, ⟨_, _, _, e, _⟩, _⟩ := x; exact Heap.lt_size e
  | rng lo hi => obtain ⟨_, _, _, e⟩ := x; exact Heap.lt_size e
  | frz ob u => obtain ⟨e, _⟩ := x; exact Heap.lt_size e
  | tbl ps => exact Heap.lt_size (show h.get? a = some _ from x)
  | met f y => exact Heap.lt_size (show h.get? a = some _ from x)
  | ext φ => obtain ⟨_, ⟨_, e⟩, _⟩ := x; exact Heap.lt_size e
theorem Paired.mapP {α β : Type} {F G : α → β → Prop} : ∀ {l₁ : List α} {l₂ : List β}, Paired F l₁ l₂ → (∀ a b, F a b → G a b) → Paired G l₁ l₂
  | _, _, .nil, _ => .nil
  | _, _, .cons r t, f => .cons (f _ _ r) (Paired.mapP t f)
theorem ObjOk.stay (x : ObjOk P w H h a o) (k : ∀ b u, (b = a ∨ H b = some (.own a)) → h.get? b = some u → h'.get? b = some u)
    (ho : ∀ b, H b = some (.own a) → H' b = some (.own a)) (ht : ∀ b xs, H b = some (.tup xs) → H' b = some (.tup xs)) : ObjOk P w H' h' a o := by
  induction o with
  | lst xs => obtain ⟨z, its, n, r, e⟩ := x; exact ⟨z, its, n, r, k _ _ (.inl rfl) e⟩
  | tup xs => obtain ⟨z, its, r, ob, e, c⟩ := x; exact ⟨z, its, r, ob, k _ _ (.inl rfl) e, c⟩
  | dK kvs => obtain ⟨z, y, vs, r, ob, es, ep, e, c⟩ := x; exact ⟨z, y, vs, r, ob, es, ep, k _ _ (.inl rfl) e, c⟩
  | dT kvs =>
    obtain ⟨z, y, xs, r, ob, es, ep, e, c⟩ := x
    exact ⟨z, y, xs, Paired.mapP r fun p q z => ⟨z.1, ht _ _ z.2.1, z.2.2⟩, ob, es, ep, k _ _ (.inl rfl) e, c⟩
  | set S n => obtain ⟨ob, es, ep, t, e, c⟩ := x; exact ⟨ob, es, ep, t, k _ _ (.inl rfl) e, c⟩
  | ins C dx fs =>
    obtain ⟨d, z, ne, e, mA, ⟨od, es, ep, e2, c⟩, r⟩ := x
    exact ⟨ho _ d, z, ne, k _ _ (.inl rfl) e, mA, ⟨od, es, ep, k _ _ (.inr d) e2, c⟩, r⟩
  | own y => obtain ⟨ob, e⟩ := x; exact ⟨ob, k _ _ (.inl rfl) e⟩
  | xd fs => obtain ⟨mA, ⟨od, es, ep, e, c⟩, r⟩ := x; exact ⟨mA, ⟨od, es, ep, k _ _ (.inl rfl) e, c⟩, r⟩
  | rng lo hi => obtain ⟨t, u, v, e⟩ := x; exact ⟨t, u, v, k _ _ (.inl rfl) e⟩
  | frz ob u ih => obtain ⟨e, q⟩ := x; exact ⟨k _ _ (.inl rfl) e, ih q⟩
  | tbl ps =>
    have e : h.get? a = some { cls := .none, data := .fields ps } := x
    show h'.get? a = some { cls := .none, data := .fields ps }
    exact k a _ (.inl rfl) e
  | met f y =>
    have e : h.get? a = some (PySem.W.methodObj (.ref f) (.ref y)) := x
    show h'.get? a = some (PySem.W.methodObj (.ref f) (.ref y))
    exact k a _ (.inl rfl) e
  | ext φ => obtain ⟨p, ⟨o, e⟩, st⟩ := x; exact ⟨st _ _ p fun o q => k _ _ (.inl rfl) q, ⟨o, k _ _ (.inl rfl) e⟩, st⟩
theorem HOk.lt (x : HOk P w H h) (e : H a = some o) : a < h.objs.size := (x a o e).lt
theorem HOk.fresh (x : HOk P w H h) (e : h.objs.size ≤ a) : H a = none := by
  cases q : H a with
  | none => rfl
  | some u => exact absurd (Nat.lt_of_lt_of_le (x.lt q) e) (Nat.lt_irrefl _)
theorem HOk.kept (x : HOk P w H h) (k : ∀ b u, h.get? b = some u → h'.get? b = some u) : HOk P w H h' := fun a o e =>
  (x a o e).stay (fun b u _ q => k b u q) (fun _ q => q) fun _ _ q => q
theorem HOk.laid (x : HOk P w H h) (k : ∀ b u, h.get? b = some u → h'.get? b = some u) (hp : h.objs.size ≤ a) (new : ObjOk P w (upd H a o) h' a o) : HOk P w (upd H a o) h' := fun b u e => by
  have hn := x.fresh hp
  by_cases hb : b = a
  · subst hb; rw [upd_same] at e; cases e; exact new
  · rw [upd_ne hb] at e
    exact (x b u e).stay (fun c v _ q => k c v q) (fun c q => by rw [upd_ne (ne_of_none q hn)]; exact q) fun c xs q => by rw [upd_ne (ne_of_none q hn)]; exact q
end
def Rd (H : Hp) (a : Addr) (u : HO) : Prop := H a = some u ∨ ∃ o, H a = some (.frz o u)
theorem Rd.of {H : Hp} {a : Addr} {u : HO} (h : H a = some u) : Rd H a u := .inl h
theorem Rd.ok {P : Program} {w : World} {H : Hp} {h : Heap} {a : Addr} {u : HO} (r : Rd H a u) (x : HOk P w H h) : ObjOk P w H h a u := by
  rcases r with r | ⟨o, r⟩
  · exact x a u r
  · obtain ⟨_, q⟩ := x a _ r
    exact q
def Mut : Option HO → Prop
  | some (.lst _) => True
  | some (.dK _) => True
  | some (.dT _) => True
  | some (.set _ _) => True
  | some (.ins _ _ _) => True
  | some (.ext _) => True
  | _ => False
section
variable {P : Program} {w : World} {H : Hp} {h h' : Heap} {x e : Addr} {o' : HO}
theorem HOk.write (ok : HOk P w H h) (mu : Mut (H x)) (he : e = x ∨ H e = some (.own x)) (k : ∀ b u, b ≠ e → h.get? b = some u → h'.get? b = some u) (heo : ∃ u, h'.get? e = some u)
    (new : ObjOk P w (upd H x o') h' x o') : HOk P w (upd H x o') h' := fun b u q => by
  have nown : ∀ c y, H c = some (.own y) → c ≠ x := fun c y r z => by subst z; rw [r] at mu; exact mu
  have ntup : ∀ c xs, H c = some (.tup xs) → c ≠ x := fun c xs r z => by subst z; rw [r] at mu; exact mu
  by_cases hb : b = x
  · subst hb; rw [upd_same] at q; cases q; exact new
  · rw [upd_ne hb] at q
    by_cases hbe : b = e
    · have q' : H b = some (.own x) := by
        rcases he with z | z
        · exact absurd (hbe.trans z) hb
        · rw [hbe]; exact z
      rw [q] at q'; cases q'
      obtain ⟨v, hv⟩ := heo
      exact ⟨v, by rw [hbe]; exact hv⟩
    · refine (ok b u q).stay (fun c v hc r => k c v ?_ r) (fun c r => by rw [upd_ne (nown c b r)]; exact r) fun c xs r => by rw [upd_ne (ntup c xs r)]; exact r
      rcases hc with rfl | hc
      · exact hbe
      · rintro rfl
        rcases he with z | z
        · exact nown c b hc z
        · rw [hc] at z; cases z; exact hb rfl
end
structure Un (fs ex : List Addr) (H H' : Hp) (h h' : Heap) : Prop where
  keep : ∀ b o, h.get? b = some o → H b = none → b ∉ fs → b ∉ ex → h'.get? b = some o
  slot : ∀ b o, h.get? b = some o → H b = none → b ∈ fs → b ∉ ex → ∃ sl, h'.get? b = some { o with slots := sl }
  free : ∀ b o, h.get? b = some o → H b = none → b ∉ ex → H' b = none
  there : ∀ b o, h.get? b = some o → b ∉ ex → ∃ o', h'.get? b = some o'
  tups : ∀ b xs, H b = some (.tup xs) → H' b = some (.tup xs)
  frzs : ∀ b o u, H b = some (.frz o u) → H' b = some (.frz o u)
  tbls : ∀ b ps, H b = some (.tbl ps) → ∃ more, H' b = some (.tbl (ps ++ more))
section
variable {fs fs' ex ex' : List Addr} {H H1 H2 : Hp} {h h1 h2 h' : Heap} {a x e : Addr} {o : HO}
theorem Un.any (u : Un fs ex H H1 h h1) {b : Addr} {ob : Obj} (q : h.get? b = some ob) (n : H b = none) (hx : b ∉ ex) : ∃ sl, h1.get? b = some { ob with slots := sl } := by
  by_cases hb : b ∈ fs
  · exact u.slot b ob q n hb hx
  · exact ⟨ob.slots, u.keep b ob q n hb hx⟩
theorem Un.trans (a : Un fs ex H H1 h h1) (b : Un fs ex H1 H2 h1 h2) : Un fs ex H H2 h h2 where
  keep := fun c ob q n hc hx => b.keep c ob (a.keep c ob q n hc hx) (a.free c ob q n hx) hc hx
  slot := fun c ob q n hc hx => by
    obtain ⟨sl, e1⟩ := a.slot c ob q n hc hx
    obtain ⟨sl', e2⟩ := b.slot c _ e1 (a.free c ob q n hx) hc hx
    exact ⟨sl', e2⟩
  free := fun c ob q n hx => by
    obtain ⟨o', e1⟩ := a.there c ob q hx
    exact b.free c o' e1 (a.free c ob q n hx) hx
  there := fun c ob q hx => by
    obtain ⟨o', e1⟩ := a.there c ob q hx
    exact b.there c o' e1 hx
  tups := fun c xs q => b.tups c xs (a.tups c xs q)
  frzs := fun c ob xs q => b.frzs c ob xs (a.frzs c ob xs q)
  tbls := fun c ps q => by
    obtain ⟨m1, e1⟩ := a.tbls c ps q
    obtain ⟨m2, e2⟩ := b.tbls c _ e1
    exact ⟨m1 ++ m2, by rw [e2, Array.append_assoc]⟩
theorem Un.kept (k : ∀ b u, h.get? b = some u → h'.get? b = some u) : Un fs ex H H h h' :=
  ⟨fun b ob q _ _ _ => k b ob q, fun b ob q _ _ _ => ⟨ob.slots, k b ob q⟩, fun _ _ _ n _ => n, fun b ob q _ => ⟨ob, k b ob q⟩, fun _ _ q => q, fun _ _ _ q => q, fun _ ps q => ⟨#[], by rw [q]; simp⟩⟩
theorem Un.refl : Un fs ex H H h h := Un.kept fun _ _ q => q
theorem Un.laid (k : ∀ b u, h.get? b = some u → h'.get? b = some u) (hp : h.objs.size ≤ a) (hn : H a = none) : Un fs ex H (upd H a o) h h' where
  keep := fun b u q _ _ _ => k b u q
  slot := fun b u q _ _ _ => ⟨u.slots, k b u q⟩
  free := fun b u q n _ => by rw [upd_ne (Nat.ne_of_lt (Nat.lt_of_lt_of_le (Heap.lt_size q) hp))]; exact n
  there := fun b u q _ => ⟨u, k b u q⟩
  tups := fun b xs q => by rw [upd_ne (ne_of_none q hn)]; exact q
  frzs := fun b u xs q => by rw [upd_ne (ne_of_none q hn)]; exact q
  tbls := fun b ps q => ⟨#[], by rw [upd_ne (ne_of_none q hn), q]; simp⟩
theorem Un.write (mu : Mut (H x)) (he : e = x ∨ H e = some (.own x)) (k : ∀ b u, b ≠ e → h.get? b = some u → h'.get? b = some u) (heo : ∃ u, h'.get? e = some u) : Un fs ex H (upd H x o) h h' := by
  have hx : ∀ b, H b = none → b ≠ x := fun b n z => by subst z; rw [n] at mu; exact mu
  have hb : ∀ b, H b = none → b ≠ e := fun b n z => by
    subst z
    rcases he with r | r
    · exact hx b n r
    · rw [n] at r; cases r
  have hm : ∀ b u, H b = some u → ¬ Mut (some u) → b ≠ x := fun b u q nm z => by subst z; rw [q] at mu; exact nm mu
  refine ⟨fun b u q n _ _ => k b u (hb b n) q, fun b u q n _ _ => ⟨u.slots, k b u (hb b n) q⟩, fun b u q n _ => by rw [upd_ne (hx b n)]; exact n, fun b u q _ => ?_,
    fun b xs q => by rw [upd_ne (hm b _ q fun z => z)]; exact q, fun b u xs q => by rw [upd_ne (hm b _ q fun z => z)]; exact q, fun b ps q => ⟨#[], by rw [upd_ne (hm b _ q fun z => z), q]; simp⟩⟩
  by_cases hbe : b = e
  · subst hbe; exact heo
  · exact ⟨u, k b u hbe q⟩
end
def trk (h : Heap) (H : Hp) : List Addr := (List.range h.objs.size).filter fun a => (H a).isSome
def hidT (h : Heap) (H : Hp) : Heap := PySem.W.hideAll h (trk h H)
theorem hidT_size (h : Heap) (H : Hp) : (hidT h H).objs.size = h.objs.size := PySem.W.hideAll_size _ _
theorem hidT_get {h : Heap} {H : Hp} {b : Addr} {o : Obj} (e : h.get? b = some o) (n : H b = none) : (hidT h H).get? b = some o :=
  PySem.W.hideAll_get _ e fun hm => by
    have q : (H b).isSome = true := (List.mem_filter.mp hm).2
    rw [n] at q; simp at q
theorem of_hidT {h : Heap} {H : Hp} {b : Addr} {o : Obj} (e : (hidT h H).get? b = some o) : h.get? b = some o ∧ H b = none := by
  have e' : h.get? b = some o := PySem.W.of_hideAll (trk h H) e
  refine ⟨e', ?_⟩
  cases q : H b with
  | none => rfl
  | some x =>
    have hm : b ∈ trk h H := List.mem_filter.mpr ⟨List.mem_range.mpr (Heap.lt_size e'), by simp [q]⟩
    have z : (hidT h H).get? b = none := PySem.W.hideAll_none (trk h H) hm
    rw [z] at e; cases e
end L2
namespace L2
open PySem PySem.Spec PyProof.Rows
structure Mod (K : PySem.W.Frag) (mg : Str → Option Value) (base : Heap) : Prop where
  kin : K.In base
  glob : base.Ns mainGlobals mg
  blt : ∃ mb, base.Ns builtinsNs mb ∧ ∀ x : Str, x ≠ "__name__" → mb x = bootBuiltins x
  nolimit : base.NoLimit
structure Cx where
  prog : Program
  w : World
  K : PySem.W.Frag
  mg : Str → Option Value
  base : Heap
  A : Around
  N : List Str
  s₀ : Shared
  H₀ : Hp
  env : Env
  outer : List Env
  stack : List Env
  ex : List Addr
  fn : Str → Bool
  calm : Bool
  pn : List (Addr × Obj)
  xe : Value → Shared → Prop
def frs (l : List Env) : List Addr := l.filterMap (·.frame)
abbrev Cx.fs (X : Cx) : List Addr := frs X.outer
def Vis (sc : Scope) (x : Str) : Prop := sc.names.lookup x = some .local ∨ sc.names.lookup x = some .cell ∨ sc.names.lookup x = some .free
def Loc (sc : Scope) (x : Str) : Prop := sc.names.lookup x = some .local ∨ sc.names.lookup x = some .cell
def Look (env : Env) (h : Heap) (m : Str → Option Value) (x : Str) (u : Value) : Prop :=
  (env.kindOf x = some .local ∧ m x = some u) ∨ ((env.kindOf x = some .cell ∨ env.kindOf x = some .free) ∧ ∃ c, env.cells.lookup x = some c ∧ h.IsCell c (some u))
structure Cx.Ok (X : Cx) : Prop where
  mod : Mod X.K X.mg X.base
  kind : X.env.scope.kind = .function
  glob : X.env.globals = mainGlobals
  blt : X.env.builtins = builtinsNs
  above : X.s₀.heap.objs.size ≤ X.env.locals
  inj : ∀ x y c, X.env.cells.lookup x = some c → X.env.cells.lookup y = some c → x = y
  has : ∀ x, (X.env.kindOf x = some .cell ∨ X.env.kindOf x = some .free) → ∃ c, X.env.cells.lookup x = some c
  cab : ∀ x c, X.fn x = true → X.env.cells.lookup x = some c → X.s₀.heap.objs.size ≤ c
  hd : X.calm = true → X.A.handled = none
  frames : X.A.frames = some X.stack
  stk : X.stack = X.outer ∨ (X.stack = X.env :: X.outer ∧ X.env.frame = some X.env.locals)
  exf : ∀ b ∈ X.ex, b ≠ X.env.locals ∧ ∀ x c, X.env.cells.lookup x = some c → c ≠ b
  bs : ∀ b o, X.base.get? b = some o → X.s₀.heap.get? b = some o ∧ X.H₀ b = none
  bsz : X.base.objs.size ≤ X.s₀.heap.objs.size
  noex : ∀ b o, X.base.get? b = some o → b ∉ X.ex
  exfs : ∀ b ∈ X.ex, b ∉ X.fs
  funs : X.s₀.heap.FunFrames X.base X.outer
  frf : ∀ b ∈ X.fs, X.H₀ b = none
structure Inv (X : Cx) (pins : List (Addr × Obj)) (σ : List (Option V)) (H : Hp) (s : Shared) : Prop where
  ok : X.Ok
  os : s.os = X.s₀.os
  bare : AllBare s.gens
  base : Un X.fs X.ex X.H₀ H X.s₀.heap s.heap
  loc : ∃ m, s.heap.Ns X.env.locals m ∧ ∀ (i : Nat) (x : Str) (v : V), X.N[i]? = some x → σ[i]? = some (some v) → Vis X.env.scope x → ∃ u, RelV v u ∧ Look X.env s.heap m x u
  cell : ∀ x c, X.env.cells.lookup x = some c → ∃ v, s.heap.IsCell c v
  free : H X.env.locals = none
  freeC : ∀ x c, X.env.cells.lookup x = some c → H c = none
  pin : ∀ p ∈ X.pn ++ pins, s.heap.get? p.1 = some p.2 ∧ H p.1 = none ∧ p.1 ≠ X.env.locals ∧ p.1 ∉ X.fs ∧ ∀ v, p.2.data ≠ .cell v
  hok : HOk X.prog X.w H s.heap
  len : σ.length = X.N.length
section
variable {X : Cx} {pins : List (Addr × Obj)} {σ : List (Option V)} {H H' : Hp} {s : Shared} {h' : Heap}
theorem Cx.Ok.nofr (ok : X.Ok) {b : Addr} {o : Obj} (e : X.base.get? b = some o) : b ∉ X.fs := fun hb => by
  have := (ok.funs.mem hb).1
  rw [e] at this; cases this
theorem Inv.bs (I : Inv X pins σ H s) : ∀ b o, X.base.get? b = some o → s.heap.get? b = some o ∧ H b = none := fun b o e =>
  ⟨I.base.keep b o (I.ok.bs b o e).1 (I.ok.bs b o e).2 (I.ok.nofr e) (I.ok.noex b o e), I.base.free b o (I.ok.bs b o e).1 (I.ok.bs b o e).2 (I.ok.noex b o e)⟩
theorem Inv.bk (I : Inv X pins σ H s) : ∀ b o, X.base.get? b = some o → s.heap.get? b = some o := fun b o e => (I.bs b o e).1
theorem Inv.mod (I : Inv X pins σ H s) : Mod X.K X.mg X.base := I.ok.mod
theorem Inv.kIn (I : Inv X pins σ H s) : X.K.In s.heap := I.ok.mod.kin.keeps I.bk
theorem Inv.nolimit (I : Inv X pins σ H s) : s.heap.NoLimit := I.ok.mod.nolimit.keeps I.bk
theorem Inv.lt (I : Inv X pins σ H s) : X.env.locals < s.heap.objs.size := let ⟨_, hn, _⟩ := I.loc; hn.lt
theorem Inv.sz (I : Inv X pins σ H s) : X.s₀.heap.objs.size ≤ s.heap.objs.size := Nat.le_trans I.ok.above (Nat.le_of_lt I.lt)
theorem Inv.nofs (I : Inv X pins σ H s) {a : Addr} (h : s.heap.objs.size ≤ a) : a ∉ X.fs := fun hb => by
  obtain ⟨_, o, ho, _⟩ := I.ok.funs.mem hb
  exact absurd (Nat.lt_of_lt_of_le (Heap.lt_size ho) (Nat.le_trans I.sz h)) (Nat.lt_irrefl _)
theorem Inv.cne (I : Inv X pins σ H s) : ∀ x c, X.env.cells.lookup x = some c → c ≠ X.env.locals := fun x c e z => by
  obtain ⟨v, o, ho, hd⟩ := I.cell x c e
  obtain ⟨m, ⟨o', es, ep, ho', hd', _⟩, _⟩ := I.loc
  rw [z, ho'] at ho; cases ho; rw [hd'] at hd; cases hd
theorem Inv.funs (I : Inv X pins σ H s) : s.heap.FunFrames X.base X.outer := by
  have all : ∀ (l : List Env), (∀ b ∈ frs l, b ∈ X.fs) → X.s₀.heap.FunFrames X.base l → s.heap.FunFrames X.base l := by
    intro l
    induction l with
    | nil => intro _ _; trivial
    | cons env r ih =>
      intro hs hl
      obtain ⟨hk, ⟨L, o, hf, hn, ho, hd⟩, hr⟩ := hl
      have hL : L ∈ X.fs := hs L (by unfold frs; rw [List.filterMap_cons, hf]; exact List.mem_cons_self)
      obtain ⟨sl, e⟩ := I.base.slot L o ho (I.ok.frf L hL) hL fun z => I.ok.exfs L z hL
      exact ⟨hk, ⟨L, _, hf, hn, e, hd⟩, ih (fun b hb => hs b (by unfold frs; rw [List.filterMap_cons, hf]; exact List.mem_cons_of_mem _ hb)) hr⟩
  exact all X.outer (fun _ hb => hb) I.ok.funs
theorem Inv.stack (I : Inv X pins σ H s) : s.heap.FunFrames X.base X.stack := by
  rcases I.ok.stk with e | ⟨e, hf⟩
  · rw [e]; exact I.funs
  · rw [e]
    obtain ⟨m, hn, _⟩ := I.loc
    refine .cons (by rw [I.ok.kind]; decide) hf hn ?_ I.funs
    exact Heap.get?_none_of_le (Nat.le_trans I.ok.bsz I.ok.above)
theorem Inv.stkSub (I : Inv X pins σ H s) : ∀ b ∈ frs X.stack, b ∈ X.env.locals :: X.fs := fun b hb => by
  rcases I.ok.stk with e | ⟨e, hf⟩
  · rw [e] at hb; exact List.mem_cons_of_mem _ hb
  · rw [e] at hb
    unfold frs at hb
    rw [List.filterMap_cons, hf] at hb
    exact hb
theorem Inv.stkFree (I : Inv X pins σ H s) : ∀ b ∈ frs X.stack, H b = none := fun b hb => by
  rcases List.mem_cons.mp (I.stkSub b hb) with e | hb
  · rw [e]; exact I.free
  · obtain ⟨_, o, ho, _⟩ := I.ok.funs.mem hb
    exact I.base.free b o ho (I.ok.frf b hb) fun z => I.ok.exfs b z hb
theorem Inv.step {g' : Array GenState} {t' : Nat} {d' : Drawn} {ch : List Addr} (I : Inv X pins σ H s)
    (hch : ∀ b ∈ ch, (b ∈ X.ex ∨ X.s₀.heap.objs.size ≤ b) ∧ b ≠ X.env.locals ∧ (∀ x c, X.env.cells.lookup x = some c → c ≠ b) ∧ ∀ p ∈ X.pn ++ pins, p.1 ≠ b)
    (keep : ∀ b o, b ≠ X.env.locals → b ∉ X.fs → b ∉ ch → s.heap.get? b = some o → H b = none → h'.get? b = some o)
    (slot : ∀ b o, b ≠ X.env.locals → b ∈ X.fs → b ∉ ch → s.heap.get? b = some o → H b = none → ∃ sl, h'.get? b = some { o with slots := sl }) (free : ∀ b o, b ∉ ch → s.heap.get? b = some o → H b = none → H' b = none)
    (there : ∀ b o, b ∉ ch → s.heap.get? b = some o → ∃ o', h'.get? b = some o')
    (tups : ∀ b xs, H b = some (.tup xs) → H' b = some (.tup xs)) (frzs : ∀ b o u, H b = some (.frz o u) → H' b = some (.frz o u)) (tbls : ∀ b ps, H b = some (.tbl ps) → ∃ more, H' b = some (.tbl (ps ++ more)))
    (ns : ∀ m, s.heap.Ns X.env.locals m → h'.Ns X.env.locals m) (hok : HOk X.prog X.w H' h') (hg : AllBare g') :
    Inv X pins σ H' { s with heap := h', gens := g', drawn := d', toks := t' } := by
  have neL : ∀ b o, X.s₀.heap.get? b = some o → b ≠ X.env.locals := fun b o e => Nat.ne_of_lt (Nat.lt_of_lt_of_le (Heap.lt_size e) I.ok.above)
  have neC : ∀ b o, X.s₀.heap.get? b = some o → b ∉ X.ex → b ∉ ch := fun b o e hx hb => by
    rcases (hch b hb).1 with z | z
    · exact hx z
    · exact absurd (Nat.lt_of_lt_of_le (Heap.lt_size e) z) (Nat.lt_irrefl _)
  have cellK : ∀ x c, X.env.cells.lookup x = some c → ∀ v, s.heap.IsCell c v → h'.IsCell c v := fun x c e v ⟨o, ho, hd⟩ => by
    have nch : c ∉ ch := fun z => (hch c z).2.2.1 x c e rfl
    by_cases hc : c ∈ X.fs
    · obtain ⟨sl, q⟩ := slot c o (I.cne x c e) hc nch ho (I.freeC x c e)
      exact ⟨_, q, hd⟩
    · exact ⟨o, keep c o (I.cne x c e) hc nch ho (I.freeC x c e), hd⟩
  refine ⟨I.ok, I.os, hg, ⟨fun b o e n hb hx => ?_, fun b o e n hb hx => ?_, fun b o e n hx => ?_, fun b o e hx => ?_, fun b xs e => tups b xs (I.base.tups b xs e), fun b o xs e => frzs b o xs (I.base.frzs b o xs e), fun b ps e => ?_⟩, ?_, fun x c e => ?_, ?_, fun x c e => ?_, fun p hp => ?_, hok, I.len⟩
  · exact keep b o (neL b o e) hb (neC b o e hx) (I.base.keep b o e n hb hx) (I.base.free b o e n hx)
  · obtain ⟨sl, e1⟩ := I.base.slot b o e n hb hx
    obtain ⟨sl', e2⟩ := slot b _ (neL b o e) hb (neC b o e hx) e1 (I.base.free b o e n hx)
    exact ⟨sl', e2⟩
  · obtain ⟨o', e1⟩ := I.base.there b o e hx
    exact free b o' (neC b o e hx) e1 (I.base.free b o e n hx)
  · obtain ⟨o', e1⟩ := I.base.there b o e hx
    exact there b o' (neC b o e hx) e1
  · obtain ⟨m1, e1⟩ := I.base.tbls b ps e
    obtain ⟨m2, e2⟩ := tbls b _ e1
    exact ⟨m1 ++ m2, by rw [e2, Array.append_assoc]⟩
  · obtain ⟨m, hn, hl⟩ := I.loc
    refine ⟨m, ns m hn, fun i x v e1 e2 e3 => ?_⟩
    obtain ⟨u, r, l⟩ := hl i x v e1 e2 e3
    refine ⟨u, r, ?_⟩
    rcases l with l | ⟨k, c, e, z⟩
    · exact .inl l
    · exact .inr ⟨k, c, e, cellK x c e _ z⟩
  · obtain ⟨v, z⟩ := I.cell x c e
    exact ⟨v, cellK x c e v z⟩
  · obtain ⟨m, ⟨o, _, _, ho, _⟩, _⟩ := I.loc
    exact free _ o (fun z => (hch _ z).2.1 rfl) ho I.free
  · obtain ⟨v, o, ho, hd⟩ := I.cell x c e
    exact free c o (fun z => (hch c z).2.2.1 x c e rfl) ho (I.freeC x c e)
  · obtain ⟨e, n, ne, nf, d⟩ := I.pin p hp
    have nch : p.1 ∉ ch := fun z => (hch p.1 z).2.2.2 p hp rfl
    exact ⟨keep p.1 p.2 ne nf nch e n, free p.1 p.2 nch e n, ne, nf, d⟩
theorem Inv.un {t' : Nat} (I : Inv X pins σ H s) (u : Un X.fs [] H H' s.heap h') (hok : HOk X.prog X.w H' h') : Inv X pins σ H' { s with heap := h', toks := t' } := by
  obtain ⟨m, ⟨o, es, ep, ho, r⟩, _⟩ := id I.loc
  obtain ⟨sl, hL⟩ := u.any ho I.free (by simp)
  exact I.step (g' := s.gens) (d' := s.drawn) (ch := []) (fun _ z => nomatch z) (fun b o _ hb _ e n => u.keep b o e n hb (by simp)) (fun b o _ hb _ e n => u.slot b o e n hb (by simp)) (fun b o _ e n => u.free b o e n (by simp)) (fun b o _ e => u.there b o e (by simp)) u.tups u.frzs u.tbls (fun m' hm => by
    obtain ⟨o', es', ep', ho', r'⟩ := hm
    rw [ho] at ho'; cases ho'
    exact ⟨_, es', ep', hL, r'⟩) hok I.bare
theorem Inv.call {g' : Array GenState} {t' : Nat} {d' : Drawn} {ch : List Addr} (I : Inv X pins σ H s) (u : Un (frs X.stack) ch H H' s.heap h') (hok : HOk X.prog X.w H' h') (hg : AllBare g')
    (hch : ∀ b ∈ ch, (b ∈ X.ex ∨ X.s₀.heap.objs.size ≤ b) ∧ b ≠ X.env.locals ∧ (∀ x c, X.env.cells.lookup x = some c → c ≠ b) ∧ ∀ p ∈ X.pn ++ pins, p.1 ≠ b) :
    Inv X pins σ H' { s with heap := h', gens := g', drawn := d', toks := t' } := by
  obtain ⟨m, ⟨o, es, ep, ho, r⟩, _⟩ := id I.loc
  obtain ⟨sl, hL⟩ := u.any ho I.free fun z => (hch _ z).2.1 rfl
  exact I.step (ch := ch) hch (fun b o hL hb hc e n => u.keep b o e n (fun z => (List.mem_cons.mp (I.stkSub b z)).elim hL hb) hc) (fun b o _ _ hc e n => u.any e n hc) (fun b o hc e n => u.free b o e n hc) (fun b o hc e => u.there b o e hc) u.tups u.frzs u.tbls (fun m' hm => by
    obtain ⟨o', es', ep', ho', r'⟩ := hm
    rw [ho] at ho'; cases ho'
    exact ⟨_, es', ep', hL, r'⟩) hok hg
theorem Inv.turned {t' : Nat} {it : Addr} (I : Inv X pins σ H s) (k : ∀ b o, b ≠ it → s.heap.get? b = some o → h'.get? b = some o) (hn : H it = none) (hL : it ≠ X.env.locals)
    (h1 : it ∈ X.ex ∨ X.s₀.heap.objs.size ≤ it) (h2 : ∀ x c, X.env.cells.lookup x = some c → c ≠ it) (h3 : ∀ p ∈ X.pn ++ pins, p.1 ≠ it) : Inv X pins σ H { s with heap := h', toks := t' } := by
  have nit : ∀ b u, H b = some u → b ≠ it := fun b u e z => by rw [z, hn] at e; cases e
  refine I.step (g' := s.gens) (d' := s.drawn) (ch := [it]) (fun b hb => ?_) (fun b o _ _ hc e _ => k b o (fun z => hc (by simp [z])) e) (fun b o _ _ hc e _ => ⟨o.slots, k b o (fun z => hc (by simp [z])) e⟩) (fun _ _ _ _ n => n)
    (fun b o hc e => ⟨o, k b o (fun z => hc (by simp [z])) e⟩) (fun _ _ e => e) (fun _ _ _ e => e) (fun b ps e => ⟨#[], by rw [e]; simp⟩) (fun m hm => ?_) (fun b u e => ?_) I.bare
  · have e : b = it := by simpa using hb
    subst e
    exact ⟨h1, hL, h2, h3⟩
  · obtain ⟨o, es, ep, ho, r⟩ := hm
    exact ⟨o, es, ep, k _ o (Ne.symm hL) ho, r⟩
  · refine (I.hok b u e).stay (fun c v hc q => k c v ?_ q) (fun _ q => q) fun _ _ q => q
    rcases hc with z | z
    · rw [z]; exact nit b u e
    · exact nit c _ z
theorem Inv.tok (I : Inv X pins σ H s) (t : Nat) : Inv X pins σ H { s with toks := t } := I.un (h' := s.heap) (t' := t) Un.refl I.hok
theorem Inv.kept {t' : Nat} (I : Inv X pins σ H s) (k : ∀ b u, s.heap.get? b = some u → h'.get? b = some u) : Inv X pins σ H { s with heap := h', toks := t' } := I.un (Un.kept k) (I.hok.kept k)
theorem Inv.laid {a : Addr} {o : HO} {t' : Nat} (I : Inv X pins σ H s) (k : ∀ b u, s.heap.get? b = some u → h'.get? b = some u) (hp : s.heap.objs.size ≤ a) (new : ObjOk X.prog X.w (upd H a o) h' a o) :
    Inv X pins σ (upd H a o) { s with heap := h', toks := t' } := I.un (Un.laid k hp (I.hok.fresh hp)) (I.hok.laid k hp new)
theorem Inv.write {x e : Addr} {o : HO} {t' : Nat} (I : Inv X pins σ H s) (mu : Mut (H x)) (he : e = x ∨ H e = some (.own x)) (k : ∀ b u, b ≠ e → s.heap.get? b = some u → h'.get? b = some u) (heo : ∃ u, h'.get? e = some u)
    (new : ObjOk X.prog X.w (upd H x o) h' x o) : Inv X pins σ (upd H x o) { s with heap := h', toks := t' } := I.un (Un.write mu he k heo) (I.hok.write mu he k heo new)
theorem Inv.weak {σ' : List (Option V)} (I : Inv X pins σ H s) (hl : σ'.length = σ.length) (w : ∀ (i : Nat) v, σ'[i]? = some (some v) → σ[i]? = some (some v)) : Inv X pins σ' H s :=
  ⟨I.ok, I.os, I.bare, I.base, let ⟨m, hn, hl'⟩ := I.loc; ⟨m, hn, fun i x v e1 e2 e3 => hl' i x v e1 (w i v e2) e3⟩, I.cell, I.free, I.freeC, I.pin, I.hok, hl.trans I.len⟩
theorem Inv.pins_of {pins' : List (Addr × Obj)} (I : Inv X pins σ H s) (h : ∀ p ∈ pins', s.heap.get? p.1 = some p.2 ∧ H p.1 = none ∧ p.1 ≠ X.env.locals ∧ p.1 ∉ X.fs ∧ ∀ v, p.2.data ≠ .cell v) : Inv X pins' σ H s :=
  ⟨I.ok, I.os, I.bare, I.base, I.loc, I.cell, I.free, I.freeC, fun p hp => (List.mem_append.mp hp).elim (fun z => I.pin p (List.mem_append_left _ z)) (h p), I.hok, I.len⟩
theorem nodup_ix {N : List Str} (hN : N.Nodup) {i j : Nat} {x : Str} (a : N[i]? = some x) (b : N[j]? = some x) : i = j := by
  obtain ⟨h1, e1⟩ := List.getElem?_eq_some_iff.mp a
  obtain ⟨h2, e2⟩ := List.getElem?_eq_some_iff.mp b
  exact (List.getElem_inj hN).mp (e1.trans e2.symm)
theorem store_ok2 {M : Model} {A : Around} {E : Value → Shared → Prop} {i : Nat} {x : Str} {v : V} {u : Value} {Q : Unit → Shared → Prop} (I : Inv X pins σ H s) (hN : X.N.Nodup) (hi : X.N[i]? = some x) (hx : Loc X.env.scope x) (r : RelV v u)
    (h : ∀ s', Inv X pins (σ.set i (some v)) H s' → (∃ a, Heap.SameBut a s.heap s'.heap ∧ (a = X.env.locals ∨ X.env.cells.lookup x = some a)) → Q () s') (hf : X.fn x = true ∨ X.env.scope.names.lookup x = some .local := by first | exact .inl rfl | exact .inr rfl | assumption) : wpAny M A (storeName X.env x u) Q E s := by
  obtain ⟨m, hn, hl⟩ := id I.loc
  have hcls : (X.env.scope.kind == .class || (X.env.scope.kind == .module && X.env.locals != X.env.globals)) = false := by rw [I.ok.kind]; rfl
  have hiσ : i < σ.length := by rw [I.len]; exact (List.getElem?_eq_some_iff.mp hi).1
  have cne := I.cne
  have tracked : ∀ {a : Addr} {h' : Heap}, (∃ o, s.heap.get? a = some o ∧ H a = none) → Heap.SameBut a s.heap h' → HOk X.prog X.w H h' := fun {a h'} ha hs b ob e => by
    obtain ⟨_, _, hfree⟩ := ha
    refine (I.hok b ob e).stay (fun c w' hc q => (hs.2 c ?_).trans q) (fun _ q => q) fun _ _ q => q
    rintro rfl
    rcases hc with rfl | hc
    · rw [hfree] at e; cases e
    · rw [hfree] at hc; cases hc
  rcases hx with hk | hk
  · refine wpAny_storeName_local hk hn (fun h' hn' hs => ?_) hcls
    obtain ⟨oL, _, _, hoL, _⟩ := id hn
    refine h _ ⟨I.ok, I.os, I.bare, ⟨fun b o e n hb hx => ?_, fun b o e n hb hx => ?_, I.base.free, fun b o e hx => ?_, I.base.tups, I.base.frzs, I.base.tbls⟩, ⟨_, hn', fun j y v' e1 e2 e3 => ?_⟩, fun y c e => ?_, I.free, I.freeC, fun p hp => ?_, tracked ⟨oL, hoL, I.free⟩ hs, by simpa using I.len⟩ ⟨_, hs, .inl rfl⟩
    · exact (hs.2 b (Nat.ne_of_lt (Nat.lt_of_lt_of_le (Heap.lt_size e) I.ok.above))).trans (I.base.keep b o e n hb hx)
    · obtain ⟨sl, e1⟩ := I.base.slot b o e n hb hx
      exact ⟨sl, (hs.2 b (Nat.ne_of_lt (Nat.lt_of_lt_of_le (Heap.lt_size e) I.ok.above))).trans e1⟩
    · obtain ⟨o', e1⟩ := I.base.there b o e hx
      exact ⟨o', (hs.2 b (Nat.ne_of_lt (Nat.lt_of_lt_of_le (Heap.lt_size e) I.ok.above))).trans e1⟩
    · by_cases hj : j = i
      · subst hj
        rw [hi] at e1; cases e1
        rw [List.getElem?_set_self hiσ] at e2
        cases e2
        exact ⟨u, r, .inl ⟨hk, by simp⟩⟩
      · rw [List.getElem?_set_ne (Ne.symm hj)] at e2
        obtain ⟨u', r', q⟩ := hl j y v' e1 e2 e3
        refine ⟨u', r', ?_⟩
        rcases q with ⟨k, e⟩ | ⟨k, c, e, z⟩
        · refine .inl ⟨k, ?_⟩
          have : y ≠ x := fun e => hj (nodup_ix hN e1 (e ▸ hi))
          simp [this, e]
        · exact .inr ⟨k, c, e, z.sameBut hs (cne y c e)⟩
    · obtain ⟨w', z⟩ := I.cell y c e
      exact ⟨w', z.sameBut hs (cne y c e)⟩
    · obtain ⟨e, n, ne, nf, d⟩ := I.pin p hp
      exact ⟨(hs.2 p.1 ne).trans e, n, ne, nf, d⟩
  · have hfn : X.fn x = true := by
      rcases hf with z | z
      · exact z
      · rw [z] at hk; cases hk
    obtain ⟨c, hc⟩ := I.ok.has x (.inl hk)
    obtain ⟨w', z⟩ := I.cell x c hc
    refine wpAny_storeName_cell I.ok.kind hk hc z (fun h' hc' hs => ?_)
    obtain ⟨oc, hoc, hocd⟩ := id z
    refine h { s with heap := h' } ⟨I.ok, I.os, I.bare, ⟨fun b o e n hb hx => ?_, fun b o e n hb hx => ?_, I.base.free, fun b o e hx => ?_, I.base.tups, I.base.frzs, I.base.tbls⟩, ⟨m, hn.sameBut hs (Ne.symm (cne x c hc)), fun j y v' e1 e2 e3 => ?_⟩, fun y c' e => ?_, I.free, I.freeC, fun p hp => ?_, tracked ⟨oc, hoc, I.freeC x c hc⟩ hs, by simpa using I.len⟩ ⟨c, hs, .inr hc⟩
    · exact (hs.2 b (Nat.ne_of_lt (Nat.lt_of_lt_of_le (Heap.lt_size e) (I.ok.cab x c hfn hc)))).trans (I.base.keep b o e n hb hx)
    · obtain ⟨sl, e1⟩ := I.base.slot b o e n hb hx
      exact ⟨sl, (hs.2 b (Nat.ne_of_lt (Nat.lt_of_lt_of_le (Heap.lt_size e) (I.ok.cab x c hfn hc)))).trans e1⟩
    · obtain ⟨o', e1⟩ := I.base.there b o e hx
      exact ⟨o', (hs.2 b (Nat.ne_of_lt (Nat.lt_of_lt_of_le (Heap.lt_size e) (I.ok.cab x c hfn hc)))).trans e1⟩
    · by_cases hj : j = i
      · subst hj
        rw [hi] at e1; cases e1
        rw [List.getElem?_set_self hiσ] at e2
        cases e2
        exact ⟨u, r, .inr ⟨.inl hk, c, hc, hc'⟩⟩
      · rw [List.getElem?_set_ne (Ne.symm hj)] at e2
        obtain ⟨u', r', q⟩ := hl j y v' e1 e2 e3
        refine ⟨u', r', ?_⟩
        rcases q with q | ⟨k, c', e, z'⟩
        · exact .inl q
        · refine .inr ⟨k, c', e, z'.sameBut hs ?_⟩
          rintro rfl
          exact hj (nodup_ix hN e1 (I.ok.inj _ _ _ e hc ▸ hi))
    · by_cases hcc : c' = c
      · subst hcc; exact ⟨_, hc'⟩
      · obtain ⟨w2, z2⟩ := I.cell y c' e
        exact ⟨w2, z2.sameBut hs hcc⟩
    · obtain ⟨e, n, ne, nf, d⟩ := I.pin p hp
      refine ⟨(hs.2 p.1 ?_).trans e, n, ne, nf, d⟩
      intro q
      rw [q, hoc] at e
      have q' : oc = p.2 := Option.some.inj e
      exact d w' (by rw [← q']; exact hocd)
theorem store_ok {M : Model} {A : Around} {E : Value → Shared → Prop} {i : Nat} {x : Str} {v : V} {u : Value} {Q : Unit → Shared → Prop} (I : Inv X pins σ H s) (hN : X.N.Nodup) (hi : X.N[i]? = some x) (hx : Loc X.env.scope x) (r : RelV v u)
    (h : ∀ s', Inv X pins (σ.set i (some v)) H s' → Q () s') (hf : X.fn x = true ∨ X.env.scope.names.lookup x = some .local := by first | exact .inl rfl | exact .inr rfl | assumption) : wpAny M A (storeName X.env x u) Q E s :=
  store_ok2 I hN hi hx r (fun s' I' _ => h s' I') hf
theorem Inv.call' {s' : Shared} {ch : List Addr} (I : Inv X pins σ H s) (ho : s'.os = s.os) (u : Un (frs X.stack) ch H H' s.heap s'.heap) (hok : HOk X.prog X.w H' s'.heap) (hg : AllBare s'.gens)
    (hch : ∀ b ∈ ch, (b ∈ X.ex ∨ X.s₀.heap.objs.size ≤ b) ∧ b ≠ X.env.locals ∧ (∀ x c, X.env.cells.lookup x = some c → c ≠ b) ∧ ∀ p ∈ X.pn ++ pins, p.1 ≠ b) : Inv X pins σ H' s' := by
  obtain ⟨h', g', d', t', o'⟩ := s'
  have e : o' = s.os := ho
  subst e
  exact I.call (g' := g') (t' := t') (d' := d') u hok hg hch
end
abbrev XK := Value → Option Addr → Hp → Prop
abbrev St := List (Option V)
abbrev VK := V → Hp → Prop
abbrev TE := St → Hp → VK → Prop
abbrev TT := St → Hp → (Bool → Hp → Prop) → Prop
abbrev TA := St → Hp → (List V → Hp → Prop) → Prop
structure Ends where
  nx : St → Hp → Prop
  rt : VK
  bk : St → Hp → Prop := fun _ _ => False
  ct : St → Hp → Prop := fun _ _ => False
abbrev TS := Ends → St → Hp → Prop
def EP (X : Cx) (pins : List (Addr × Obj)) (σ : St) (Q : VK) (u : Value) (s' : Shared) : Prop := ∃ v H', Inv X pins σ H' s' ∧ RelV v u ∧ Q v H'
def TP (X : Cx) (pins : List (Addr × Obj)) (σ : St) (Q : Bool → Hp → Prop) (b : Bool) (s' : Shared) : Prop := ∃ H', Inv X pins σ H' s' ∧ Q b H'
def AP (X : Cx) (pins : List (Addr × Obj)) (σ : St) (Q : List V → Hp → Prop) (us : List Value) (s' : Shared) : Prop := ∃ vs H', Inv X pins σ H' s' ∧ Vals vs us ∧ Q vs H'
def SP (X : Cx) (pins : List (Addr × Obj)) (D : Ends) (f : Flow) (s' : Shared) : Prop :=
  match f with
  | .next => ∃ σ' H', Inv X pins σ' H' s' ∧ D.nx σ' H'
  | .brk => ∃ σ' H', Inv X pins σ' H' s' ∧ D.bk σ' H'
  | .cont => ∃ σ' H', Inv X pins σ' H' s' ∧ D.ct σ' H'
  | .ret u => ∃ v σ' H', Inv X pins σ' H' s' ∧ RelV v u ∧ D.rt v H'
def PE (X : Cx) (e : Expr) (t : TE) : Prop :=
  ∀ (pins : List (Addr × Obj)) (s : Shared) (σ : St) (H : Hp) (Q : VK), Inv X pins σ H s → t σ H Q → wpAny (model X.prog X.w) X.A (eval e X.env) (EP X pins σ Q) X.xe s
def PT (X : Cx) (e : Expr) (t : TT) : Prop :=
  ∀ (pins : List (Addr × Obj)) (s : Shared) (σ : St) (H : Hp) (Q : Bool → Hp → Prop), Inv X pins σ H s → t σ H Q → wpAny (model X.prog X.w) X.A (isTrue e X.env (eval e X.env)) (TP X pins σ Q) X.xe s
def PW (X : Cx) (e : Expr) (t : TT) : Prop :=
  ∀ (whole : Sem Value) (pins : List (Addr × Obj)) (s : Shared) (σ : St) (H : Hp) (Q : Bool → Hp → Prop), Inv X pins σ H s → t σ H Q → wpAny (model X.prog X.w) X.A (isTrue e X.env whole) (TP X pins σ Q) X.xe s
theorem PW.pt {X : Cx} {e : Expr} {t : TT} (h : PW X e t) : PT X e t := h _
def PA (X : Cx) (es : List Expr) (t : TA) : Prop :=
  ∀ (pos : Pos) (pins : List (Addr × Obj)) (s : Shared) (σ : St) (H : Hp) (Q : List V → Hp → Prop), Inv X pins σ H s → t σ H Q → wpAny (model X.prog X.w) X.A (spliced (backTo pos (starEach es X.env))) (AP X pins σ Q) X.xe s
def PS (X : Cx) (st : Stmt) (t : TS) : Prop :=
  ∀ (pins : List (Addr × Obj)) (s : Shared) (σ : St) (H : Hp) (D : Ends), Inv X pins σ H s → t D σ H → wpAny (model X.prog X.w) X.A (exec st X.env) (SP X pins D) X.xe s
def PSs (X : Cx) (st : List Stmt) (t : TS) : Prop :=
  ∀ (pins : List (Addr × Obj)) (s : Shared) (σ : St) (H : Hp) (D : Ends), Inv X pins σ H s → t D σ H → wpAny (model X.prog X.w) X.A (execs st X.env) (SP X pins D) X.xe s
theorem thn {α : Type} {t : Sem α} {Q Q' : α → Shared → Prop} {M : Model} {A : Around} {E : Value → Shared → Prop} {s : Shared} (h : wpAny M A t Q E s) (hQ : ∀ a s, Q a s → Q' a s) : wpAny M A t Q' E s := wpAny_mono h hQ fun _ _ x => x
end L2
namespace L2
open PySem PySem.Spec PyProof.Rows
section
variable {X : Cx}
def tVar (i : Nat) : TE := fun σ H Q => ∃ v, σ[i]? = some (some v) ∧ Q v H
def tC (v : V) : TE := fun _ H Q => Q v H
theorem pe_var {i : Nat} {x : Str} {pos : Pos} (hN : X.N[i]? = some x) (hv : Vis X.env.scope x) (hd : (x == ("__debug__" : Str)) = false := by decide) (hcd : (x == ("__classdict__" : Str)) = false := by decide) : PE X (.Name x pos) (tVar i) := by
  intro pins s σ H Q I h
  obtain ⟨v, e, h⟩ := h
  obtain ⟨m, hn, hl⟩ := I.loc
  obtain ⟨u, r, l⟩ := hl i x v hN e hv
  have fin : EP X pins σ Q u s := ⟨v, H, I, r, h⟩
  rcases l with ⟨hk, hm⟩ | ⟨hk, c, hc, hcell⟩
  · exact wpAny_Name (wpAny_loadName_local I.ok.kind hk hn hm fin) hd
  · rcases hk with hk | hk
    · exact wpAny_Name (wpAny_loadName_cell I.ok.kind hk hc hcell fin) hd
    · exact wpAny_Name (wpAny_loadName_free I.ok.kind hk hc hcell fin hcd) hd
theorem pe_int {i j pos} : PE X (.Constant (.int i) j pos) (tC (.int i)) := fun _ _ _ H _ I h => wpAny_Constant_int ⟨.int i, H, I.tok _, ⟨_, rfl⟩, h⟩
theorem pe_bl {b j pos} : PE X (.Constant (.bool b) j pos) (tC (.bl b)) := fun _ _ _ H _ I h => Constant_bool ⟨.bl b, H, I, rfl, h⟩
theorem pe_non {j pos} : PE X (.Constant .none j pos) (tC .non) := fun _ _ _ H _ I h => Constant_none ⟨.non, H, I, rfl, h⟩
theorem pe_str {x j pos} : PE X (.Constant (.str x) j pos) (tC (.str x)) := fun _ _ _ H _ I h => Calls.Constant_str ⟨.str x, H, I.tok _, ⟨_, rfl⟩, h⟩
def Gl (X : Cx) (x : Str) : Prop := X.env.kindOf x = some .globalImplicit
theorem ld_glob {E : Value → Shared → Prop} {pins : List (Addr × Obj)} {s : Shared} {σ : St} {H : Hp} {x : Str} {u : Value} {pos : Pos} {Q : Value → Shared → Prop} (I : Inv X pins σ H s) (hg : Gl X x) (hm : X.mg x = some u) (h : Q u s)
    (hd : (x == ("__debug__" : Str)) = false := by decide) : wpAny (model X.prog X.w) X.A (eval (.Name x pos) X.env) Q E s :=
  Calls.Name_function_global I.ok.kind hg (Calls.loadGlobal_global (by rw [I.ok.glob]; exact I.mod.glob.keeps I.bk) hm h) hd
theorem ld_blt {E : Value → Shared → Prop} {pins : List (Addr × Obj)} {s : Shared} {σ : St} {H : Hp} {x : Str} {u : Value} {pos : Pos} {Q : Value → Shared → Prop} (I : Inv X pins σ H s) (hg : Gl X x) (hm : X.mg x = none) (hv : bootBuiltins x = some u) (h : Q u s)
    (hn : x ≠ "__name__" := by decide) (hd : (x == ("__debug__" : Str)) = false := by decide) : wpAny (model X.prog X.w) X.A (eval (.Name x pos) X.env) Q E s := by
  obtain ⟨mb, h1, h2⟩ := I.mod.blt
  exact Calls.Name_function_global I.ok.kind hg (Calls.loadGlobal_builtin (by rw [I.ok.glob]; exact I.mod.glob.keeps I.bk) hm (by rw [I.ok.blt]; exact h1.keeps I.bk) ((h2 x hn).trans hv) h) hd
theorem pe_glob {x : Str} {v : V} {u : Value} {pos : Pos} (hg : Gl X x) (hm : X.mg x = some u) (r : RelV v u) (hd : (x == ("__debug__" : Str)) = false := by decide) : PE X (.Name x pos) (tC v) :=
  fun _ _ _ H _ I h => ld_glob I hg hm ⟨v, H, I, r, h⟩ hd
theorem pe_bltn {x : Str} {v : V} {u : Value} {pos : Pos} (hg : Gl X x) (hm : X.mg x = none) (hv : bootBuiltins x = some u) (r : RelV v u) (hn : x ≠ "__name__" := by decide) (hd : (x == ("__debug__" : Str)) = false := by decide) : PE X (.Name x pos) (tC v) :=
  fun _ _ _ H _ I h => ld_blt I hg hm hv ⟨v, H, I, r, h⟩ hn hd
variable {a b : Expr} {ta tb : TE} {pos : Pos}
def PC (X : Cx) (op : CmpOp) (a b : Expr) (t : TE) : Prop :=
  ∀ (pins : List (Addr × Obj)) (s : Shared) (σ : St) (H : Hp) (Q : VK), Inv X pins σ H s → t σ H Q →
    wpAny (model X.prog X.w) X.A (eval a X.env) (fun v s₁ => wpAny (model X.prog X.w) X.A (eval b X.env) (fun u s₂ => wpAny (model X.prog X.w) X.A (compareOp op v u) (EP X pins σ Q) X.xe s₂) X.xe s₁) X.xe s
theorem nobehind (b : Expr) {op : CmpOp} (h : op ≠ .In) (h2 : op ≠ .NotIn) : behindInMarks op b = false := by
  have e1 : (op == CmpOp.In) = false := by cases op <;> first | rfl | exact absurd rfl h
  have e2 : (op == CmpOp.NotIn) = false := by cases op <;> first | rfl | exact absurd rfl h2
  cases b <;> simp [behindInMarks, e1, e2]
def tIsN (ta : TE) : TE := fun σ H Q => ta σ H fun x H1 => Q (.bl (decide (x = .non))) H1
def tNotN (ta : TE) : TE := fun σ H Q => ta σ H fun x H1 => Q (.bl (!decide (x = .non))) H1
theorem RelV.none_iff {x : V} {v : Value} (r : RelV x v) : (v == Value.none) = decide (x = .non) := by
  cases x with
  | non => cases r; rfl
  | bl _ => cases r; rfl
  | int _ => obtain ⟨t, rfl⟩ := r; rfl
  | str _ => obtain ⟨t, rfl⟩ := r; rfl
  | byt _ => obtain ⟨t, rfl⟩ := r; rfl
  | flt _ => obtain ⟨t, rfl⟩ := r; rfl
  | ref _ => cases r; rfl
  | ty _ => cases r; rfl
theorem pc_isN {j pos'} (ha : PE X a ta) : PC X .Is a (.Constant .none j pos') (tIsN ta) := by
  intro pins s σ H Q I h
  refine thn (ha pins s σ H _ I h) fun v s1 ⟨x, H1, I1, r1, q1⟩ => ?_
  exact Constant_none (is_none_gen ⟨.bl _, H1, I1, by rw [r1.none_iff]; rfl, q1⟩)
theorem pc_notN {j pos'} (ha : PE X a ta) : PC X .IsNot a (.Constant .none j pos') (tNotN ta) := by
  intro pins s σ H Q I h
  refine thn (ha pins s σ H _ I h) fun v s1 ⟨x, H1, I1, r1, q1⟩ => ?_
  exact Constant_none (isnot_none_gen ⟨.bl _, H1, I1, by rw [r1.none_iff]; rfl, q1⟩)
def tB (t : TE) : TT := fun σ H Q => t σ H fun x H1 => ∃ c, x = .bl c ∧ Q c H1
theorem pt_cmp {op : CmpOp} {t : TE} (h : PC X op a b t) (h1 : behindInMarks op b = false := by first | exact nobehind _ (by decide) (by decide) | rfl) : PT X (.Compare a [op] [b] pos) (tB t) := by
  intro pins s σ H Q I hw
  refine wpAny_isTrue_Compare1 (thn (h pins s σ H _ I hw) fun v s1 h1 => thn h1 fun u s2 h2 => thn h2 fun c s3 ⟨x, H1, I1, r1, q1⟩ => ?_) h1
  obtain ⟨d, rfl, q⟩ := q1
  cases r1
  exact wpAny_truthy_bool ⟨H1, I1, q⟩
theorem pt_val {e : Expr} {t : TE} (h : PE X e t) (he : ∀ whole, isTrue e X.env whole = (do let v ← whole; standAt e.pos; holding [v] (truthy v)) := by intro _; rfl) : PT X e (tB t) := by
  intro pins s σ H Q I hw
  refine isTrue_plain (thn (h pins s σ H _ I hw) fun v s1 ⟨x, H1, I1, r1, q1⟩ => ?_) (he _)
  obtain ⟨d, rfl, q⟩ := q1
  cases r1
  exact wpAny_truthy_bool ⟨H1, I1, q⟩
variable {tA tB' : TT} {rest : List Expr}
def tAnd (t u : TT) : TT := fun σ H Q => t σ H fun c H1 => if c = true then u σ H1 Q else Q false H1
def tOr (t u : TT) : TT := fun σ H Q => t σ H fun c H1 => if c = true then Q true H1 else u σ H1 Q
def tNot (t : TT) : TT := fun σ H Q => t σ H fun c H1 => Q (!c) H1
theorem pw_and1 (ha : PT X a tA) : PW X (.BoolOp .And [a] pos) tA := by
  intro wh pins s σ H Q I h
  refine isTrue_and (thn (ha pins s σ H Q I h) fun c s1 e => ?_)
  cases c with
  | true => exact isTrue_and_nil e
  | false => exact e
theorem pw_or1 (ha : PT X a tA) : PW X (.BoolOp .Or [a] pos) tA := by
  intro wh pins s σ H Q I h
  refine isTrue_or (thn (ha pins s σ H Q I h) fun c s1 e => ?_)
  cases c with
  | false => exact isTrue_or_nil e
  | true => exact e
theorem pw_and (ha : PT X a tA) (hb : PW X (.BoolOp .And (b :: rest) pos) tB') : PW X (.BoolOp .And (a :: b :: rest) pos) (tAnd tA tB') := by
  intro wh pins s σ H Q I h
  refine isTrue_and (thn (ha pins s σ H _ I h) fun c s1 ⟨H1, I1, q1⟩ => ?_)
  cases c with
  | true => exact hb wh pins s1 σ H1 Q I1 q1
  | false => exact ⟨H1, I1, q1⟩
theorem pw_or (ha : PT X a tA) (hb : PW X (.BoolOp .Or (b :: rest) pos) tB') : PW X (.BoolOp .Or (a :: b :: rest) pos) (tOr tA tB') := by
  intro wh pins s σ H Q I h
  refine isTrue_or (thn (ha pins s σ H _ I h) fun c s1 ⟨H1, I1, q1⟩ => ?_)
  cases c with
  | true => exact ⟨H1, I1, q1⟩
  | false => exact hb wh pins s1 σ H1 Q I1 q1
theorem pt_not (ha : PT X a tA) : PT X (.UnaryOp .Not a pos) (tNot tA) := by
  intro pins s σ H Q I h
  exact isTrue_not (ha pins s σ H (fun c H1 => Q (!c) H1) I h)
def tAndV (ta tb : TE) : TE := fun σ H Q => ta σ H fun x H1 => ∃ c, x = .bl c ∧ if c = true then tb σ H1 Q else Q (.bl false) H1
def tNotV (ta : TE) : TE := fun σ H Q => ta σ H fun x H1 => ∃ c, x = .bl c ∧ Q (.bl (!c)) H1
theorem pe_one {op} {t : TE} (h : PE X a t) : PE X (.BoolOp op [a] pos) t := fun pins s σ H Q I hw => BoolOp_one (h pins s σ H Q I hw)
theorem pe_and (ha : PE X a ta) (hb : PE X (.BoolOp .And (b :: rest) pos) tb) : PE X (.BoolOp .And (a :: b :: rest) pos) (tAndV ta tb) := by
  intro pins s σ H Q I h
  refine BoolOp_and (thn (ha pins s σ H _ I h) fun v s1 ⟨x, H1, I1, r1, q1⟩ => ?_)
  obtain ⟨c, rfl, q1⟩ := q1
  cases r1
  refine wpAny_truthy_bool ?_
  cases c with
  | true => exact hb pins s1 σ H1 Q I1 q1
  | false => exact ⟨.bl false, H1, I1, rfl, q1⟩
theorem pe_not (ha : PE X a ta) : PE X (.UnaryOp .Not a pos) (tNotV ta) := by
  intro pins s σ H Q I h
  refine UnaryOp_ (thn (ha pins s σ H _ I h) fun v s1 ⟨x, H1, I1, r1, q1⟩ => ?_)
  obtain ⟨c, rfl, q1⟩ := q1
  cases r1
  exact not_of (wpAny_truthy_bool ⟨.bl (!c), H1, I1, rfl, q1⟩)
end
end L2
namespace L2
open PySem PySem.Spec PyProof.Rows
def SqL (K : PySem.W.Frag) (H : Hp) (a : Addr) (xs : List V) : Prop :=
  Rd H a (.lst xs) ∨
    ∃ (o : Obj) (its : Array Value) (n : Nat), K.lookup a = some o ∧ o.cls = .type "list" ∧ o.dict = none ∧ o.data = .seq its n ∧ its.size ≤ sizeLine ∧ Vals xs its.toList
def SqT (K : PySem.W.Frag) (H : Hp) (a : Addr) (xs : List V) : Prop :=
  Rd H a (.tup xs) ∨
    ∃ (o : Obj) (its : Array Value) (n : Nat), K.lookup a = some o ∧ o.cls = .type "tuple" ∧ o.data = .seq its n ∧ its.size ≤ sizeLine ∧ Vals xs its.toList
def absV : Value → Option V
  | .none => some .non
  | .bool b => some (.bl b)
  | .int i _ => some (.int i)
  | .str x _ => some (.str x)
  | .bytes b _ => some (.byt b)
  | .float b _ => some (.flt b)
  | .ref a => some (.ref a)
  | .type n => some (.ty n)
  | _ => none
theorem RelV.abs {x : V} {u : Value} (r : RelV x u) : absV u = some x := by
  cases x with
  | non => cases r; rfl
  | bl _ => cases r; rfl
  | int _ => obtain ⟨t, rfl⟩ := r; rfl
  | str _ => obtain ⟨t, rfl⟩ := r; rfl
  | byt _ => obtain ⟨t, rfl⟩ := r; rfl
  | flt _ => obtain ⟨t, rfl⟩ := r; rfl
  | ref _ => cases r; rfl
  | ty _ => cases r; rfl
theorem RelV.inj {x y : V} {u : Value} (r : RelV x u) (q : RelV y u) : x = y := Option.some.inj (r.abs.symm.trans q.abs)
theorem Vals.inj : ∀ {xs ys : List V} {us : List Value}, Vals xs us → Vals ys us → xs = ys
  | _, _, _, .nil, .nil => rfl
  | _, _, _, .cons r t, .cons r' t' => by rw [r.inj r', Vals.inj t t']
section
variable {X : Cx} {pins : List (Addr × Obj)} {σ : St} {H : Hp} {s : Shared} {a : Addr} {xs ys : List V}
theorem SqL.of {K : PySem.W.Frag} (h : H a = some (.lst xs)) : SqL K H a xs := .inl (.inl h)
theorem SqT.of {K : PySem.W.Frag} (h : H a = some (.tup xs)) : SqT K H a xs := .inl (.inl h)
theorem Inv.list (I : Inv X pins σ H s) (h : SqL X.K H a xs) : ∃ its : List Value, Vals xs its ∧ PlainL s.heap a its.toArray ∧ xs.length ≤ sizeLine := by
  rcases h with h | ⟨o, its, n, hk, hc, hd, hs, hz, r⟩
  · obtain ⟨z, its, n, r, e⟩ := h.ok I.hok
    exact ⟨its, r, ⟨_, n, e, rfl, rfl, rfl⟩, z⟩
  · refine ⟨its.toList, r, ⟨o, n, I.kIn a o hk, hc, hd, by simpa using hs⟩, ?_⟩
    have e := r.length
    simp only [Array.length_toList] at e
    omega
theorem Inv.tuple (I : Inv X pins σ H s) (h : SqT X.K H a xs) : ∃ its : List Value, Vals xs its ∧ IsTup s.heap a its.toArray ∧ xs.length ≤ sizeLine := by
  rcases h with h | ⟨o, its, n, hk, hc, hs, hz, r⟩
  · obtain ⟨z, its, r, p⟩ := h.ok I.hok
    exact ⟨its, r, p, z⟩
  · refine ⟨its.toList, r, ⟨o, I.kIn a o hk, hc, n, by simpa using hs⟩, ?_⟩
    have e := r.length
    simp only [Array.length_toList] at e
    omega
theorem Inv.list_inj (I : Inv X pins σ H s) (h : SqL X.K H a xs) (h' : SqL X.K H a ys) : xs = ys := by
  obtain ⟨its, r, ⟨o, n, e, _, _, d⟩, _⟩ := I.list h
  obtain ⟨its', r', ⟨o', n', e', _, _, d'⟩, _⟩ := I.list h'
  rw [e] at e'; cases e'
  rw [d] at d'
  injection d' with d1 _
  have : its = its' := by simpa using congrArg Array.toList d1
  subst this
  exact r.inj r'
theorem Inv.tuple_inj (I : Inv X pins σ H s) (h : SqT X.K H a xs) (h' : SqT X.K H a ys) : xs = ys := by
  obtain ⟨its, r, ⟨o, e, _, n, d⟩, _⟩ := I.tuple h
  obtain ⟨its', r', ⟨o', e', _, n', d'⟩, _⟩ := I.tuple h'
  rw [e] at e'; cases e'
  rw [d] at d'
  injection d' with d1 _
  have : its = its' := by simpa using congrArg Array.toList d1
  subst this
  exact r.inj r'
end
abbrev Cx.wish (X : Cx) (E : Value → Shared → Prop) : Cx := { X with xe := E }
abbrev Cx.nox (X : Cx) : Cx := X.wish fun _ _ => False
theorem Cx.Ok.wish {X : Cx} (ok : X.Ok) (E : Value → Shared → Prop) : (X.wish E).Ok :=
  ⟨ok.mod, ok.kind, ok.glob, ok.blt, ok.above, ok.inj, ok.has, ok.cab, ok.hd, ok.frames, ok.stk, ok.exf, ok.bs, ok.bsz, ok.noex, ok.exfs, ok.funs, ok.frf⟩
theorem Cx.Ok.unwish {X : Cx} {E : Value → Shared → Prop} (ok : (X.wish E).Ok) : X.Ok :=
  ⟨ok.mod, ok.kind, ok.glob, ok.blt, ok.above, ok.inj, ok.has, ok.cab, ok.hd, ok.frames, ok.stk, ok.exf, ok.bs, ok.bsz, ok.noex, ok.exfs, ok.funs, ok.frf⟩
section
variable {X : Cx} {pins : List (Addr × Obj)} {σ : St} {H : Hp} {s : Shared} {E : Value → Shared → Prop}
theorem Inv.wish (I : Inv X pins σ H s) (E : Value → Shared → Prop) : Inv (X.wish E) pins σ H s := ⟨I.ok.wish E, I.os, I.bare, I.base, I.loc, I.cell, I.free, I.freeC, I.pin, I.hok, I.len⟩
theorem Inv.unwish (I : Inv (X.wish E) pins σ H s) : Inv X pins σ H s := ⟨I.ok.unwish, I.os, I.bare, I.base, I.loc, I.cell, I.free, I.freeC, I.pin, I.hok, I.len⟩
theorem SP.unwish {D : Ends} {f : Flow} {s' : Shared} (h : SP (X.wish E) pins D f s') : SP X pins D f s' := by
  cases f with
  | next => obtain ⟨σ', H', I, q⟩ := h; exact ⟨σ', H', I.unwish, q⟩
  | brk => obtain ⟨σ', H', I, q⟩ := h; exact ⟨σ', H', I.unwish, q⟩
  | cont => obtain ⟨σ', H', I, q⟩ := h; exact ⟨σ', H', I.unwish, q⟩
  | ret u => obtain ⟨v, σ', H', I, r, q⟩ := h; exact ⟨v, σ', H', I.unwish, r, q⟩
theorem PSs.nox {st : List Stmt} {t : TS} (h : PSs X.nox st t) : PSs X st t := fun pins s σ H D I hw =>
  wpAny_mono (h pins s σ H D (I.wish _) hw) (fun _ _ q => q.unwish) fun _ _ z => False.elim z
end
section
variable {X : Cx} {st : Stmt} {rest : List Stmt} {t u : TS} {e : Expr} {te : TE} {pos : Pos}
def tNext : TS := fun D σ H => D.nx σ H
def tSeq (t u : TS) : TS := fun D σ H => t { D with nx := u D } σ H
theorem pss_nil : PSs X [] tNext := fun _ _ σ H _ I h => wpAny_execs_nil ⟨σ, H, I, h⟩
theorem pss_cons (h1 : PS X st t) (h2 : PSs X rest u) : PSs X (st :: rest) (tSeq t u) := by
  intro pins s σ H D I h
  refine wpAny_execs_cons (thn (h1 pins s σ H { D with nx := u D } I h) fun f s1 q => ?_)
  cases f with
  | next =>
    obtain ⟨σ', H', I', q⟩ := q
    exact h2 pins s1 σ' H' D I' q
  | ret v => exact q
  | brk => exact q
  | cont => exact q
theorem pss_one (h1 : PS X st t) : PSs X [st] t := by
  intro pins s σ H D I h
  refine wpAny_execs_cons (thn (h1 pins s σ H D I h) fun f s1 q => ?_)
  cases f with
  | next => exact wpAny_execs_nil q
  | ret v => exact q
  | brk => exact q
  | cont => exact q
theorem Inv.quiet {pins : List (Addr × Obj)} {σ : St} {H : Hp} {s : Shared} (I : Inv X pins σ H s) : interactive X.env = false := by simp [interactive, I.ok.kind]
def tDrop (te : TE) : TS := fun D σ H => te σ H fun _ H1 => D.nx σ H1
theorem ps_expr (he : PE X e te) (hs : swapsWith e none pos.line X.env = pure false := by rfl) : PS X (.Expr e pos) (tDrop te) := by
  intro pins s σ H D I h
  exact wpAny_Expr_any (thn (he pins s σ H _ I h) fun v s1 ⟨x, H1, I1, r1, q1⟩ => ⟨σ, H1, I1, q1⟩) I.quiet hs
def tRet (te : TE) : TS := fun D σ H => te σ H D.rt
theorem ps_ret (he : PE X e te) : PS X (.Return (some e) pos) (tRet te) := by
  intro pins s σ H D I h
  exact wpAny_Return_some (thn (he pins s σ H _ I h) fun v s1 ⟨x, H1, I1, r1, q1⟩ => ⟨x, σ, H1, I1, r1, q1⟩)
def tRetN : TS := fun D _ H => D.rt .non H
theorem ps_retN : PS X (.Return none pos) tRetN := fun _ _ σ H _ I h => wpAny_Return_none ⟨.non, σ, H, I, rfl, h⟩
def tIfS (c : TT) (t u : TS) : TS := fun D σ H => c σ H fun b H1 => if b = true then t D σ H1 else u D σ H1
theorem ps_if {c : Expr} {a b : List Stmt} {tc : TT} (hc : PT X c tc) (ha : PSs X a t) (hb : PSs X b u) : PS X (.If c a b pos) (tIfS tc t u) := by
  intro pins s σ H D I h
  refine wpAny_If (thn (hc pins s σ H _ I h) fun d s1 ⟨H1, I1, q1⟩ => ?_)
  cases d with
  | true => exact ha pins s1 σ H1 D I1 q1
  | false => exact hb pins s1 σ H1 D I1 q1
def tNever : TS := fun _ _ _ => False
theorem ps_never : PS X st tNever := fun _ _ _ _ _ _ h => h.elim
end
abbrev TG := V → St → Hp → (St → Hp → Prop) → Prop
abbrev TGs := List V → St → Hp → (St → Hp → Prop) → Prop
def PG (X : Cx) (target : Expr) (t : TG) : Prop :=
  ∀ (pins : List (Addr × Obj)) (s : Shared) (σ : St) (H : Hp) (v : V) (u : Value) (Q : St → Hp → Prop), Inv X pins σ H s → RelV v u → t v σ H Q →
    wpAny (model X.prog X.w) X.A (assign target X.env u) (fun _ s' => ∃ σ' H', Inv X pins σ' H' s' ∧ Q σ' H') X.xe s
def PGs (X : Cx) (ts : List Expr) (t : TGs) : Prop :=
  ∀ (pins : List (Addr × Obj)) (s : Shared) (σ : St) (H : Hp) (vs : List V) (us : List Value) (Q : St → Hp → Prop), Inv X pins σ H s → Vals vs us → t vs σ H Q →
    wpAny (model X.prog X.w) X.A (assignInOrder ((assignEach ts X.env).map (·.2)) us) (fun _ s' => ∃ σ' H', Inv X pins σ' H' s' ∧ Q σ' H') X.xe s
abbrev TSet := V → V → V → Hp → (Hp → Prop) → Prop
def PSet (X : Cx) (t : TSet) : Prop :=
  ∀ (pins : List (Addr × Obj)) (s : Shared) (σ : St) (H : Hp) (o i v : V) (ov iv u : Value) (Q : Hp → Prop), Inv X pins σ H s → RelV o ov → RelV i iv → RelV v u → t o i v H Q →
    wpAny (model X.prog X.w) X.A (setItem ov iv u) (fun _ s' => ∃ H', Inv X pins σ H' s' ∧ Q H') X.xe s
abbrev TIp := V → V → Hp → VK → Prop
def PIp (X : Cx) (op : Operator) (t : TIp) : Prop :=
  ∀ (pins : List (Addr × Obj)) (s : Shared) (σ : St) (H : Hp) (x y : V) (v u : Value) (Q : VK), Inv X pins σ H s → RelV x v → RelV y u → t x y H Q →
    wpAny (model X.prog X.w) X.A (inplaceOp op v u) (EP X pins σ Q) X.xe s
section
variable {X : Cx} {pos : Pos}
def gName (i : Nat) : TG := fun v σ H Q => Q (σ.set i (some v)) H
theorem pg_name {i : Nat} {x : Str} (hN : X.N.Nodup) (hi : X.N[i]? = some x) (hx : Loc X.env.scope x) (hf : X.fn x = true ∨ X.env.scope.names.lookup x = some .local := by first | exact .inl rfl | exact .inr rfl | assumption) : PG X (.Name x pos) (gName i) := by
  intro pins s σ H v u Q I r h
  exact wpAny_assign_Name (store_ok I hN hi hx r (fun s' I' => ⟨_, H, I', h⟩) hf)
def gNil : TGs := fun vs σ H Q => vs = [] ∧ Q σ H
def gCons (t : TG) (u : TGs) : TGs := fun vs σ H Q => ∃ v r, vs = v :: r ∧ t v σ H fun σ' H' => u r σ' H' Q
theorem pgs_nil : PGs X [] gNil := by
  intro pins s σ H vs us Q I r h
  obtain ⟨e, h⟩ := h
  subst e
  cases r
  exact assignInOrder_nil ⟨σ, H, I, h⟩
theorem pgs_cons {e : Expr} {es : List Expr} {t : TG} {u : TGs} (h1 : PG X e t) (h2 : PGs X es u)
    (hs : (assignEach (e :: es) X.env).map (·.2) = assign e X.env :: (assignEach es X.env).map (·.2) := by rfl) : PGs X (e :: es) (gCons t u) := by
  intro pins s σ H vs us Q I r h
  obtain ⟨v, vr, e1, h⟩ := h
  subst e1
  cases r with
  | cons r rr =>
    rw [hs]
    refine assignInOrder_cons (thn (h1 pins s σ H _ _ _ I r h) fun _ s1 ⟨σ1, H1, I1, q1⟩ => ?_)
    exact h2 pins s1 σ1 H1 _ _ Q I1 rr q1
def gTup (K : PySem.W.Frag) (n : Nat) (t : TGs) : TG := fun v σ H Q => ∃ a xs, v = .ref a ∧ SqT K H a xs ∧ xs.length = n ∧ t xs σ H Q
theorem pg_tup {es : List Expr} {k : Nat} {t : TGs} {n : Nat} (hc : X.calm = true) (h : PGs X es t)
    (hn : (assignEach es X.env).length = n := by rfl) (hst : (assignEach es X.env).findIdx? (·.1) = none := by rfl) : PG X (.Tuple es k pos) (gTup X.K n t) := by
  intro pins s σ H v u Q I r hw
  obtain ⟨a, xs, e1, hq, hl, hw⟩ := hw
  subst e1
  cases r
  obtain ⟨its, rv, ht, hz⟩ := I.tuple hq
  refine assign_Tuple_tuple (I.ok.hd hc) ht (by simp [hn, ← hl, rv.length]) hst fun h' hx => ?_
  have I1 : Inv X pins σ H { s with heap := h' } := I.kept (t' := s.toks) fun b o e => hx b o (Nat.ne_of_lt (Heap.lt_size e)) e
  exact h pins _ σ H xs _ Q I1 (by simpa using rv) hw
def gSub (to ti : TE) (t : TSet) : TG := fun v σ H Q => to σ H fun o H1 => ti σ H1 fun i H2 => t o i v H2 fun H3 => Q σ H3
theorem pg_sub {o i : Expr} {to ti : TE} {t : TSet} (ho : PE X o to) (hi : PE X i ti) (hs : PSet X t)
    (ha : ∀ v, assign (.Subscript o i pos) X.env v = (do
      let ov ← holding [v] (eval o X.env)
      let iv ← holding [v, ov] (eval i X.env)
      standAt pos
      holding [v, ov, iv] (setItem ov iv v)
      release [v, ov, iv] []) := by intro _; rfl) : PG X (.Subscript o i pos) (gSub to ti t) := by
  intro pins s σ H v u Q I r h
  rw [ha]
  refine wpAny_bind (wpAny_holding (thn (ho pins s σ H _ I h) fun ov s1 ⟨x, H1, I1, r1, q1⟩ => ?_))
  refine wpAny_bind (wpAny_holding (thn (hi pins s1 σ H1 _ I1 q1) fun iv s2 ⟨y, H2, I2, r2, q2⟩ => ?_))
  refine wpAny_bind (wpAny_standAt (wpAny_bind (wpAny_holding (thn (hs pins s2 σ H2 x y v ov iv u _ I2 r1 r2 r q2) fun _ s3 ⟨H3, I3, q3⟩ => ?_))))
  exact wpAny_release ⟨σ, H3, I3, q3⟩
def tAsg (te : TE) (g : TG) : TS := fun D σ H => te σ H fun x H1 => g x σ H1 D.nx
theorem ps_asg {tg e : Expr} {te : TE} {g : TG} (he : PE X e te) (hg : PG X tg g) (hs : swapsWithSole [tg] e pos.line X.env = pure false := by rfl) (hw : swappedStores [tg] e X.env = pure none := by rfl)
    (h1 : (assignEach [tg] X.env).map (·.2) = [assign tg X.env] := by rfl) : PS X (.Assign [tg] e pos) (tAsg te g) := by
  intro pins s σ H D I h
  refine wpAny_Assign_stores (thn (he pins s σ H _ I h) fun v s1 ⟨x, H1, I1, r1, q1⟩ => ?_) hs hw
  rw [h1]
  exact thn (hg pins s1 σ H1 x v _ I1 r1 q1) fun _ s2 q => q
theorem ps_set {i : Nat} {x : Str} {e : Expr} {te : TE} {pos' : Pos} (hN : X.N.Nodup) (hi : X.N[i]? = some x) (hx : Loc X.env.scope x) (he : PE X e te) (hs : swapsWith e (some (.Name x pos')) pos.line X.env = pure false := by rfl) (hf : X.fn x = true ∨ X.env.scope.names.lookup x = some .local := by first | exact .inl rfl | exact .inr rfl | assumption) :
    PS X (.Assign [.Name x pos'] e pos) (tAsg te (gName i)) := by
  intro pins s σ H D I h
  refine wpAny_Assign_Name (thn (he pins s σ H _ I h) fun v s1 ⟨y, H1, I1, r1, q1⟩ => ?_) hs
  exact store_ok I1 hN hi hx r1 (fun s2 I2 => ⟨_, H1, I2, q1⟩) hf
def tAug (i : Nat) (te : TE) (ti : TIp) : TS := fun D σ H => ∃ x, σ[i]? = some (some x) ∧ te σ H fun y H1 => ti x y H1 fun z H2 => D.nx (σ.set i (some z)) H2
theorem ps_aug {i : Nat} {x : Str} {e : Expr} {te : TE} {op : Operator} {ti : TIp} {pos' : Pos} (hN : X.N.Nodup) (hi : X.N[i]? = some x) (hx : Loc X.env.scope x) (he : PE X e te) (ho : PIp X op ti) (hf : X.fn x = true ∨ X.env.scope.names.lookup x = some .local := by first | exact .inl rfl | exact .inr rfl | assumption) :
    PS X (.AugAssign (.Name x pos') op e pos) (tAug i te ti) := by
  intro pins s σ H D I h
  obtain ⟨v, e1, h⟩ := h
  obtain ⟨m, hn, hl⟩ := I.loc
  have vis : Vis X.env.scope x := by rcases hx with k | k; exact .inl k; exact .inr (.inl k)
  obtain ⟨u, r, l⟩ := hl i x v hi e1 vis
  refine wpAny_AugAssign_Name ?_
  have go : wpAny (model X.prog X.w) X.A (eval e X.env) (fun w s₂ => wpAny (model X.prog X.w) X.A (inplaceOp op u w) (fun r s₃ => wpAny (model X.prog X.w) X.A (storeName X.env x r) (fun _ => SP X pins D .next) X.xe s₃) X.xe s₂) X.xe s := by
    refine thn (he pins s σ H _ I h) fun w s1 ⟨y, H1, I1, r1, q1⟩ => ?_
    refine thn (ho pins s1 σ H1 v y u w _ I1 r r1 q1) fun z s2 ⟨zv, H2, I2, r2, q2⟩ => ?_
    exact store_ok I2 hN hi hx r2 (fun s3 I3 => ⟨_, H2, I3, q2⟩) hf
  rcases l with ⟨hk, hm⟩ | ⟨hk, c, hc, hcell⟩
  · exact wpAny_loadName_local I.ok.kind hk hn hm go
  · rcases hk with hk | hk
    · exact wpAny_loadName_cell I.ok.kind hk hc hcell go
    · rcases hx with k | k
      · have : X.env.scope.names.lookup x = some .free := hk
        rw [k] at this; cases this
      · have : X.env.scope.names.lookup x = some .free := hk
        rw [k] at this; cases this
def ipI (f : Int → Int → Int) : TIp := fun x y H Q => ∃ i j, x = .int i ∧ y = .int j ∧ Q (.int (f i j)) H
theorem ip_add : PIp X .Add (ipI fun i j => i + j) := by
  intro pins s σ H x y v u Q I r1 r2 h
  obtain ⟨i, j, e1, e2, q⟩ := h
  subst e1; subst e2
  obtain ⟨t, rfl⟩ := r1
  obtain ⟨t', rfl⟩ := r2
  exact iadd_int ⟨.int _, H, I.tok _, ⟨_, rfl⟩, q⟩
end
section
variable {X : Cx} {pos : Pos}
def tWhile (c : TT) (tb : TS) : TS := fun D σ H => ∃ W : Nat → St → Hp → Prop, (∃ m, W m σ H) ∧ ∀ m σ H, W m σ H →
  c σ H fun b H1 => if b = true then ∃ N : St → Hp → Prop, (∀ σ' H', N σ' H' → ∃ m', m' < m ∧ W m' σ' H') ∧ tb { D with nx := N, ct := N, bk := D.nx } σ H1 else D.nx σ H1
theorem ps_while {c : Expr} {body : List Stmt} {tc : TT} {tb : TS} (hp : PassesOwn (model X.prog X.w) X.A X.env X.xe) (hc : PT X c tc) (hb : PSs X body tb) : PS X (.While c body [] pos) (tWhile tc tb) := by
  intro pins s σ H D I h
  obtain ⟨W, ⟨m0, w0⟩, turn⟩ := h
  refine wpAny_While (codeAny_whileLoop (fun n s' => ∃ σ' H', Inv X pins σ' H' s' ∧ W n σ' H') ?_ m0 ⟨σ, H, I, w0⟩)
  rintro n s1 ⟨σ1, H1, I1, w1⟩
  refine wpAny_passesOwn hp (thn (hc pins s1 σ1 H1 _ I1 (turn n σ1 H1 w1)) fun b s2 ⟨H2, I2, q2⟩ => ?_)
  cases b with
  | true =>
    obtain ⟨N, hN, q2⟩ := q2
    rw [if_pos rfl]
    refine wpAny_passesOwn hp (thn (hb pins s2 σ1 H2 _ I2 q2) fun f s3 q3 => ?_)
    cases f with
    | next =>
      obtain ⟨σ3, H3, I3, n3⟩ := q3
      obtain ⟨m', hm, w3⟩ := hN σ3 H3 n3
      exact ⟨m', hm, σ3, H3, I3, w3⟩
    | cont =>
      obtain ⟨σ3, H3, I3, n3⟩ := q3
      obtain ⟨m', hm, w3⟩ := hN σ3 H3 n3
      exact ⟨m', hm, σ3, H3, I3, w3⟩
    | brk => exact q3
    | ret v => exact q3
  | false =>
    rw [if_neg Bool.false_ne_true]
    exact wpAny_execs_nil ⟨σ1, H2, I2, q2⟩
end
structure It where
  go : Nat → Hp → Prop
  yld : Nat → Hp → V → Hp → Prop
  stop : Nat → Hp → Prop
def FpOk (X : Cx) (pins : List (Addr × Obj)) (H : Hp) (b : Addr) : Prop :=
  H b = none ∧ b ≠ X.env.locals ∧ b ∉ X.fs ∧ (b ∈ X.ex ∨ X.s₀.heap.objs.size ≤ b) ∧ (∀ x c, X.env.cells.lookup x = some c → c ≠ b) ∧ ∀ p ∈ X.pn ++ pins, p.1 ≠ b
theorem Inv.fpOk {X : Cx} {pins : List (Addr × Obj)} {σ : St} {H H' : Hp} {s : Shared} {b : Addr} (I : Inv X pins σ H s) (hb : s.heap.objs.size ≤ b) (hn : H' b = none) : FpOk X pins H' b := by
  refine ⟨hn, Nat.ne_of_gt (Nat.lt_of_lt_of_le I.lt hb), I.nofs hb, .inr (Nat.le_trans I.sz hb), fun x c e z => ?_, fun p hp z => ?_⟩
  · obtain ⟨v, q⟩ := I.cell x c e
    exact absurd (Nat.lt_of_lt_of_le q.lt (by rw [z]; exact hb)) (Nat.lt_irrefl _)
  · exact absurd (Nat.lt_of_lt_of_le (Heap.lt_size (I.pin p hp).1) (by rw [z]; exact hb)) (Nat.lt_irrefl _)
structure Turn (P : Program) (w : World) (K : PySem.W.Frag) (tg : Expr) (J : It) (fp : List Addr) (it : Addr) (tn : Nat → Heap → Prop) : Prop where
  mem : it ∈ fp
  obj : ∀ i h, tn i h → ∀ b ∈ fp, ∃ o, h.get? b = some o ∧ ∀ v, o.data ≠ .cell v
  keep : ∀ i h h', tn i h → (∀ b ∈ fp, ∀ o, h.get? b = some o → h'.get? b = some o) → tn i h'
  item : ∀ (X : Cx), X.prog = P → X.w = w → X.K = K → X.calm = true → ∀ (i : Nat) (pins : List (Addr × Obj)) (s : Shared) (σ : St) (H : Hp) (E : Value → Shared → Prop), Inv X pins σ H s → (∀ b ∈ fp, FpOk X pins H b) → tn i s.heap → J.go i H →
    wpAny (model P w) X.A (pyNext (.ref it)) (fun r s1 => ∃ u, r = some u ∧
      wpAny (model P w) X.A (letOwnedTupleGo tg (.ref it) u) (fun _ s2 => ∃ x H', Inv X pins σ H' s2 ∧ RelV x u ∧ J.yld i H x H' ∧ tn (i + 1) s2.heap ∧ ∀ b ∈ fp, H' b = none) E s1) E s
  done : ∀ (X : Cx), X.prog = P → X.w = w → X.K = K → X.calm = true → ∀ (i : Nat) (pins : List (Addr × Obj)) (s : Shared) (σ : St) (H : Hp) (E : Value → Shared → Prop), Inv X pins σ H s → (∀ b ∈ fp, FpOk X pins H b) → tn i s.heap → J.stop i H →
    wpAny (model P w) X.A (pyNext (.ref it)) (fun r s1 => r = none ∧ Inv X pins σ H s1) E s
  self : ∀ (A : Around) (i : Nat) (s : Shared) (Q : Value → Shared → Prop) (E : Value → Shared → Prop), tn i s.heap → Q (.ref it) s → wpAny (model P w) A (pyIter (.ref it)) Q E s
abbrev TI := St → Hp → (It → Hp → Prop) → Prop
def PIE (X : Cx) (pins : List (Addr × Obj)) (σ : St) (tg : Expr) (R : It → Hp → Prop) (itv : Value) (s2 : Shared) : Prop :=
  ∃ (it : Addr) (fp : List Addr) (tn : Nat → Heap → Prop) (J : It) (H' : Hp), itv = .ref it ∧ Inv X pins σ H' s2 ∧ Turn X.prog X.w X.K tg J fp it tn ∧ tn 0 s2.heap ∧ (∀ b ∈ fp, FpOk X pins H' b) ∧ R J H'
def PI (X : Cx) (tg iter : Expr) (wi : TI) : Prop :=
  ∀ (pins : List (Addr × Obj)) (s : Shared) (σ : St) (H : Hp) (R : It → Hp → Prop), Inv X pins σ H s → wi σ H R →
    wpAny (model X.prog X.w) X.A (eval iter X.env) (fun v s1 => wpAny (model X.prog X.w) X.A (pyIter v) (PIE X pins σ tg R) X.xe s1) X.xe s
theorem go_of {M : Model} {A : Around} {E : Value → Shared → Prop} {s : Shared} {tg : Expr} {it : Addr} {u : Value} {o : Obj} {n : String} {vs : Array Value} {Q : Unit → Shared → Prop} (ho : s.heap.get? it = some o) (hc : o.cls = .type n) (hd : o.data = .fields vs)
    (hn : ["enumerate", "zip", "dict_itemiterator", "dict_reverseitemiterator", "odict_iterator", "itertools.zip_longest", "itertools.pairwise"].contains n = false) (hQ : Q () s) : wpAny M A (letOwnedTupleGo tg (.ref it) u) Q E s := by
  unfold letOwnedTupleGo
  cases tg <;> first
    | exact wpAny_pure hQ
    | (cases u <;> first
        | exact wpAny_pure hQ
        | (refine wpAny_bind (wpAny_load ho ?_)
           rw [hc, hd]
           show wpAny M A (if (["enumerate", "zip", "dict_itemiterator", "dict_reverseitemiterator", "odict_iterator", "itertools.zip_longest", "itertools.pairwise"].contains n && vs[0]? == some (rawInt _)) = true then _ else _) Q E s
           rw [if_neg (by intro h; rw [hn, Bool.false_and] at h; cases h)]
           exact wpAny_pure hQ))
def Itl (K : PySem.W.Frag) (a : Addr) : It :=
  ⟨fun i H => ∃ xs x, SqL K H a xs ∧ xs[i]? = some x, fun i H x H' => H' = H ∧ ∀ xs, SqL K H a xs → xs[i]? = some x, fun i H => ∃ xs, SqL K H a xs ∧ xs.length ≤ i⟩
def Itt (K : PySem.W.Frag) (a : Addr) : It :=
  ⟨fun i H => ∃ xs x, SqT K H a xs ∧ xs[i]? = some x, fun i H x H' => H' = H ∧ ∀ xs, SqT K H a xs → xs[i]? = some x, fun i H => ∃ xs, SqT K H a xs ∧ xs.length ≤ i⟩
def Itr (lo : Int) (n : Nat) : It := ⟨fun i _ => i < n, fun i H x H' => H' = H ∧ x = .int (lo + i), fun i _ => n ≤ i⟩
theorem turn_list {P : Program} {w : World} {K : PySem.W.Frag} {tg : Expr} (a it : Addr) : Turn P w K tg (Itl K a) [it] it (fun i h => h.IsListIter it a i) where
  mem := by simp
  obj := fun i h st b hb => by
    have e : b = it := by simpa using hb
    subst e
    obtain ⟨o, e, c, d⟩ := st
    exact ⟨o, e, fun v z => by rw [d] at z; cases z⟩
  keep := fun i h h' st k => st.at fun o e => k it (by simp) o e
  item := by
    intro X hP hw hK hc i pins s σ H E I hf st hg
    subst hP hw hK
    obtain ⟨xs, x, hq, hx⟩ := hg
    obtain ⟨its, rv, p, hz⟩ := I.list hq
    obtain ⟨u, hu, ru⟩ := rv.get hx
    obtain ⟨f0, f1, f2, f3, f4, f5⟩ := hf it (by simp)
    refine wpAny_pyNext_list_item st p.isList (x := u) (by simpa using hu) fun h' st' sb => ?_
    have I1 : Inv X pins σ H { s with heap := h' } := I.turned (t' := s.toks) (fun b o hb e => (sb.2 b hb).trans e) f0 f1 f3 f4 f5
    obtain ⟨o, e, c, d⟩ := id st'
    exact ⟨u, rfl, go_of (s := { s with heap := h' }) e c d (by decide) ⟨x, H, I1, ru, ⟨rfl, fun ys hy => by rw [I.list_inj hy hq]; exact hx⟩, st', fun b hb => (hf b hb).1⟩⟩
  done := by
    intro X hP hw hK hc i pins s σ H E I hf st hg
    subst hP hw hK
    obtain ⟨xs, hq, hx⟩ := hg
    obtain ⟨its, rv, p, hz⟩ := I.list hq
    obtain ⟨f0, f1, f2, f3, f4, f5⟩ := hf it (by simp)
    have hl := rv.length
    exact wpAny_pyNext_list_end (I.ok.hd hc) st p.isList (by simp; omega) fun h' eb => ⟨rfl, I.turned (t' := s.toks) (fun b o hb e => eb b o hb e) f0 f1 f3 f4 f5⟩
  self := fun _ _ _ _ _ st h => wpAny_pyIter_listiter st h
theorem turn_tuple {P : Program} {w : World} {K : PySem.W.Frag} {tg : Expr} (a it : Addr) : Turn P w K tg (Itt K a) [it] it (fun i h => h.IsTupleIter it a i) where
  mem := by simp
  obj := fun i h st b hb => by
    have e : b = it := by simpa using hb
    subst e
    obtain ⟨o, e, c, d⟩ := st
    exact ⟨o, e, fun v z => by rw [d] at z; cases z⟩
  keep := fun i h h' st k => st.at fun o e => k it (by simp) o e
  item := by
    intro X hP hw hK hc i pins s σ H E I hf st hg
    subst hP hw hK
    obtain ⟨xs, x, hq, hx⟩ := hg
    obtain ⟨its, rv, p, hz⟩ := I.tuple hq
    obtain ⟨u, hu, ru⟩ := rv.get hx
    obtain ⟨f0, f1, f2, f3, f4, f5⟩ := hf it (by simp)
    refine wpAny_pyNext_tuple_item st (show s.heap.IsTuple a its.toArray from p) (x := u) (by simpa using hu) fun h' st' sb => ?_
    have I1 : Inv X pins σ H { s with heap := h' } := I.turned (t' := s.toks) (fun b o hb e => (sb.2 b hb).trans e) f0 f1 f3 f4 f5
    obtain ⟨o, e, c, d⟩ := id st'
    exact ⟨u, rfl, go_of (s := { s with heap := h' }) e c d (by decide) ⟨x, H, I1, ru, ⟨rfl, fun ys hy => by rw [I.tuple_inj hy hq]; exact hx⟩, st', fun b hb => (hf b hb).1⟩⟩
  done := by
    intro X hP hw hK hc i pins s σ H E I hf st hg
    subst hP hw hK
    obtain ⟨xs, hq, hx⟩ := hg
    obtain ⟨its, rv, p, hz⟩ := I.tuple hq
    obtain ⟨f0, f1, f2, f3, f4, f5⟩ := hf it (by simp)
    have hl := rv.length
    exact wpAny_pyNext_tuple_end (I.ok.hd hc) st (show s.heap.IsTuple a its.toArray from p) (by simp; omega) fun h' eb => ⟨rfl, I.turned (t' := s.toks) (fun b o hb e => eb b o hb e) f0 f1 f3 f4 f5⟩
  self := fun _ _ _ _ _ st h => wpAny_pyIter_tupleiter st h
theorem turn_range {P : Program} {w : World} {K : PySem.W.Frag} {tg : Expr} (it : Addr) (lo : Int) (n : Nat) : Turn P w K tg (Itr lo n) [it] it (fun i h => IsRangeIter h it (lo + (i : Nat) * 1) ((n : Int) - (i : Nat)) 1) where
  mem := by simp
  obj := fun i h st b hb => by
    have e : b = it := by simpa using hb
    subst e
    exact ⟨_, st, fun v z => by
      have z' : Data.fields _ = Data.cell v := z
      cases z'⟩
  keep := fun i h h' st k => k it (by simp) _ st
  item := by
    intro X hP hw hK hc i pins s σ H E I hf st hg
    subst hP hw hK
    obtain ⟨f0, f1, f2, f3, f4, f5⟩ := hf it (by simp)
    have W := Walks.range (prog := X.prog) (w := X.w) (I.ok.hd hc) it lo 1 n
    refine W.item i s _ _ hg st fun v h' tk hv st' kk => ?_
    obtain ⟨t, rfl⟩ := hv
    have I1 : Inv X pins σ H { s with heap := h', toks := tk } := I.turned (fun b o hb e => kk b o (by simpa using hb) e) f0 f1 f3 f4 f5
    refine ⟨_, rfl, go_of (s := { s with heap := h', toks := tk }) (n := "range_iterator") st' rfl rfl (by decide) ⟨.int (lo + i), H, I1, ⟨t, ?_⟩, ⟨rfl, rfl⟩, st', fun b hb => (hf b hb).1⟩⟩
    rw [Int.mul_one]
  done := by
    intro X hP hw hK hc i pins s σ H E I hf st hg
    subst hP hw hK
    obtain ⟨f0, f1, f2, f3, f4, f5⟩ := hf it (by simp)
    exact wpAny_pyNext_range_end (I.ok.hd hc) st (by have : n ≤ i := hg; omega) fun h' eb => ⟨rfl, I.turned (t' := s.toks) (fun b o hb e => eb b o hb e) f0 f1 f3 f4 f5⟩
  self := fun _ _ _ _ _ st h => wpAny_pyIter_rangeiter st h
end L2
namespace L2
open PySem PySem.Spec PyProof.Rows
section
variable {X : Cx} {tg : Expr}
def iList (K : PySem.W.Frag) (tl : TE) : TI := fun σ H R => tl σ H fun x H1 => ∃ a, x = .ref a ∧ (∃ xs, SqL K H1 a xs) ∧ R (Itl K a) H1
def iTup (K : PySem.W.Frag) (tl : TE) : TI := fun σ H R => tl σ H fun x H1 => ∃ a, x = .ref a ∧ (∃ xs, SqT K H1 a xs) ∧ R (Itt K a) H1
theorem pi_list {l : Expr} {tl : TE} (hl : PE X l tl) : PI X tg l (iList X.K tl) := by
  intro pins s σ H R I h
  refine thn (hl pins s σ H _ I h) fun v s1 ⟨x, H1, I1, r1, q1⟩ => ?_
  obtain ⟨a, e, ⟨xs, hq⟩, q⟩ := q1
  subst e
  cases r1
  obtain ⟨its, rv, p, hz⟩ := I1.list hq
  refine wpAny_pyIter_list p.isList ?_
  refine ⟨s1.heap.objs.size, [s1.heap.objs.size], _, _, H1, rfl, I1.kept (t' := s1.toks) fun b o e => Heap.get?_push_of_some _ e, turn_list a _, ⟨_, Heap.get?_push_size _ rfl, rfl, rfl⟩, fun b hb => ?_, q⟩
  have e : b = s1.heap.objs.size := by simpa using hb
  subst e
  exact I1.fpOk (Nat.le_refl _) (I1.hok.fresh (Nat.le_refl _))
theorem pi_tup {l : Expr} {tl : TE} (hl : PE X l tl) : PI X tg l (iTup X.K tl) := by
  intro pins s σ H R I h
  refine thn (hl pins s σ H _ I h) fun v s1 ⟨x, H1, I1, r1, q1⟩ => ?_
  obtain ⟨a, e, ⟨xs, hq⟩, q⟩ := q1
  subst e
  cases r1
  obtain ⟨its, rv, p, hz⟩ := I1.tuple hq
  refine wpAny_pyIter_tuple (show s1.heap.IsTuple a its.toArray from p) ?_
  refine ⟨s1.heap.objs.size, [s1.heap.objs.size], _, _, H1, rfl, I1.kept (t' := s1.toks) fun b o e => Heap.get?_push_of_some _ e, turn_tuple a _, ⟨_, Heap.get?_push_size _ rfl, rfl, rfl⟩, fun b hb => ?_, q⟩
  have e : b = s1.heap.objs.size := by simpa using hb
  subst e
  exact I1.fpOk (Nat.le_refl _) (I1.hok.fresh (Nat.le_refl _))
theorem range_it {pins : List (Addr × Obj)} {σ : St} {H : Hp} {s : Shared} {R : It → Hp → Prop} {E : Value → Shared → Prop} {lo hi : Int} {t u v : Tok} {tk : Nat} (I : Inv X pins σ H s) (h1 : -(2 ^ 62) ≤ lo) (h2 : lo < 2 ^ 62) (h3 : -(2 ^ 62) ≤ hi) (h4 : hi < 2 ^ 62)
    (q : R (Itr lo (hi - lo).toNat) H) : wpAny (model X.prog X.w) X.A (pyIter (.ref s.heap.objs.size)) (PIE X pins σ tg R) E { s with heap := s.heap.push { cls := .type "range", data := .fields #[.int lo t, .int hi u, .int 1 v] }, toks := tk } := by
  refine wpAny_pyIter_range (IsRange.new ..) (small_one h1 h2 h3 h4) ?_
  have I1 : Inv X pins σ H { s with heap := s.heap.push { cls := .type "range", data := .fields #[.int lo t, .int hi u, .int 1 v] }, toks := tk } := I.kept fun b o e => Heap.get?_push_of_some _ e
  refine ⟨(s.heap.push { cls := .type "range", data := .fields #[.int lo t, .int hi u, .int 1 v] }).objs.size, [(s.heap.push { cls := .type "range", data := .fields #[.int lo t, .int hi u, .int 1 v] }).objs.size], _, _, H, rfl,
    I1.kept (t' := tk) fun b o e => Heap.get?_push_of_some _ e, turn_range _ lo (hi - lo).toNat, ?_, fun b hb => ?_, q⟩
  · have e1 : lo + ((0 : Nat) : Int) * 1 = lo := by simp
    have e2 : (((hi - lo).toNat : Nat) : Int) - ((0 : Nat) : Int) = Builtin.Range.rangeSize lo hi 1 := by rw [rangeSize_one]; split <;> omega
    show IsRangeIter _ _ (lo + ((0 : Nat) : Int) * 1) ((((hi - lo).toNat : Nat) : Int) - ((0 : Nat) : Int)) 1
    rw [e1, e2]
    exact Heap.get?_push_size _ rfl
  · have e : b = (s.heap.push { cls := .type "range", data := .fields #[.int lo t, .int hi u, .int 1 v] }).objs.size := by simpa using hb
    subst e
    exact I1.fpOk (Nat.le_refl _) (I1.hok.fresh (Nat.le_refl _))
def iRng1 (ta : TA) : TI := fun σ H R => ta σ H fun vs H1 => ∃ j : Int, vs = [.int j] ∧ -(2 ^ 62) ≤ j ∧ j < 2 ^ 62 ∧ R (Itr 0 j.toNat) H1
theorem pi_range1 {a : Expr} {ta : TA} {p pos : Pos} (hg : Gl X "range") (hm : X.mg "range" = none) (ha : PA X [a] ta) (hs : starEach [a] X.env = [(false, eval a X.env)] := by rfl) : PI X tg (.Call (.Name "range" p) [a] [] pos) (iRng1 ta) := by
  intro pins s σ H R I h
  refine Call_ (ld_blt I hg hm boot_range (PyProof.Rows.callWith_type1 (thn (ha pos pins s σ H _ I h) fun us s1 ⟨vs, H1, I1, r1, q1⟩ => ?_) hs rfl))
  obtain ⟨j, e, q1, q2, q⟩ := q1
  subst e
  cases r1 with
  | cons r rr =>
    cases rr
    obtain ⟨t, rfl⟩ := r
    exact call_range_1 (range_it I1 (by omega) (by omega) q1 q2 (by simpa using q))
def tFor (wi : TI) (g : TG) (tb : TS) : TS := fun D σ H => wi σ H fun J H1 => ∃ W : Nat → Nat → St → Hp → Prop, (∃ m, W 0 m σ H1) ∧ ∀ i m σ H, W i m σ H →
  (J.stop i H ∧ D.nx σ H) ∨ (J.go i H ∧ ∃ N : St → Hp → Prop, (∀ σ' H', N σ' H' → ∃ m', m' < m ∧ W (i + 1) m' σ' H') ∧ ∀ x H', J.yld i H x H' → g x σ H' fun σ2 H2 => tb { D with nx := N, ct := N, bk := D.nx } σ2 H2)
def pinsAt (fp : List Addr) (h : Heap) : List (Addr × Obj) := fp.filterMap fun b => (h.get? b).map fun o => (b, o)
theorem mem_pinsAt {fp : List Addr} {h : Heap} {b : Addr} {o : Obj} (hb : b ∈ fp) (e : h.get? b = some o) : (b, o) ∈ pinsAt fp h := List.mem_filterMap.mpr ⟨b, hb, by rw [e]; rfl⟩
theorem of_pinsAt {fp : List Addr} {h : Heap} {p : Addr × Obj} (hp : p ∈ pinsAt fp h) : p.1 ∈ fp ∧ h.get? p.1 = some p.2 := by
  obtain ⟨b, hb, e⟩ := List.mem_filterMap.mp hp
  cases q : h.get? b with
  | none => rw [q] at e; cases e
  | some o =>
    rw [q] at e
    have e' : (b, o) = p := Option.some.inj e
    subst e'
    exact ⟨hb, q⟩
theorem Inv.pinned {pins : List (Addr × Obj)} {σ : St} {H : Hp} {s : Shared} {fp : List Addr} (I : Inv X pins σ H s) (hf : ∀ b ∈ fp, FpOk X pins H b) (ho : ∀ b ∈ fp, ∃ o, s.heap.get? b = some o ∧ ∀ v, o.data ≠ .cell v) : Inv X (pins ++ pinsAt fp s.heap) σ H s :=
  I.pins_of fun p hp => (List.mem_append.mp hp).elim (fun z => I.pin p (List.mem_append_right _ z)) fun z => by
    obtain ⟨hb, e⟩ := of_pinsAt z
    obtain ⟨f0, f1, f2, _⟩ := hf p.1 hb
    obtain ⟨o, e', d⟩ := ho p.1 hb
    rw [e] at e'; cases e'
    exact ⟨e, f0, f1, f2, d⟩
theorem Inv.unpinned {pins pl : List (Addr × Obj)} {σ : St} {H : Hp} {s : Shared} (I : Inv X (pins ++ pl) σ H s) : Inv X pins σ H s := I.pins_of fun p hp => I.pin p (List.mem_append_right _ (List.mem_append_left _ hp))
theorem ps_for {iter : Expr} {body : List Stmt} {wi : TI} {g : TG} {tb : TS} {pos : Pos} (hp : PassesOwn (model X.prog X.w) X.A X.env X.xe) (hc : X.calm = true) (hi : PI X tg iter wi) (hg : PG X tg g) (hb : PSs X body tb)
    (hs : ∀ x, foldedSetIterable iter X.env x = pure x := by intro _; rfl) : PS X (.For tg iter body [] pos) (tFor wi g tb) := by
  intro pins s σ H D I h
  refine wpAny_For (thn (hi pins s σ H _ I h) fun v s1 h1 => thn h1 fun itv s2 h2 => ?_) hs
  obtain ⟨it, fp, tn, J, H2, e, I2, T, st2, f2, W, ⟨m0, w0⟩, turn⟩ := h2
  subst e
  have stat : ∀ {H' : Hp}, (∀ b ∈ fp, H' b = none) → ∀ b ∈ fp, FpOk X pins H' b := fun hn b hb => ⟨hn b hb, (f2 b hb).2⟩
  refine codeAny_forLoop_any (fun n s' => ∃ i σ' H', Inv X pins σ' H' s' ∧ tn i s'.heap ∧ (∀ b ∈ fp, H' b = none) ∧ W i n σ' H') ?_ m0 ⟨0, σ, H2, I2, st2, fun b hb => (f2 b hb).1, w0⟩
  rintro n s3 ⟨i, σ3, H3, I3, st3, fr3, w3⟩
  rcases turn i n σ3 H3 w3 with ⟨stop, qn⟩ | ⟨go, N, hN, step⟩
  · refine wpAny_passesOwn hp (thn (T.done X rfl rfl rfl hc i pins s3 σ3 H3 X.xe I3 (stat fr3) st3 stop) fun r s4 ⟨hr, I4⟩ => ?_)
    subst hr
    exact wpAny_execs_nil ⟨σ3, H3, I4, qn⟩
  · refine wpAny_passesOwn hp (thn (T.item X rfl rfl rfl hc i pins s3 σ3 H3 X.xe I3 (stat fr3) st3 go) fun r s4 ⟨u, hr, h4⟩ => ?_)
    subst hr
    refine wpAny_passesOwn hp (thn h4 fun _ s5 ⟨x, H5, I5, r5, y5, st5, fr5⟩ => ?_)
    have I5' := I5.pinned (stat fr5) (T.obj _ _ st5)
    refine wpAny_passesOwn hp (thn (hg _ s5 σ3 H5 x u _ I5' r5 (step x H5 y5)) fun _ s6 ⟨σ6, H6, I6, q6⟩ => ?_)
    refine wpAny_passesOwn hp (thn (hb _ s6 σ6 H6 _ I6 q6) fun f s7 q7 => ?_)
    have again : ∀ {σ7 : St} {H7 : Hp}, Inv X (pins ++ pinsAt fp s5.heap) σ7 H7 s7 → N σ7 H7 → ∃ m, m < n ∧ ∃ i σ' H', Inv X pins σ' H' s7 ∧ tn i s7.heap ∧ (∀ b ∈ fp, H' b = none) ∧ W i m σ' H' := fun {σ7 H7} I7 n7 => by
      obtain ⟨m', hm, w7⟩ := hN σ7 H7 n7
      refine ⟨m', hm, i + 1, σ7, H7, I7.unpinned, T.keep _ _ _ st5 fun b hb o e => (I7.pin (b, o) (List.mem_append_right _ (List.mem_append_right _ (mem_pinsAt hb e)))).1, fun b hb => ?_, w7⟩
      obtain ⟨o, e, d⟩ := T.obj _ _ st5 b hb
      exact (I7.pin (b, o) (List.mem_append_right _ (List.mem_append_right _ (mem_pinsAt hb e)))).2.1
    cases f with
    | next => obtain ⟨σ7, H7, I7, n7⟩ := q7; exact again I7 n7
    | cont => obtain ⟨σ7, H7, I7, n7⟩ := q7; exact again I7 n7
    | brk => obtain ⟨σ7, H7, I7, q7⟩ := q7; exact ⟨σ7, H7, I7.unpinned, q7⟩
    | ret v => obtain ⟨x7, σ7, H7, I7, r7, q7⟩ := q7; exact ⟨x7, σ7, H7, I7.unpinned, r7, q7⟩
end
theorem for_list {K : PySem.W.Frag} {a : Addr} {xs : List V} {g : TG} {tb : TS} {D : Ends} {σ : St} {H : Hp} (Pv : Nat → St → Hp → Prop) (h0 : Pv 0 σ H) (hl : ∀ i σ H, i ≤ xs.length → Pv i σ H → SqL K H a xs)
    (hs : ∀ i x σ H, xs[i]? = some x → Pv i σ H → g x σ H fun σ2 H2 => tb { D with nx := Pv (i + 1), ct := Pv (i + 1), bk := D.nx } σ2 H2) (hd : ∀ σ H, Pv xs.length σ H → D.nx σ H) :
    ∃ W : Nat → Nat → St → Hp → Prop, (∃ m, W 0 m σ H) ∧ ∀ i m σ H, W i m σ H →
      ((Itl K a).stop i H ∧ D.nx σ H) ∨ ((Itl K a).go i H ∧ ∃ N : St → Hp → Prop, (∀ σ' H', N σ' H' → ∃ m', m' < m ∧ W (i + 1) m' σ' H') ∧ ∀ x H', (Itl K a).yld i H x H' → g x σ H' fun σ2 H2 => tb { D with nx := N, ct := N, bk := D.nx } σ2 H2) := by
  refine ⟨fun i m σ H => m = xs.length - i ∧ i ≤ xs.length ∧ Pv i σ H, ⟨xs.length, by simp, Nat.zero_le _, h0⟩, ?_⟩
  rintro i m σ H ⟨rfl, hi, p⟩
  have q := hl i σ H hi p
  by_cases hlt : i < xs.length
  · refine .inr ⟨⟨xs, xs[i], q, by simp [hlt]⟩, Pv (i + 1), fun σ' H' p' => ⟨xs.length - (i + 1), by omega, rfl, hlt, p'⟩, fun x H' y => ?_⟩
    obtain ⟨e, y⟩ := y
    subst e
    exact hs i x σ _ (y xs q) p
  · have e : i = xs.length := by omega
    subst e
    exact .inl ⟨⟨xs, q, Nat.le_refl _⟩, hd σ H p⟩
theorem for_tup {K : PySem.W.Frag} {a : Addr} {xs : List V} {g : TG} {tb : TS} {D : Ends} {σ : St} {H : Hp} (Pv : Nat → St → Hp → Prop) (h0 : Pv 0 σ H) (hl : ∀ i σ H, i ≤ xs.length → Pv i σ H → SqT K H a xs)
    (hs : ∀ i x σ H, xs[i]? = some x → Pv i σ H → g x σ H fun σ2 H2 => tb { D with nx := Pv (i + 1), ct := Pv (i + 1), bk := D.nx } σ2 H2) (hd : ∀ σ H, Pv xs.length σ H → D.nx σ H) :
    ∃ W : Nat → Nat → St → Hp → Prop, (∃ m, W 0 m σ H) ∧ ∀ i m σ H, W i m σ H →
      ((Itt K a).stop i H ∧ D.nx σ H) ∨ ((Itt K a).go i H ∧ ∃ N : St → Hp → Prop, (∀ σ' H', N σ' H' → ∃ m', m' < m ∧ W (i + 1) m' σ' H') ∧ ∀ x H', (Itt K a).yld i H x H' → g x σ H' fun σ2 H2 => tb { D with nx := N, ct := N, bk := D.nx } σ2 H2) := by
  refine ⟨fun i m σ H => m = xs.length - i ∧ i ≤ xs.length ∧ Pv i σ H, ⟨xs.length, by simp, Nat.zero_le _, h0⟩, ?_⟩
  rintro i m σ H ⟨rfl, hi, p⟩
  have q := hl i σ H hi p
  by_cases hlt : i < xs.length
  · refine .inr ⟨⟨xs, xs[i], q, by simp [hlt]⟩, Pv (i + 1), fun σ' H' p' => ⟨xs.length - (i + 1), by omega, rfl, hlt, p'⟩, fun x H' y => ?_⟩
    obtain ⟨e, y⟩ := y
    subst e
    exact hs i x σ _ (y xs q) p
  · have e : i = xs.length := by omega
    subst e
    exact .inl ⟨⟨xs, q, Nat.le_refl _⟩, hd σ H p⟩
theorem for_range {lo : Int} {n : Nat} {g : TG} {tb : TS} {D : Ends} {σ : St} {H : Hp} (Pv : Nat → St → Hp → Prop) (h0 : Pv 0 σ H)
    (hs : ∀ i σ H, i < n → Pv i σ H → g (.int (lo + i)) σ H fun σ2 H2 => tb { D with nx := Pv (i + 1), ct := Pv (i + 1), bk := D.nx } σ2 H2) (hd : ∀ σ H, Pv n σ H → D.nx σ H) :
    ∃ W : Nat → Nat → St → Hp → Prop, (∃ m, W 0 m σ H) ∧ ∀ i m σ H, W i m σ H →
      ((Itr lo n).stop i H ∧ D.nx σ H) ∨ ((Itr lo n).go i H ∧ ∃ N : St → Hp → Prop, (∀ σ' H', N σ' H' → ∃ m', m' < m ∧ W (i + 1) m' σ' H') ∧ ∀ x H', (Itr lo n).yld i H x H' → g x σ H' fun σ2 H2 => tb { D with nx := N, ct := N, bk := D.nx } σ2 H2) := by
  refine ⟨fun i m σ H => m = n - i ∧ i ≤ n ∧ Pv i σ H, ⟨n, by simp, Nat.zero_le _, h0⟩, ?_⟩
  rintro i m σ H ⟨rfl, hi, p⟩
  by_cases hlt : i < n
  · refine .inr ⟨hlt, Pv (i + 1), fun σ' H' p' => ⟨n - (i + 1), by omega, rfl, hlt, p'⟩, fun x H' y => ?_⟩
    obtain ⟨e, y⟩ := y
    subst e y
    exact hs i σ _ hlt p
  · have e : i = n := by omega
    subst e
    exact .inl ⟨Nat.le_refl _, hd σ H p⟩
end L2
namespace L2
open PySem PySem.Spec PyProof.Rows
abbrev R2 := V → V → Hp → VK → Prop
def OpR (X : Cx) (f : Value → Value → Sem Value) (r : R2) : Prop :=
  ∀ (pins : List (Addr × Obj)) (s : Shared) (σ : St) (H : Hp) (x y : V) (v u : Value) (Q : VK), Inv X pins σ H s → RelV x v → RelV y u → r x y H Q →
    wpAny (model X.prog X.w) X.A (f v u) (EP X pins σ Q) X.xe s
def UnR (X : Cx) (f : Value → Sem Value) (r : V → Hp → VK → Prop) : Prop :=
  ∀ (pins : List (Addr × Obj)) (s : Shared) (σ : St) (H : Hp) (x : V) (v : Value) (Q : VK), Inv X pins σ H s → RelV x v → r x H Q →
    wpAny (model X.prog X.w) X.A (f v) (EP X pins σ Q) X.xe s
def CallR (X : Cx) (f : Value) (r : List V → Hp → VK → Prop) : Prop :=
  ∀ (pins : List (Addr × Obj)) (s : Shared) (σ : St) (H : Hp) (xs : List V) (us : List Value) (Q : VK), Inv X pins σ H s → Vals xs us → r xs H Q →
    wpAny (model X.prog X.w) X.A (call f us) (EP X pins σ Q) X.xe s
def tOp (r : R2) (ta tb : TE) : TE := fun σ H Q => ta σ H fun x H1 => tb σ H1 fun y H2 => r x y H2 Q
def tUn (r : V → Hp → VK → Prop) (ta : TE) : TE := fun σ H Q => ta σ H fun x H1 => r x H1 Q
def rI (C : Int → Int → Prop) (g : Int → Int → V) : R2 := fun x y H Q => ∃ i j, x = .int i ∧ y = .int j ∧ C i j ∧ Q (g i j) H
def rI0 (g : Int → Int → V) : R2 := fun x y H Q => ∃ i j, x = .int i ∧ y = .int j ∧ Q (g i j) H
def rU (g : Int → V) : V → Hp → VK → Prop := fun x H Q => ∃ i, x = .int i ∧ Q (g i) H
section
variable {X : Cx} {a b c : Expr} {ta tb tc : TE} {pos : Pos}
theorem binT (ha : PE X a ta) (hb : PE X b tb) {pins : List (Addr × Obj)} {s : Shared} {σ : St} {H : Hp} {R : V → V → Hp → Prop} (I : Inv X pins σ H s)
    (h : ta σ H fun x H1 => tb σ H1 fun y H2 => R x y H2) {Q : Value → Shared → Prop} {f : Value → Value → Sem Value}
    (hf : ∀ v u s2 x y H2, Inv X pins σ H2 s2 → RelV x v → RelV y u → R x y H2 → wpAny (model X.prog X.w) X.A (f v u) Q X.xe s2) :
    wpAny (model X.prog X.w) X.A (eval a X.env) (fun v s₁ => wpAny (model X.prog X.w) X.A (eval b X.env) (fun u s₂ => wpAny (model X.prog X.w) X.A (f v u) Q X.xe s₂) X.xe s₁) X.xe s := by
  refine thn (ha pins s σ H _ I h) fun v s1 ⟨x, H1, I1, r1, q1⟩ => ?_
  refine thn (hb pins s1 σ H1 _ I1 q1) fun u s2 ⟨y, H2, I2, r2, q2⟩ => ?_
  exact hf v u s2 x y H2 I2 r1 r2 q2
theorem pe_op {op : Operator} {r : R2} (ho : OpR X (binaryOp op) r) (ha : PE X a ta) (hb : PE X b tb) : PE X (.BinOp a op b pos) (tOp r ta tb) := by
  intro pins s σ H Q I h
  exact wpAny_BinOp (binT ha hb I h fun v u s2 x y H2 I2 rx ry q => ho pins s2 σ H2 x y v u Q I2 rx ry q)
theorem pe_un {op : UnaryOp} {r : V → Hp → VK → Prop} (ho : UnR X (unaryOp op) r) (ha : PE X a ta) : PE X (.UnaryOp op a pos) (tUn r ta) := by
  intro pins s σ H Q I h
  exact UnaryOp_ (thn (ha pins s σ H _ I h) fun v s1 ⟨x, H1, I1, r1, q1⟩ => ho pins s1 σ H1 x v Q I1 r1 q1)
theorem opI {f : Value → Value → Sem Value} {C : Int → Int → Prop} {g : Int → Int → Int}
    (rule : ∀ (i j : Int) (t u : Tok) (s : Shared) (Q : Value → Shared → Prop) (E : Value → Shared → Prop), C i j → Q (.int (g i j) s.toks) { s with toks := s.toks + 1 } → wpAny (model X.prog X.w) X.A (f (.int i t) (.int j u)) Q E s) :
    OpR X f (rI C fun i j => .int (g i j)) := by
  intro pins s σ H x y v u Q I rx ry h
  obtain ⟨i, j, rfl, rfl, hc, q⟩ := h
  obtain ⟨t, rfl⟩ := rx
  obtain ⟨t', rfl⟩ := ry
  exact rule i j t t' s _ _ hc ⟨.int (g i j), H, I.tok _, ⟨_, rfl⟩, q⟩
theorem opI0 {f : Value → Value → Sem Value} {g : Int → Int → Int}
    (rule : ∀ (i j : Int) (t u : Tok) (s : Shared) (Q : Value → Shared → Prop) (E : Value → Shared → Prop), Q (.int (g i j) s.toks) { s with toks := s.toks + 1 } → wpAny (model X.prog X.w) X.A (f (.int i t) (.int j u)) Q E s) :
    OpR X f (rI0 fun i j => .int (g i j)) := by
  intro pins s σ H x y v u Q I rx ry h
  obtain ⟨i, j, rfl, rfl, q⟩ := h
  obtain ⟨t, rfl⟩ := rx
  obtain ⟨t', rfl⟩ := ry
  exact rule i j t t' s _ _ ⟨.int (g i j), H, I.tok _, ⟨_, rfl⟩, q⟩
theorem opB0 {f : Value → Value → Sem Value} {g : Int → Int → Bool}
    (rule : ∀ (i j : Int) (t u : Tok) (s : Shared) (Q : Value → Shared → Prop) (E : Value → Shared → Prop), Q (.bool (g i j)) s → wpAny (model X.prog X.w) X.A (f (.int i t) (.int j u)) Q E s) :
    OpR X f (rI0 fun i j => .bl (g i j)) := by
  intro pins s σ H x y v u Q I rx ry h
  obtain ⟨i, j, rfl, rfl, q⟩ := h
  obtain ⟨t, rfl⟩ := rx
  obtain ⟨t', rfl⟩ := ry
  exact rule i j t t' s _ _ ⟨.bl (g i j), H, I, rfl, q⟩
def CDiv (i j : Int) : Prop := 0 < j ∧ j < 1073741824
def CPow (i j : Int) : Prop := 0 ≤ j ∧ j ≤ 1000000 ∧ i.natAbs < 2 ^ 64
def CMul (i j : Int) : Prop := (-(2 ^ 64) < i ∧ i < 2 ^ 64) ∨ (-(2 ^ 64) < j ∧ j < 2 ^ 64)
theorem CMul.ok {i j : Int} (h : CMul i j) : IntMulOk i j := by
  rcases h with ⟨h1, h2⟩ | ⟨h1, h2⟩
  · exact .of_left (intBits_le_64 h1 h2)
  · exact .of_right (intBits_le_64 h1 h2)
theorem op_add : OpR X (binaryOp .Add) (rI0 fun i j => .int (i + j)) := opI0 fun _ _ _ _ _ _ _ q => add_int q
theorem op_sub : OpR X (binaryOp .Sub) (rI0 fun i j => .int (i - j)) := opI0 fun _ _ _ _ _ _ _ q => sub_int q
theorem op_mul : OpR X (binaryOp .Mult) (rI CMul fun i j => .int (i * j)) := opI fun _ _ _ _ _ _ _ hc q => mul_int q hc.ok
theorem op_fdiv : OpR X (binaryOp .FloorDiv) (rI CDiv fun i j => .int (i / j)) := opI fun i j _ _ _ _ _ hc q => by
  have h1 : (0 : Int) < j := hc.1
  have h2 : j < 1073741824 := hc.2
  exact floordiv_int (by omega) (by rw [Int.fdiv_eq_ediv_of_nonneg i (by omega)]; exact q) (.inl (PyProof.noPylong_small (by omega)))
theorem op_mod : OpR X (binaryOp .Mod) (rI (fun _ j => 0 < j) fun i j => .int (i % j)) := opI fun i j _ _ _ _ _ hc q => by
  have h1 : (0 : Int) < j := hc
  exact mod_int' (by omega) (by rw [Int.fmod_eq_emod_of_nonneg i (by omega)]; exact q)
theorem op_pow : OpR X (binaryOp .Pow) (rI CPow fun i j => .int (i ^ j.toNat)) := opI fun _ _ _ _ _ _ _ hc q => pow_int_small hc.1 hc.2.1 hc.2.2 q
theorem unI {f : Value → Sem Value} {g : Int → Int}
    (rule : ∀ (i : Int) (t : Tok) (s : Shared) (Q : Value → Shared → Prop) (E : Value → Shared → Prop), Q (.int (g i) s.toks) { s with toks := s.toks + 1 } → wpAny (model X.prog X.w) X.A (f (.int i t)) Q E s) :
    UnR X f (rU fun i => .int (g i)) := by
  intro pins s σ H x v Q I rx h
  obtain ⟨i, rfl, q⟩ := h
  obtain ⟨t, rfl⟩ := rx
  exact rule i t s _ _ ⟨.int (g i), H, I.tok _, ⟨_, rfl⟩, q⟩
theorem un_neg : UnR X (unaryOp .USub) (rU fun i => .int (-i)) := unI fun _ _ _ _ _ q => neg_int q
end
def scal : V → V → Bool
  | .non, .non => true | .non, .int _ => true | .int _, .non => true | .non, .bl _ => true | .bl _, .non => true | .non, .str _ => true | .str _, .non => true
  | .int _, .int _ => true | .bl _, .bl _ => true | .str _, .str _ => true | .byt _, .byt _ => true
  | .int _, .str _ => true | .str _, .int _ => true | .bl _, .str _ => true | .str _, .bl _ => true
  | _, _ => false
def rEq : R2 := fun x y H Q => scal x y = true ∧ Q (.bl (decide (x = y))) H
def rNe : R2 := fun x y H Q => scal x y = true ∧ Q (.bl (!decide (x = y))) H
theorem dec_int {i j : Int} : decide (V.int i = V.int j) = (i == j) := by
  rw [Bool.eq_iff_iff]
  simp
theorem dec_bl {i j : Bool} : decide (V.bl i = V.bl j) = (i == j) := by
  rw [Bool.eq_iff_iff]
  simp
theorem dec_str {i j : Str} : decide (V.str i = V.str j) = (i == j) := by
  rw [Bool.eq_iff_iff]
  simp
theorem dec_byt {i j : Array UInt8} : decide (V.byt i = V.byt j) = (i.toList == j.toList) := by
  rw [Bool.eq_iff_iff]
  cases i
  cases j
  simp
section
variable {X : Cx} {a b c : Expr} {ta tb tc : TE} {pos : Pos}
theorem fin_bl {pins : List (Addr × Obj)} {σ : St} {H : Hp} {s : Shared} {Q : VK} {k k' : Bool} (I : Inv X pins σ H s) (q : Q (.bl k) H) (e : k = k') : EP X pins σ Q (.bool k') s := by
  subst e
  exact ⟨.bl k, H, I, rfl, q⟩
theorem op_eq : OpR X (compareOp .Eq) rEq := by
  intro pins s σ H x y v u Q I rx ry h
  obtain ⟨hs, q⟩ := h
  cases x with
  | non =>
    cases rx
    cases y with
    | non => cases ry; exact PySem.EqNone.eq_none_none (fin_bl I q (by simp))
    | bl j => cases ry; exact PySem.EqNone.eq_none_bool (fin_bl I q (by simp))
    | int j => obtain ⟨t', rfl⟩ := ry; exact PySem.EqNone.eq_none_int (fin_bl I q (by simp))
    | str j => obtain ⟨t', rfl⟩ := ry; exact PySem.EqNone.eq_none_str (fin_bl I q (by simp))
    | _ => exact absurd (show false = true from hs) Bool.false_ne_true
  | bl i =>
    cases rx
    cases y with
    | non => cases ry; exact PySem.EqNone.eq_bool_none (fin_bl I q (by simp))
    | bl j => cases ry; exact eq_bool (fin_bl I q dec_bl)
    | str j => obtain ⟨t', rfl⟩ := ry; exact PySem.EqMixed.eq_bool_str (fin_bl I q (by simp))
    | _ => exact absurd (show false = true from hs) Bool.false_ne_true
  | int i =>
    obtain ⟨t, rfl⟩ := rx
    cases y with
    | non => cases ry; exact PySem.EqNone.eq_int_none (fin_bl I q (by simp))
    | int j => obtain ⟨t', rfl⟩ := ry; exact eq_int (fin_bl I q dec_int)
    | str j => obtain ⟨t', rfl⟩ := ry; exact PySem.EqMixed.eq_int_str (fin_bl I q (by simp))
    | _ => exact absurd (show false = true from hs) Bool.false_ne_true
  | str i =>
    obtain ⟨t, rfl⟩ := rx
    cases y with
    | non => cases ry; exact PySem.EqNone.eq_str_none (fin_bl I q (by simp))
    | bl j => cases ry; exact PySem.EqMixed.eq_str_bool (fin_bl I q (by simp))
    | int j => obtain ⟨t', rfl⟩ := ry; exact PySem.EqMixed.eq_str_int (fin_bl I q (by simp))
    | str j => obtain ⟨t', rfl⟩ := ry; exact eq_str (fin_bl I q dec_str)
    | _ => exact absurd (show false = true from hs) Bool.false_ne_true
  | byt i =>
    obtain ⟨t, rfl⟩ := rx
    cases y with
    | byt j => obtain ⟨t', rfl⟩ := ry; exact PySem.W.eq_bytes (fin_bl I q dec_byt)
    | _ => exact absurd (show false = true from hs) Bool.false_ne_true
  | _ => cases y <;> exact absurd (show false = true from hs) Bool.false_ne_true
theorem op_ne : OpR X (compareOp .NotEq) rNe := by
  intro pins s σ H x y v u Q I rx ry h
  obtain ⟨hs, q⟩ := h
  cases x with
  | non =>
    cases rx
    cases y with
    | non => cases ry; exact PySem.EqNone.ne_none_none (fin_bl I q (by simp))
    | bl j => cases ry; exact PySem.EqNone.ne_none_bool (fin_bl I q (by simp))
    | int j => obtain ⟨t', rfl⟩ := ry; exact PySem.EqNone.ne_none_int (fin_bl I q (by simp))
    | str j => obtain ⟨t', rfl⟩ := ry; exact PySem.EqNone.ne_none_str (fin_bl I q (by simp))
    | _ => exact absurd (show false = true from hs) Bool.false_ne_true
  | bl i =>
    cases rx
    cases y with
    | non => cases ry; exact PySem.EqNone.ne_bool_none (fin_bl I q (by simp))
    | bl j => cases ry; exact ne_bool (fin_bl I q (congrArg not dec_bl))
    | str j => obtain ⟨t', rfl⟩ := ry; exact PySem.EqMixed.ne_bool_str (fin_bl I q (by simp))
    | _ => exact absurd (show false = true from hs) Bool.false_ne_true
  | int i =>
    obtain ⟨t, rfl⟩ := rx
    cases y with
    | non => cases ry; exact PySem.EqNone.ne_int_none (fin_bl I q (by simp))
    | int j => obtain ⟨t', rfl⟩ := ry; exact ne_int (fin_bl I q (congrArg not dec_int))
    | str j => obtain ⟨t', rfl⟩ := ry; exact PySem.EqMixed.ne_int_str (fin_bl I q (by simp))
    | _ => exact absurd (show false = true from hs) Bool.false_ne_true
  | str i =>
    obtain ⟨t, rfl⟩ := rx
    cases y with
    | non => cases ry; exact PySem.EqNone.ne_str_none (fin_bl I q (by simp))
    | bl j => cases ry; exact PySem.EqMixed.ne_str_bool (fin_bl I q (by simp))
    | int j => obtain ⟨t', rfl⟩ := ry; exact PySem.EqMixed.ne_str_int (fin_bl I q (by simp))
    | str j => obtain ⟨t', rfl⟩ := ry; exact ne_str (fin_bl I q (congrArg not dec_str))
    | _ => exact absurd (show false = true from hs) Bool.false_ne_true
  | byt i =>
    obtain ⟨t, rfl⟩ := rx
    cases y with
    | byt j => obtain ⟨t', rfl⟩ := ry; exact PySem.W.ne_bytes (fin_bl I q (congrArg not dec_byt))
    | _ => exact absurd (show false = true from hs) Bool.false_ne_true
  | _ => cases y <;> exact absurd (show false = true from hs) Bool.false_ne_true
theorem op_lt : OpR X (compareOp .Lt) (rI0 fun i j => .bl (decide (i < j))) := opB0 fun _ _ _ _ _ _ _ q => lt_int q
theorem op_le : OpR X (compareOp .LtE) (rI0 fun i j => .bl (decide (i ≤ j))) := opB0 fun _ _ _ _ _ _ _ q => le_int q
theorem op_gt : OpR X (compareOp .Gt) (rI0 fun i j => .bl (decide (j < i))) := opB0 fun _ _ _ _ _ _ _ q => gt_int q
theorem op_ge : OpR X (compareOp .GtE) (rI0 fun i j => .bl (decide (j ≤ i))) := opB0 fun _ _ _ _ _ _ _ q => ge_int q
theorem nomark (b : Expr) {op : CmpOp} (h : op ≠ .In := by decide) (h2 : op ≠ .NotIn := by decide) : behindInMarks op b = false := by
  have e1 : (op == CmpOp.In) = false := by cases op <;> first | rfl | exact absurd rfl h
  have e2 : (op == CmpOp.NotIn) = false := by cases op <;> first | rfl | exact absurd rfl h2
  cases b <;> simp [behindInMarks, e1, e2]
theorem pe_cmpR {op : CmpOp} {r : R2} (ho : OpR X (compareOp op) r) (ha : PE X a ta) (hb : PE X b tb) (hm : behindInMarks op b = false) : PE X (.Compare a [op] [b] pos) (tOp r ta tb) := by
  intro pins s σ H Q I h
  exact wpAny_Compare1 (binT ha hb I h fun v u s2 x y H2 I2 rx ry q => ho pins s2 σ H2 x y v u Q I2 rx ry q) hm
def tTest (t : TE) : TT := fun σ H Q => t σ H fun x H' => ∃ k, x = .bl k ∧ Q k H'
theorem pt_cmpR {op : CmpOp} {r : R2} (ho : OpR X (compareOp op) r) (ha : PE X a ta) (hb : PE X b tb) (hm : behindInMarks op b = false) : PT X (.Compare a [op] [b] pos) (tTest (tOp r ta tb)) := by
  intro pins s σ H Q I h
  refine wpAny_isTrue_Compare1 (thn (ha pins s σ H _ I h) fun v s1 ⟨x, H1, I1, r1, q1⟩ => thn (hb pins s1 σ H1 _ I1 q1) fun u s2 ⟨y, H2, I2, r2, q2⟩ =>
    thn (ho pins s2 σ H2 x y v u _ I2 r1 r2 q2) fun c s3 ⟨z, H3, I3, r3, k, e, q3⟩ => ?_) hm
  subst e
  cases r3
  exact wpAny_truthy_bool ⟨H3, I3, q3⟩
theorem line63 : (sizeLine : Nat) < 2 ^ 63 := by rw [sizeLine_eq]; decide
theorem op_add_str : OpR X (binaryOp .Add) (fun x y H Q => ∃ i j, x = .str i ∧ y = .str j ∧ i.length + j.length ≤ sizeLine ∧ Q (.str (i ++ j)) H) := by
  intro pins s σ H x y v u Q I rx ry h
  obtain ⟨i, j, rfl, rfl, hz, q⟩ := h
  obtain ⟨t, rfl⟩ := rx
  obtain ⟨t', rfl⟩ := ry
  exact add_str (fun t' tk => ⟨.str (i ++ j), H, I.tok _, ⟨_, rfl⟩, q⟩) hz
theorem vals1 {x : V} {us : List Value} (r : Vals [x] us) : ∃ u, us = [u] ∧ RelV x u := by
  cases r with
  | cons r1 r2 => cases r2; exact ⟨_, rfl, r1⟩
theorem vals2 {x y : V} {us : List Value} (r : Vals [x, y] us) : ∃ u w', us = [u, w'] ∧ RelV x u ∧ RelV y w' := by
  cases r with
  | cons r1 r2 =>
    cases r2 with
    | cons r3 r4 => cases r4; exact ⟨_, _, rfl, r1, r3⟩
theorem call_max2 (hc : X.calm = true) : CallR X (.builtin "max") (fun xs H Q => ∃ i j, xs = [.int i, .int j] ∧ Q (.int (if j > i then j else i)) H) := by
  intro pins s σ H xs us Q I r h
  obtain ⟨i, j, rfl, q⟩ := h
  obtain ⟨u, w', rfl, ⟨t, rfl⟩, ⟨t', rfl⟩⟩ := vals2 r
  refine max_two_ints (I.ok.hd hc) fun h' tk k => ⟨_, H, I.kept k, ?_, q⟩
  by_cases hj : j > i
  · rw [if_pos hj, if_pos hj]; exact ⟨_, rfl⟩
  · rw [if_neg hj, if_neg hj]; exact ⟨_, rfl⟩
theorem call_int1 : CallR X (.type "int") (fun xs H Q => (∃ i, xs = [.int i] ∧ Q (.int i) H) ∨ ∃ k, xs = [.bl k] ∧ Q (.int (if k then 1 else 0)) H) := by
  intro pins s σ H xs us Q I r h
  rcases h with ⟨i, rfl, q⟩ | ⟨k, rfl, q⟩
  · obtain ⟨u, rfl, t, rfl⟩ := vals1 r
    exact call_int_int ⟨.int i, H, I, ⟨_, rfl⟩, q⟩
  · obtain ⟨u, rfl, r1⟩ := vals1 r
    cases r1
    exact call_int_bool ⟨.int (if k then 1 else 0), H, I.tok _, ⟨_, rfl⟩, q⟩
theorem call_str_int : CallR X (.type "str") (fun xs H Q => ∃ i, xs = [.int i] ∧ i.natAbs.log2 < 1920 ∧ Q (.str (toString i)) H) := by
  intro pins s σ H xs us Q I r h
  obtain ⟨i, rfl, hz, q⟩ := h
  obtain ⟨u, rfl, t, rfl⟩ := vals1 r
  exact PySem.P.str_of_int hz ⟨.str _, H, I.tok _, ⟨_, rfl⟩, q⟩
end
end L2
namespace L2
open PySem PySem.Spec PyProof.Rows
structure ObjM (h : Heap) (x dx C : Addr) (mA : Str → Option Value) : Prop where
  obj : h.get? x = some (PySem.W.instObj C dx)
  ns : h.Ns1 dx mA
  ne : dx ≠ x
theorem lookIn_ns {h : Heap} {dx : Addr} {mA : Str → Option Value} (n : h.Ns1 dx mA) : ∃ od, h.get? dx = some od ∧ ∀ name, PySem.W.lookIn name od = some (mA name) := by
  obtain ⟨o, es, ep, ho, hd, hk, _, hm⟩ := n
  refine ⟨o, ho, fun name => ?_⟩
  have e := hm name
  unfold nsFind findBy at e
  rw [← Array.find?_toList] at e
  unfold PySem.W.lookIn
  rw [hd]
  dsimp only
  split
  · rename_i y q
    rw [q] at e
    exact congrArg some e
  · rename_i q
    rw [q] at e
    have a : es.toList.any (·.refKey) = false := by
      rw [List.any_eq_false]
      intro y hy
      obtain ⟨z, t, hkey⟩ := hk y (Array.mem_toList_iff.mp hy)
      simp [DictEntry.refKey, hkey]
    have a' : ¬ es.toList.any (·.refKey) = true := by rw [a]; exact Bool.false_ne_true
    rw [if_neg a']
    exact congrArg some e
theorem ObjM.look {h : Heap} {x dx C : Addr} {mA : Str → Option Value} (I : ObjM h x dx C mA) : ∃ od, PySem.W.InstAt h x (PySem.W.instObj C dx) C (some od) ∧ ∀ name, PySem.W.lookIn name od = some (mA name) :=
  let ⟨od, ho, hl⟩ := lookIn_ns I.ns
  ⟨od, ⟨I.obj, rfl, rfl, ho⟩, hl⟩
section
variable {prog : Program} {w : World} {A : Around} {E : Value → Shared → Prop} {s : Shared} {K : PySem.W.Frag} {x dx C f : Addr} {mA : Str → Option Value} {name : Str} {v : Value}
theorem get_map {expr : Bool} {Q : Value → Shared → Prop} (X : K.In s.heap) (I : ObjM s.heap x dx C mA) (hg : PySem.W.plainGet K C name = true) (hh : PySem.W.hasDictIn K C = true)
    (ha : PySem.W.findIn K (.ref C) name = some none) (hv : mA name = some v) (hv' : PySem.W.handedIn v = true) (h : Q v { s with toks := s.toks + 1 }) :
    wpAny (model prog w) A (getAttr (.ref x) name expr) Q E s := by
  obtain ⟨od, J, hl⟩ := I.look
  exact PySem.W.get_value X J (PySem.W.plainGet_of hg).1 (PySem.W.findObj_own hh ha rfl (by rw [hl, hv])) hv' h
theorem get_meth {pl : Sem Bool} {Q : Value × List Value → Shared → Prop} (X : K.In s.heap) (I : ObjM s.heap x dx C mA) (hg : PySem.W.plainGet K C name = true)
    (hf : PySem.W.findIn K (.ref C) name = some (some (.ref f))) (ht : PySem.W.isFn K (.ref f) = true) (hv : mA name = none) (h : Q (.ref f, [.ref x]) s) :
    wpAny (model prog w) A (getMethod (.ref x) name pl) Q E s := by
  obtain ⟨od, J, hl⟩ := I.look
  exact PySem.W.method_fn X J (PySem.W.plainGet_of hg).1 (PySem.W.plainGet_of hg).2 hf (beq_iff_eq.mp ht) (by show (PySem.W.lookIn name od).map (·.isSome) = some false; rw [hl, hv]; rfl) h
theorem set_map {ns : List Str} {Q : Unit → Shared → Prop} (X : K.In s.heap) (I : ObjM s.heap x dx C mA)
    (hs : PySem.W.findIn K (.ref C) "__setattr__" = some (some (.builtin "object.__setattr__"))) (hp : PySem.W.plainOver K C = true) (ht : PySem.W.takerIn K C name = some none) (hh : PySem.W.hasDictIn K C = true)
    (hw : PySem.Within mA ns) (hsz : ns.length ≤ sizeLine)
    (h : ∀ h', ObjM h' x dx C (fun y => if y = name then some v else mA y) → Heap.SameBut dx s.heap h' → Q () { s with heap := h', toks := s.toks + 2 }) :
    wpAny (model prog w) A (setAttr (.ref x) name v) Q E s := by
  obtain ⟨od, J, hl⟩ := I.look
  refine PySem.W.set_plain X J hs (PySem.W.osa_open (s := { s with toks := s.toks + 1 }) (r := none) X J hp ht fun b => ?_)
  obtain ⟨cd, hc, hd'⟩ := PySem.W.any_some hh
  have hx : s.heap.get? x = some ⟨.ref C, some dx, .plain, #[]⟩ := I.obj
  refine wpAny_bind (wpAny_pure (wpAny_bind (wpAny_bind (wpAny_loadPart hx (wpAny_bind (PySem.W.Looks.here (s := { s with toks := s.toks + 1 }) (PySem.W.looks_clsIn X hc) ?_))))))
  rw [hd']
  refine wpAny_pure (a := some dx) (wpAny_bind (wpAny_pure (wpAny_bind ?_)))
  refine wpAny_nsSet1 (s := { s with toks := s.toks + 1 }) I.ns fun h' hn2 hs2 => ?_
  obtain ⟨oD, esD, epD, hoD, hdD, hcD⟩ := hn2.count (PySem.Within.cons name v hw)
  refine wpAny_bind (wpAny_lookBehind hoD (by rw [hdD]; exact pastItsLine_dict (Nat.le_trans hcD (by rw [List.length_cons]; omega))) ?_)
  exact wpAny_pure (h _ ⟨(hs2.2 _ (Ne.symm I.ne)).trans I.obj, hn2, I.ne⟩ hs2)
theorem make_map {R : Result → Shared → Prop} {vs : List Value} {kw : List (Str × Value)} (X : K.In s.heap) (hm : PySem.W.makesIn K C = true)
    (hi : PySem.W.findIn K (.ref C) "__init__" = some (some (.ref f))) (hf : PySem.W.typeIn K (.ref f) = some (.type "function"))
    (h : codeAny (model prog w) (A.under (.builtin "type.__call__" ⟨.ref C :: vs, kw⟩)) (.call (.ref f) ⟨.ref (s.heap.objs.size + 1) :: vs, kw⟩) (PySem.W.InitBack (s.heap.objs.size + 1) R)
      { s with heap := (s.heap.push PySem.W.emptyDict).push (PySem.W.instObj C s.heap.objs.size) }) :
    codeAny (model prog w) A (.call (.ref C) ⟨vs, kw⟩) R s := by
  obtain ⟨hh, g, d, t, os⟩ := s
  exact PySem.W.make_core (PySem.W.makes_of X hm) (PySem.W.looks_findIn X hi) (fun self => PySem.W.bind_fn X self hf) (.inl rfl) h
end
def putF (f : Str) (v : V) : List (Str × V) → List (Str × V)
  | [] => [(f, v)]
  | (g, x) :: r => if g = f then (g, v) :: r else (g, x) :: putF f v r
theorem lookup_putF (f g : Str) (v : V) : ∀ fs : List (Str × V), (putF f v fs).lookup g = if g = f then some v else fs.lookup g
  | [] => by
    show List.lookup g [(f, v)] = _
    by_cases h : g = f
    · have hb : (g == f) = true := beq_iff_eq.mpr h
      simp only [List.lookup, hb, if_pos h]
    · have hb : (g == f) = false := beq_eq_false_iff_ne.mpr h
      simp only [List.lookup, hb, if_neg h]
  | (k, x) :: r => by
    have ih := lookup_putF f g v r
    rw [show putF f v ((k, x) :: r) = (if k = f then (k, v) :: r else (k, x) :: putF f v r) from rfl]
    by_cases hk : k = f
    · rw [if_pos hk]
      by_cases h : g = k
      · have hb : (g == k) = true := beq_iff_eq.mpr h
        simp only [List.lookup, hb, if_pos (h.trans hk)]
      · have hb : (g == k) = false := beq_eq_false_iff_ne.mpr h
        simp only [List.lookup, hb, if_neg (fun e : g = f => h (e.trans hk.symm))]
    · rw [if_neg hk]
      by_cases h : g = k
      · have hb : (g == k) = true := beq_iff_eq.mpr h
        simp only [List.lookup, hb, if_neg (fun e : g = f => hk (h.symm.trans e))]
      · have hb : (g == k) = false := beq_eq_false_iff_ne.mpr h
        simp only [List.lookup, hb]
        exact ih
theorem keys_putF (f : Str) (v : V) : ∀ fs : List (Str × V), f ∈ (putF f v fs).map (·.1) ∧ ∀ g, g ∈ fs.map (·.1) → g ∈ (putF f v fs).map (·.1)
  | [] => ⟨by simp [putF], fun g h => by simp at h⟩
  | (k, x) :: r => by
    obtain ⟨i1, i2⟩ := keys_putF f v r
    rw [show putF f v ((k, x) :: r) = (if k = f then (k, v) :: r else (k, x) :: putF f v r) from rfl]
    by_cases hk : k = f
    · rw [if_pos hk]
      subst hk
      exact ⟨by simp, fun g h => by simpa using h⟩
    · rw [if_neg hk]
      refine ⟨?_, fun g h => ?_⟩
      · rw [List.map_cons]
        exact List.mem_cons_of_mem _ i1
      · rw [List.map_cons] at h ⊢
        rcases List.mem_cons.mp h with e | e
        · exact List.mem_cons.mpr (.inl e)
        · exact List.mem_cons_of_mem _ (i2 g e)
theorem length_putF (f : Str) (v : V) : ∀ fs : List (Str × V), (putF f v fs).length ≤ fs.length + 1
  | [] => by simp [putF]
  | (k, x) :: r => by
    have ih := length_putF f v r
    rw [show putF f v ((k, x) :: r) = (if k = f then (k, v) :: r else (k, x) :: putF f v r) from rfl]
    by_cases hk : k = f
    · rw [if_pos hk, List.length_cons, List.length_cons]; omega
    · rw [if_neg hk, List.length_cons, List.length_cons]; omega
theorem RelO.some_of {v : V} {o : Option Value} (r : RelO (some v) o) : ∃ u, o = some u ∧ RelV v u := by
  cases o with
  | none => exact (show False from r).elim
  | some u => exact ⟨u, rfl, r⟩
theorem RelO.none_of {o : Option Value} (r : RelO none o) : o = none := by
  cases o with
  | none => rfl
  | some u => exact (show False from r).elim
theorem handed_of {v : V} {u : Value} (r : RelV v u) : PySem.W.handedIn u = true := by
  cases v with
  | non => cases (show u = Value.none from r); rfl
  | bl b => cases (show u = Value.bool b from r); rfl
  | int i => obtain ⟨t, e⟩ := (show ∃ t, u = Value.int i t from r); cases e; rfl
  | str x => obtain ⟨t, e⟩ := (show ∃ t, u = Value.str x t from r); cases e; rfl
  | byt b => obtain ⟨t, e⟩ := (show ∃ t, u = Value.bytes b t from r); cases e; rfl
  | flt b => obtain ⟨t, e⟩ := (show ∃ t, u = Value.float b t from r); cases e; rfl
  | ref a => cases (show u = Value.ref a from r); rfl
  | ty n => cases (show u = Value.type n from r); rfl
section
variable {P : Program} {w : World} {H H' : Hp} {h h' : Heap} {a C dx : Addr} {fs fs' : List (Str × V)}
theorem ins_get (hok : HOk P w H h) (e : H a = some (.ins C dx fs)) : ∃ mA, ObjM h a dx C mA ∧ (∀ f, RelO (fs.lookup f) (mA f)) ∧ PySem.Within mA (fs.map (·.1)) ∧ fs.length ≤ 1000 ∧ H dx = some (.own a) := by
  obtain ⟨d, z, ne, ob, mA, n, r, q⟩ := (show ObjOk P w H h a (.ins C dx fs) from hok a _ e)
  exact ⟨mA, ⟨ob, n, ne⟩, r, q, z, d⟩
end
structure Cls (K : PySem.W.Frag) (C : Addr) : Prop where
  pg : PySem.W.plainGet K C Str.empty = true
  hd : PySem.W.hasDictIn K C = true
  po : PySem.W.plainOver K C = true
  sa : PySem.W.findIn K (.ref C) "__setattr__" = some (some (.builtin "object.__setattr__"))
theorem Cls.get {K : PySem.W.Frag} {C : Addr} (c : Cls K C) (f : Str) : PySem.W.plainGet K C f = true := c.pg
def NoAttr (K : PySem.W.Frag) (C : Addr) (f : Str) : Prop := PySem.W.findIn K (.ref C) f = some none
theorem NoAttr.taker {K : PySem.W.Frag} {C : Addr} {f : Str} (n : NoAttr K C f) : PySem.W.takerIn K C f = some none := by
  unfold PySem.W.takerIn
  rw [show PySem.W.findIn K (.ref C) f = some none from n]
  rfl
structure Con (K : PySem.W.Frag) (C : Addr) (f : Str) (v : V) (u : Value) : Prop where
  at_ : PySem.W.findIn K (.ref C) f = some (some u)
  rel : RelV v u
  get : PySem.W.specialIn K u "__get__" = some none
  cp : PySem.W.copiedNames.contains f = false
structure Meth (K : PySem.W.Frag) (C : Addr) (m : Str) (f : Addr) : Prop where
  at_ : PySem.W.findIn K (.ref C) m = some (some (.ref f))
  fn : PySem.W.isFn K (.ref f) = true
  kp : PySem.W.keepIn K (.ref f) = true
section
variable {X : Cx} {pins : List (Addr × Obj)} {σ : St} {H : Hp} {s : Shared} {a C dx : Addr} {fs : List (Str × V)} {f : Str} {v : V} {A : Around} {E : Value → Shared → Prop}
theorem getattr_ok {b : Bool} {Q : Value → Shared → Prop} (I : Inv X pins σ H s) (e : H a = some (.ins C dx fs)) (c : Cls X.K C) (n : NoAttr X.K C f) (l : fs.lookup f = some v)
    (h : ∀ u s', Inv X pins σ H s' → RelV v u → Q u s') : wpAny (model X.prog X.w) A (getAttr (.ref a) f b) Q E s := by
  obtain ⟨mA, O, r, _, _, _⟩ := ins_get I.hok e
  obtain ⟨u, hu, ru⟩ := RelO.some_of (v := v) (o := mA f) (by rw [← l]; exact r f)
  exact get_map I.kIn O (c.get f) c.hd n hu (handed_of ru) (h u _ (I.tok _) ru)
theorem getmeth_ok {m : Str} {g : Addr} {pl : Sem Bool} {Q : Value × List Value → Shared → Prop} (I : Inv X pins σ H s) (e : H a = some (.ins C dx fs)) (c : Cls X.K C) (k : Meth X.K C m g) (l : fs.lookup m = none)
    (h : Q (.ref g, [.ref a]) s) : wpAny (model X.prog X.w) A (getMethod (.ref a) m pl) Q E s := by
  obtain ⟨mA, O, r, _, _, _⟩ := ins_get I.hok e
  have hn : mA m = none := RelO.none_of (by rw [← l]; exact r m)
  exact get_meth I.kIn O (c.get m) k.at_ k.fn hn h
theorem setattr_ok {y : V} {u : Value} {Q : Unit → Shared → Prop} (I : Inv X pins σ H s) (e : H a = some (.ins C dx fs)) (c : Cls X.K C) (n : NoAttr X.K C f) (hl : fs.length < 1000) (ry : RelV y u)
    (h : ∀ s', Inv X pins σ (upd H a (.ins C dx (putF f y fs))) s' → Q () s') : wpAny (model X.prog X.w) A (setAttr (.ref a) f u) Q E s := by
  obtain ⟨mA, O, r, wi, _, ho⟩ := ins_get I.hok e
  have hz : (fs.map (·.1)).length ≤ sizeLine := by rw [List.length_map, sizeLine_eq]; omega
  refine set_map I.kIn O c.sa c.po n.taker c.hd wi hz fun h' O' sb => h _ ?_
  have hd : ∃ o, h'.get? dx = some o := let ⟨o, _, _, e', _⟩ := O'.ns; ⟨o, e'⟩
  refine I.write (x := a) (e := dx) (by rw [e]; exact True.intro) (.inr ho) (fun b q hb z => (sb.2 b hb).trans z) hd ?_
  refine ⟨by rw [upd_ne O.ne]; exact ho, ?_, O.ne, O'.obj, _, O'.ns, fun g => ?_, fun g hg => ?_⟩
  · have := length_putF f y fs; omega
  · show RelO ((putF f y fs).lookup g) (if g = f then some u else mA g)
    rw [lookup_putF]
    by_cases q : g = f
    · rw [if_pos q, if_pos q]; exact ry
    · rw [if_neg q, if_neg q]; exact r g
  · by_cases q : g = f
    · rw [q]; exact (keys_putF f y fs).1
    · refine (keys_putF f y fs).2 g (wi g fun z => hg ?_)
      show (if g = f then some u else mA g) = none
      rw [if_neg q]; exact z
theorem Inv.made (I : Inv X pins σ H s) : Inv X pins σ (upd (upd H s.heap.objs.size (.own (s.heap.objs.size + 1))) (s.heap.objs.size + 1) (.ins C s.heap.objs.size []))
    { s with heap := (s.heap.push PySem.W.emptyDict).push (PySem.W.instObj C s.heap.objs.size) } := by
  have e1 : (s.heap.push PySem.W.emptyDict).get? s.heap.objs.size = some PySem.W.emptyDict := Heap.get?_push_size s.heap rfl
  have e2 : ((s.heap.push PySem.W.emptyDict).push (PySem.W.instObj C s.heap.objs.size)).get? (s.heap.objs.size + 1) = some (PySem.W.instObj C s.heap.objs.size) := by
    have := Heap.get?_push_size (s.heap.push PySem.W.emptyDict) (o := PySem.W.instObj C s.heap.objs.size) rfl
    rwa [Heap.size_push] at this
  have e3 : (s.heap.push PySem.W.emptyDict).Ns s.heap.objs.size (fun _ => none) := ⟨PySem.W.emptyDict, #[], _, e1, rfl, (fun e he => absurd he (by simp)), fun _ => rfl⟩
  have I1 := I.laid (a := s.heap.objs.size) (o := .own (s.heap.objs.size + 1)) (h' := s.heap.push PySem.W.emptyDict) (t' := s.toks) (fun b u q => Heap.get?_push_of_some _ q) (Nat.le_refl _) ⟨_, e1⟩
  refine I1.laid (a := s.heap.objs.size + 1) (o := .ins C s.heap.objs.size []) (t' := s.toks) (fun b u q => Heap.get?_push_of_some _ q) (Nat.le_of_eq (Heap.size_push _ _)) ?_
  have ne : s.heap.objs.size ≠ s.heap.objs.size + 1 := Nat.ne_of_lt (Nat.lt_succ_self _)
  refine ⟨by rw [upd_ne ne, upd_same], Nat.zero_le _, ne, e2, fun _ => none, (Heap.Ns1.of_empty e3).at fun o q => Heap.get?_push_of_some _ q, fun _ => True.intro, fun y hy => absurd rfl hy⟩
theorem attr_of {prog : Program} {w : World} {env : Env} {e : Expr} {f : Str} {pos : Pos} {s : Shared} {Q : Value → Shared → Prop} (hb : attributeBase e f env (eval e env) = eval e env)
    (h : wpAny (model prog w) A (eval e env) (fun o s₁ => wpAny (model prog w) A (getAttr o f true) Q E s₁) E s) : wpAny (model prog w) A (eval (.Attribute e f pos) env) Q E s :=
  Attribute_any_ h (by rw [arm_eval_Attribute, hb])
end
def tFld (K : PySem.W.Frag) (ta : TE) (f : Str) : TE := fun σ H Q => ta σ H fun x H1 => ∃ a C dx fs v, x = .ref a ∧ H1 a = some (.ins C dx fs) ∧ Cls K C ∧ NoAttr K C f ∧ fs.lookup f = some v ∧ Q v H1
def sFld (K : PySem.W.Frag) (ta tv : TE) (f : Str) : TS := fun D σ H => tv σ H fun y H1 => ta σ H1 fun x H2 => ∃ a C dx fs, x = .ref a ∧ H2 a = some (.ins C dx fs) ∧ Cls K C ∧ NoAttr K C f ∧ fs.length < 1000 ∧
  D.nx σ (upd H2 a (.ins C dx (putF f y fs)))
section
variable {X : Cx} {o e value : Expr} {f : Str} {pos pos' tpos : Pos} {ta tv : TE}
theorem pe_fld (he : PE X e ta) (hb : attributeBase e f X.env (eval e X.env) = eval e X.env) : PE X (.Attribute e f pos) (tFld X.K ta f) := by
  intro pins s σ H Q I h
  refine attr_of hb (thn (he pins s σ H _ I h) fun u s1 ⟨x, H1, I1, rx, a, C, dx, fs, v, ex, ea, c, n, l, q⟩ => ?_)
  subst ex
  obtain rfl : u = Value.ref a := rx
  exact getattr_ok I1 ea c n l fun u' s2 I2 ru => ⟨v, H1, I2, ru, q⟩
theorem ps_fld (ha : PE X o ta) (hv : PE X value tv) (hs : swapsWith value (some (.Attribute o f pos')) pos.line X.env = pure false) : PS X (.Assign [.Attribute o f pos'] value pos) (sFld X.K ta tv f) := by
  intro pins s σ H D I h
  refine plainObj_wpAny_Assign_Attribute (thn (hv pins s σ H _ I h) fun u s1 ⟨y, H1, I1, ry, q⟩ => thn (ha pins s1 σ H1 _ I1 q) fun ov s2 ⟨x, H2, I2, rx, a, C, dx, fs, ex, ea, c, n, l, q2⟩ => ?_) hs
  subst ex
  obtain rfl : ov = Value.ref a := rx
  exact setattr_ok I2 ea c n l ry fun s3 I3 => ⟨σ, _, I3, q2⟩
end
section
variable {X : Cx} {pins : List (Addr × Obj)} {σ : St} {H : Hp} {s : Shared} {A : Around} {E : Value → Shared → Prop} {Q : Value → Shared → Prop} {c : Value} {b : Bool}
inductive TyOf (K : PySem.W.Frag) (H : Hp) : V → Value → Prop where
  | non : TyOf K H .non (.type "NoneType")
  | bl (x : Bool) : TyOf K H (.bl x) (.type "bool")
  | int (i : Int) : TyOf K H (.int i) (.type "int")
  | str (x : Str) : TyOf K H (.str x) (.type "str")
  | flt (x : UInt64) : TyOf K H (.flt x) (.type "float")
  | lst {a : Addr} {xs : List V} (e : H a = some (.lst xs)) : TyOf K H (.ref a) (.type "list")
  | frz {a : Addr} {o : Obj} {xs : List V} (e : H a = some (.frz o (.lst xs))) : TyOf K H (.ref a) (.type "list")
  | tup {a : Addr} {xs : List V} (e : H a = some (.tup xs)) : TyOf K H (.ref a) (.type "tuple")
  | dK {a : Addr} {kvs : List (Key × V)} (e : H a = some (.dK kvs)) : TyOf K H (.ref a) (.type "dict")
  | dT {a : Addr} {kvs : List (List Key × V)} (e : H a = some (.dT kvs)) : TyOf K H (.ref a) (.type "dict")
  | ins {a C dx : Addr} {fs : List (Str × V)} (e : H a = some (.ins C dx fs)) (cl : Cls K C) (ha : PySem.W.findIn K (.ref C) "__class__" = some (some (.builtin "object.__class__")))
      (hn : PySem.W.specialIn K (.builtin "object.__class__") "__get__" = some (some (.builtin "getset_descriptor.__get__"))) (htk : PySem.W.takesIn K (.builtin "object.__class__") = some true)
      (hm : PySem.W.mroIn K C (.type "object") = some true) : TyOf K H (.ref a) (.ref C)
theorem isinst_ok {x : V} {u t : Value} (I : Inv X pins σ H s) (rx : RelV x u) (ty : TyOf X.K H x t) (e : PySem.W.kitOne X.K t c = some b) (h : ∀ tk, Q (.bool b) { s with toks := tk }) :
    wpAny (model X.prog X.w) A (call (.builtin "isinstance") [u, c]) Q E s := by
  cases ty with
  | non => cases (show u = Value.none from rx); exact PySem.W.kia_one PySem.W.kitx_none I.kIn True.intro e (fun z => nomatch z) h
  | bl y => cases (show u = Value.bool y from rx); exact PySem.W.kia_one PySem.W.kitx_bool I.kIn True.intro e (fun z => nomatch z) h
  | int i => obtain ⟨t, q⟩ := (show ∃ t, u = Value.int i t from rx); cases q; exact PySem.W.kia_one PySem.W.kitx_int I.kIn True.intro e (fun z => nomatch z) h
  | str y => obtain ⟨t, q⟩ := (show ∃ t, u = Value.str y t from rx); cases q; exact PySem.W.kia_one PySem.W.kitx_str I.kIn True.intro e (fun z => nomatch z) h
  | flt y => obtain ⟨t, q⟩ := (show ∃ t, u = Value.float y t from rx); cases q; exact PySem.W.kia_one PySem.W.kitx_float I.kIn True.intro e (fun z => nomatch z) h
  | @lst a xs ea =>
    cases (show u = Value.ref a from rx)
    obtain ⟨_, _, n, _, h1⟩ := (show ObjOk X.prog X.w H s.heap a (.lst xs) from I.hok a _ ea)
    exact PySem.W.kia_one PySem.W.kitx_list I.kIn ⟨_, h1, rfl⟩ e (fun z => nomatch z) h
  | @frz a ob xs ea =>
    cases (show u = Value.ref a from rx)
    obtain ⟨_, _, _, n, _, h1⟩ := (show ObjOk X.prog X.w H s.heap a (.frz ob (.lst xs)) from I.hok a _ ea)
    exact PySem.W.kia_one PySem.W.kitx_list I.kIn ⟨_, h1, rfl⟩ e (fun z => nomatch z) h
  | @tup a xs ea =>
    cases (show u = Value.ref a from rx)
    obtain ⟨_, _, _, p⟩ := (show ObjOk X.prog X.w H s.heap a (.tup xs) from I.hok a _ ea)
    obtain ⟨o, h1, h2, _⟩ := p
    exact PySem.W.kia_one PySem.W.kitx_tuple I.kIn ⟨o, h1, h2⟩ e (fun z => nomatch z) h
  | @dK a kvs ea =>
    cases (show u = Value.ref a from rx)
    obtain ⟨_, _, vs, _, p⟩ := (show ObjOk X.prog X.w H s.heap a (.dK kvs) from I.hok a _ ea)
    obtain ⟨o, es, ep, h1, h2, _⟩ := p
    exact PySem.W.kia_one PySem.W.kitx_dict I.kIn ⟨o, h1, h2.1⟩ e (fun z => nomatch z) h
  | @dT a kvs ea =>
    cases (show u = Value.ref a from rx)
    obtain ⟨_, _, xs, _, o, es, ep, h1, h2, _⟩ := (show ObjOk X.prog X.w H s.heap a (.dT kvs) from I.hok a _ ea)
    exact PySem.W.kia_one PySem.W.kitx_dict I.kIn ⟨o, h1, h2.1⟩ e (fun z => nomatch z) h
  | @ins a C dx fs ea cl ha hn htk hm =>
    cases (show u = Value.ref a from rx)
    obtain ⟨mA, O, _⟩ := ins_get I.hok ea
    obtain ⟨od, J, _⟩ := O.look
    exact PySem.W.kia_one (PySem.W.kitx_own (cl.get _) cl.hd ha hn htk hm) I.kIn J e (fun z => nomatch z) h
end
end L2
namespace L2
open PySem PySem.Spec PyProof.Rows
structure Room (k : Nat) (A : Around) : Prop where
  hd : A.handled = none
  dp : A.depth + 3 * k + 5 < recursionLimit
  un : A.units + 16 * k + 200 < cLine
theorem Room.mono {j k : Nat} {A : Around} (r : Room k A) (h : j ≤ k) : Room j A := ⟨r.hd, by have := r.dp; omega, by have := r.un; omega⟩
theorem Room.deeper {k : Nat} {A : Around} (r : Room (k + 1) A) (env : Env) : Room k (A.deeper env) :=
  ⟨r.hd, by have := r.dp; show A.depth + 1 + 3 * k + 5 < _; omega, by have := r.un; show A.units + 3 + 16 * k + 200 < _; omega⟩
theorem Room.in1 {k : Nat} {A : Around} (r : Room (k + 1) A) : Room k A.in1 :=
  ⟨r.hd, by have := r.dp; show A.depth + 3 * k + 5 < _; omega, by have := r.un; show A.units + 1 + 16 * k + 200 < _; omega⟩
theorem make_depth {A : Around} {C : Addr} {us : List Value} {kw : List (Str × Value)} : (A.under (.builtin "type.__call__" ⟨.ref C :: us, kw⟩)).depth = A.depth + 1 := by
  first | rfl | simp [Around.under, Code.weight, Code.isCreation, Code.isGuard, Code.isCaller, Code.frames, Code.isFrame, guardIds]
theorem make_units {A : Around} {C : Addr} {us : List Value} {kw : List (Str × Value)} : (A.under (.builtin "type.__call__" ⟨.ref C :: us, kw⟩)).units = A.units + 1 := by
  first | rfl | simp [Around.under, Code.cUnits, Code.frames, Code.isFrame]
theorem Room.make {k : Nat} {A : Around} (r : Room (k + 1) A) (C : Addr) (us : List Value) (kw : List (Str × Value)) : Room k (A.under (.builtin "type.__call__" ⟨.ref C :: us, kw⟩)) :=
  ⟨r.hd, by have := r.dp; rw [make_depth]; omega, by have := r.un; rw [make_units]; omega⟩
theorem Room.depth {k : Nat} {A : Around} (r : Room k A) : A.depth < recursionLimit := by have := r.dp; omega
theorem Room.units {k : Nat} {A : Around} (r : Room k A) : A.units + 64 < cLine := by have := r.un; omega
theorem Room.units0 {k : Nat} {A : Around} (r : Room k A) : A.units < cLine := by have := r.un; omega
def tNil : TA := fun _ H Q => Q [] H
def tCons (ta : TE) (tr : TA) : TA := fun σ H Q => ta σ H fun x H1 => tr σ H1 fun xs H2 => Q (x :: xs) H2
section
variable {X : Cx} {e : Expr} {es : List Expr} {te : TE} {t : TA} {pos : Pos}
theorem pa_nil : PA X [] tNil := fun _ _ _ _ H Q I h => Calls.spliced_nil ⟨[], H, I, .nil, h⟩
theorem pa_cons (ha : PE X e te) (hr : PA X es t) (hs : starEach (e :: es) X.env = (false, eval e X.env) :: starEach es X.env := by rfl) : PA X (e :: es) (tCons te t) := by
  intro pos pins s σ H Q I h
  rw [hs]
  show wpAny _ _ (spliced ((false, eval e X.env) :: backTo pos (starEach es X.env))) _ _ s
  refine Calls.spliced_cons (thn (ha pins s σ H _ I h) fun u s1 ⟨x, H1, I1, r1, q1⟩ => ?_)
  exact thn (hr pos pins s1 σ H1 _ I1 q1) fun us s2 ⟨xs, H2, I2, r2, q2⟩ => ⟨x :: xs, H2, I2, .cons r1 r2, q2⟩
def tTup (t : TA) : TE := fun σ H Q => t σ H fun xs H1 => xs.length ≤ sizeLine ∧ ∀ p, H1 p = none → Q (.ref p) (upd H1 p (.tup xs))
def tLst (t : TA) : TE := fun σ H Q => t σ H fun xs H1 => xs.length ≤ sizeLine ∧ ∀ p, H1 p = none → Q (.ref p) (upd H1 p (.lst xs))
theorem pe_tup {x1} (h : PA X es t) : PE X (.Tuple es x1 pos) (tTup t) := by
  intro pins s σ H Q I hq
  refine wpAny_Tuple_spliced (thn (h pos pins s σ H _ I hq) fun us s1 ⟨xs, H1, I1, r, z, q⟩ => ⟨by rw [← r.length]; exact z, ?_⟩)
  have hf : H1 s1.heap.objs.size = none := I1.hok.fresh (Nat.le_refl _)
  refine ⟨.ref s1.heap.objs.size, upd H1 s1.heap.objs.size (.tup xs), I1.laid (t' := s1.toks) (fun b u e => Heap.get?_push_of_some _ e) (Nat.le_refl _) ?_, rfl, q _ hf⟩
  exact ⟨z, us, r, ⟨_, Heap.get?_push_size _ rfl, rfl, _, rfl⟩⟩
theorem pe_lst (h : PA X es t) : PE X (.List es pos) (tLst t) := by
  intro pins s σ H Q I hq
  refine wpAny_List_spliced (thn (h pos pins s σ H _ I hq) fun us s1 ⟨xs, H1, I1, r, z, q⟩ => ⟨by rw [← r.length]; exact z, ?_⟩)
  have hf : H1 s1.heap.objs.size = none := I1.hok.fresh (Nat.le_refl _)
  refine ⟨.ref s1.heap.objs.size, upd H1 s1.heap.objs.size (.lst xs), I1.laid (t' := s1.toks) (fun b u e => Heap.get?_push_of_some _ e) (Nat.le_refl _) ?_, rfl, q _ hf⟩
  exact ⟨z, us, 0, r, Heap.get?_push_size _ rfl⟩
end
abbrev Sp := List V → Hp → VK → XK → Prop
abbrev CXT := List Env → Hp → Shared → XK → Value → Shared → Prop
structure Env0 (P : Program) (w : World) (K : PySem.W.Frag) (mg : Str → Option Value) (base : Heap) (A : Around) (outer : List Env) (s : Shared) (H : Hp) : Prop where
  frames : A.frames = some outer
  mod : Mod K mg base
  bs : ∀ b o, base.get? b = some o → s.heap.get? b = some o ∧ H b = none
  bsz : base.objs.size ≤ s.heap.objs.size
  funs : s.heap.FunFrames base outer
  frf : ∀ b ∈ frs outer, H b = none
  hok : HOk P w H s.heap
  bare : AllBare s.gens
def CE (outer : List Env) (P : Program) (w : World) (H : Hp) (s : Shared) (Q : VK) (u : Value) (s' : Shared) : Prop :=
  ∃ v H', s'.os = s.os ∧ AllBare s'.gens ∧ Un (frs outer) [] H H' s.heap s'.heap ∧ HOk P w H' s'.heap ∧ RelV v u ∧ Q v H'
def CR (CX : CXT) (outer : List Env) (P : Program) (w : World) (H : Hp) (s : Shared) (Q : VK) (E : XK) (r : Result) (s' : Shared) : Prop :=
  match r with
  | .ok (.ret u) => CE outer P w H s Q u s'
  | .ok _ => False
  | .error e => CX outer H s E e s'
structure FnOk (P : Program) (w : World) (K : PySem.W.Frag) (mg : Str → Option Value) (base : Heap) (CX : CXT) (k : Nat) (f : Addr) (fd : FuncData) (ps : List Str) (sp : Sp) : Prop where
  len : ∀ vs H Q E, sp vs H Q E → vs.length = ps.length
  run : ∀ (A : Around) (outer : List Env) (s : Shared) (H : Hp) (args : Args) (us : List Value) (vs : List V) (Q : VK) (E : XK), Room k A → Env0 P w K mg base A outer s H → BindsTo s fd args (ps.zip us) → Vals vs us → sp vs H Q E →
    codeAny (model P w) A (.call (.ref f) args) (CR CX outer P w H s Q E) s
theorem Env0.make {P : Program} {w : World} {K : PySem.W.Frag} {mg : Str → Option Value} {base : Heap} {A : Around} {outer : List Env} {s : Shared} {H : Hp} (e : Env0 P w K mg base A outer s H) (C : Addr) (us : List Value) (kw : List (Str × Value)) :
    Env0 P w K mg base (A.under (.builtin "type.__call__" ⟨.ref C :: us, kw⟩)) outer s H := ⟨by first | exact e.frames | (simpa [Around.under, Code.envs, Code.isFrame, pushEnvs] using e.frames), e.mod, e.bs, e.bsz, e.funs, e.frf, e.hok, e.bare⟩
theorem Env0.in1 {P : Program} {w : World} {K : PySem.W.Frag} {mg : Str → Option Value} {base : Heap} {A : Around} {outer : List Env} {s : Shared} {H : Hp} (e : Env0 P w K mg base A outer s H) :
    Env0 P w K mg base A.in1 outer s H := ⟨e.frames, e.mod, e.bs, e.bsz, e.funs, e.frf, e.hok, e.bare⟩
section
variable {X : Cx} {pins : List (Addr × Obj)} {σ : St} {H : Hp} {s s' : Shared}
theorem Inv.env0 (I : Inv X pins σ H s) : Env0 X.prog X.w X.K X.mg X.base X.A X.stack s H :=
  ⟨I.ok.frames, I.ok.mod, I.bs, Nat.le_trans I.ok.bsz I.sz, I.stack, I.stkFree, I.hok, I.bare⟩
theorem Inv.after {Q : VK} {u : Value} (I : Inv X pins σ H s) (h : CE X.stack X.prog X.w H s Q u s') : EP X pins σ Q u s' := by
  obtain ⟨v, H', os, bare, un, hok, r, q⟩ := h
  obtain ⟨hh, g, d, t, os'⟩ := s'
  obtain rfl : os' = s.os := os
  exact ⟨v, H', I.call (h' := hh) (g' := g) (d' := d) (t' := t) (ch := []) un hok bare (fun b z => absurd z (by simp)), r, q⟩
end
def tCall (sp : Sp) (dvs : List V) (E : XK) (t : TA) : TE := fun σ H Q => t σ H fun vs H1 => sp (vs ++ dvs) H1 Q E
def tMeth (C : Addr) (m : Str) (sp : Sp) (dvs : List V) (E : XK) (ta : TE) (t : TA) : TE := fun σ H Q => ta σ H fun x H1 => ∃ a dx fs, x = .ref a ∧ H1 a = some (.ins C dx fs) ∧ fs.lookup m = none ∧
  t σ H1 fun vs H2 => sp (x :: (vs ++ dvs)) H2 Q E
def tMake (C : Addr) (sp : Sp) (dvs : List V) (E : XK) (t : TA) : TE := fun σ H Q => t σ H fun vs H1 => ∀ x dx, H1 x = none → H1 dx = none → dx ≠ x →
  sp (.ref x :: (vs ++ dvs)) (upd (upd H1 dx (.own x)) x (.ins C dx [])) (fun v H2 => v = .non ∧ Q (.ref x) H2) E
def Binds (K : PySem.W.Frag) (fd : FuncData) (ps : List Str) (ds : List Value) : Prop :=
  ∀ (s : Shared) (us : List Value), K.In s.heap → (us ++ ds).length = ps.length → BindsTo s fd ⟨us, []⟩ (ps.zip (us ++ ds))
theorem Binds.all {K : PySem.W.Frag} {fd : FuncData} {ps : List Str} (h : ∀ us : List Value, us.length = ps.length → bindArgs fd ⟨us, []⟩ = pure (ps.zip us)) : Binds K fd ps [] := fun s us _ hl => by
  rw [List.append_nil] at hl ⊢
  exact .of_eq (h us hl)
def Passes (CX : CXT) (X : Cx) (E : XK) : Prop := ∀ (pins : List (Addr × Obj)) (σ : St) (H : Hp) (s : Shared) (e : Value) (s' : Shared), Inv X pins σ H s → CX X.stack H s E e s' → X.xe e s'
section
variable {X : Cx} {CX : CXT} {k : Nat} {f C : Addr} {fd : FuncData} {ps : List Str} {sp : Sp} {dvs : List V} {ds : List Value} {E : XK} {x m : Str} {p pos apos : Pos} {e o : Expr} {es : List Expr} {ta : TE} {t : TA}
theorem run_fn {pins : List (Addr × Obj)} {σ : St} {H : Hp} {s : Shared} {Q : VK} {us : List Value} {vs : List V} (F : FnOk X.prog X.w X.K X.mg X.base CX k f fd ps sp) (hr : Room k X.A) (hb : Binds X.K fd ps ds) (hd : Vals dvs ds) (hx : Passes CX X E)
    (I : Inv X pins σ H s) (r : Vals vs us) (h : sp (vs ++ dvs) H Q E) : wpAny (model X.prog X.w) X.A (call (.ref f) us) (EP X pins σ Q) X.xe s := by
  have r2 : Vals (vs ++ dvs) (us ++ ds) := r.append hd
  have hl : (us ++ ds).length = ps.length := by rw [← r2.length]; exact F.len _ _ _ _ h
  refine wpAny_call (codeAny_mono (F.run X.A X.stack s H ⟨us, []⟩ (us ++ ds) (vs ++ dvs) Q E hr I.env0 (hb s us I.kIn hl) r2 h) fun r s' hq => ?_)
  cases r with
  | error e => exact hx pins σ H s e s' I hq
  | ok fl =>
    cases fl with
    | ret u => exact I.after hq
    | next => exact False.elim hq
    | brk => exact False.elim hq
    | cont => exact False.elim hq
theorem pe_call (F : FnOk X.prog X.w X.K X.mg X.base CX k f fd ps sp) (hr : Room k X.A) (hg : Gl X x) (hm : X.mg x = some (.ref f)) (hk : PySem.W.keepIn X.K (.ref f) = true) (hb : Binds X.K fd ps ds) (hd : Vals dvs ds) (hx : Passes CX X E)
    (ha : PA X (e :: es) t) (hdb : (x == ("__debug__" : Str)) = false := by decide) (he : starEach (e :: es) X.env = (false, eval e X.env) :: starEach es X.env := by rfl) (hpl : (backTo pos (starEach es X.env)).any (·.1) = false := by rfl) :
    PE X (.Call (.Name x p) (e :: es) [] pos) (tCall sp dvs E t) := by
  intro pins s σ H Q I h
  refine wpAny_Call_Name_kw (ld_glob I hg hm ?_ hdb)
  refine PySem.W.callWith_K (h₀ := X.base) I.ok.mod.kin hk (thn (ha pos pins s σ H _ I h) fun us s1 ⟨vs, H1, I1, r, q⟩ => ⟨I1.kIn, ?_⟩) he hpl
  exact run_fn F hr hb hd hx I1 r q
theorem pe_meth {pl : Sem Bool} (he : PE X o ta) (c : Cls X.K C) (hm : Meth X.K C m f) (F : FnOk X.prog X.w X.K X.mg X.base CX k f fd ps sp) (hr : Room k X.A) (hb : Binds X.K fd ps ds) (hd : Vals dvs ds) (hx : Passes CX X E) (ha : PA X (e :: es) t)
    (hst : starEach (e :: es) X.env = (false, eval e X.env) :: starEach es X.env := by rfl) (hpl : (backTo pos (starEach es X.env)).any (·.1) = false := by rfl)
    (ht : eval (.Call (.Attribute o m apos) (e :: es) [] pos) X.env = (do
      let ov ← eval o X.env
      standAt apos.atName
      let (f, first) ← holding [ov] (getMethod ov m pl)
      callWith pos f first (backTo pos (starEach (e :: es) X.env)) (backToKw pos (keywordEach [] X.env))) := by rfl) :
    PE X (.Call (.Attribute o m apos) (e :: es) [] pos) (tMeth C m sp dvs E ta t) := by
  intro pins s σ H Q I h
  refine PySem.W.methodCall_KW (pl := pl) (thn (he pins s σ H _ I h) fun u s1 ⟨x, H1, I1, rx, a, dx, fs, ex, ea, l, q⟩ => ?_) ht
  subst ex
  obtain rfl : u = Value.ref a := rx
  refine getmeth_ok I1 ea c hm l ?_
  refine PySem.W.callWith_K (first := [.ref a]) (h₀ := X.base) I.ok.mod.kin hm.kp (thn (ha pos pins s1 σ H1 _ I1 q) fun us s2 ⟨vs, H2, I2, r, q2⟩ => ⟨I2.kIn, ?_⟩) hst hpl
  exact run_fn (us := .ref a :: us) (vs := .ref a :: vs) F hr hb hd hx I2 (.cons rfl r) q2
structure Mk (K : PySem.W.Frag) (C f : Addr) : Prop where
  makes : PySem.W.makesIn K C = true
  init : PySem.W.findIn K (.ref C) "__init__" = some (some (.ref f))
  fn : PySem.W.isFn K (.ref f) = true
  kp : PySem.W.keepIn K (.ref C) = true
theorem run_make {pins : List (Addr × Obj)} {σ : St} {H : Hp} {s : Shared} {Q : VK} {us : List Value} {vs : List V} (M : Mk X.K C f) (F : FnOk X.prog X.w X.K X.mg X.base CX k f fd ps sp) (hr : Room (k + 1) X.A) (hb : Binds X.K fd ps ds) (hd : Vals dvs ds)
    (hx : Passes CX X E) (I : Inv X pins σ H s) (r : Vals vs us)
    (h : ∀ x dx, H x = none → H dx = none → dx ≠ x → sp (.ref x :: (vs ++ dvs)) (upd (upd H dx (.own x)) x (.ins C dx [])) (fun v H2 => v = .non ∧ Q (.ref x) H2) E) :
    wpAny (model X.prog X.w) X.A (call (.ref C) us) (EP X pins σ Q) X.xe s := by
  have hq := h (s.heap.objs.size + 1) s.heap.objs.size (I.hok.fresh (Nat.le_succ _)) (I.hok.fresh (Nat.le_refl _)) (Nat.ne_of_lt (Nat.lt_succ_self _))
  have I2 := Inv.made (C := C) I
  have r2 : Vals (V.ref (s.heap.objs.size + 1) :: (vs ++ dvs)) (Value.ref (s.heap.objs.size + 1) :: (us ++ ds)) := .cons rfl (r.append hd)
  have hl : (Value.ref (s.heap.objs.size + 1) :: us ++ ds).length = ps.length := by
    have e := r2.length
    rw [F.len _ _ _ _ hq] at e
    exact e.symm
  refine wpAny_call (make_map (f := f) I.kIn M.makes M.init (beq_iff_eq.mp M.fn) (codeAny_mono (F.run _ X.stack _ _ ⟨Value.ref (s.heap.objs.size + 1) :: us, []⟩ (Value.ref (s.heap.objs.size + 1) :: (us ++ ds)) _ _ E (hr.make C us [])
    (I2.env0.make C us []) (hb _ (Value.ref (s.heap.objs.size + 1) :: us) I2.kIn hl) r2 hq) fun r s' hq' => ?_))
  cases r with
  | error e => exact hx pins σ _ _ e s' I2 hq'
  | ok fl =>
    cases fl with
    | ret u =>
      obtain ⟨v, H', I3, rv, ev, q3⟩ := I2.after hq'
      subst ev
      exact ⟨rv, ⟨V.ref (s.heap.objs.size + 1), H', I3, rfl, q3⟩⟩
    | next => exact False.elim hq'
    | brk => exact False.elim hq'
    | cont => exact False.elim hq'
theorem pe_make (M : Mk X.K C f) (F : FnOk X.prog X.w X.K X.mg X.base CX k f fd ps sp) (hr : Room (k + 1) X.A) (hg : Gl X x) (hm : X.mg x = some (.ref C)) (hb : Binds X.K fd ps ds) (hd : Vals dvs ds) (hx : Passes CX X E)
    (ha : PA X (e :: es) t) (hdb : (x == ("__debug__" : Str)) = false := by decide) (he : starEach (e :: es) X.env = (false, eval e X.env) :: starEach es X.env := by rfl) (hpl : (backTo pos (starEach es X.env)).any (·.1) = false := by rfl) :
    PE X (.Call (.Name x p) (e :: es) [] pos) (tMake C sp dvs E t) := by
  intro pins s σ H Q I h
  refine wpAny_Call_Name_kw (ld_glob I hg hm ?_ hdb)
  refine PySem.W.callWith_K (h₀ := X.base) I.ok.mod.kin M.kp (thn (ha pos pins s σ H _ I h) fun us s1 ⟨vs, H1, I1, r, q⟩ => ⟨I1.kIn, ?_⟩) he hpl
  exact run_make M F hr hb hd hx I1 r q
end
section
variable {X : Cx} {CX : CXT} {k : Nat} {f C : Addr} {fd : FuncData} {ps ks : List Str} {sp : Sp} {E : XK} {x m : Str} {p pos apos kpos : Pos} {e o : Expr} {es : List Expr} {kws : List Keyword} {te ta : TE} {t tk : TA} {nm : Option Str}
structure KBinds (K : PySem.W.Frag) (fd : FuncData) (ps ks : List Str) (g : List Value → List Value → List Value) (gV : List V → List V → List V) : Prop where
  to : ∀ (s : Shared) (us ws : List Value), K.In s.heap → (g us ws).length = ps.length → BindsTo s fd ⟨us, ks.zip ws⟩ (ps.zip (g us ws))
  rel : ∀ {vs : List V} {us : List Value} {zs : List V} {ws : List Value}, Vals vs us → Vals zs ws → Vals (gV vs zs) (g us ws)
variable {g : List Value → List Value → List Value} {gV : List V → List V → List V}
end
structure FnScope (N P : List Str) (sc : Scope) : Prop where
  kind : sc.kind = .function
  co : sc.isCoroutine = false
  gen : sc.isGenerator = false
  nd : N.Nodup
  pre : N.take P.length = P
  par : ∀ x ∈ P, sc.names.lookup x = some .local ∨ sc.names.lookup x = some .cell
  nofree : ∀ y ∈ sc.names, y.2 ≠ .free
theorem bindL_out {kindOf : Str → Option NameKind} {x : Str} : ∀ {binds : List (Str × Value)} {m : Str → Option Value}, (∀ v, (x, v) ∉ binds) → bindL kindOf binds m x = m x
  | [], _, _ => rfl
  | (n, v) :: r, m, h => by
    unfold bindL
    rw [bindL_out fun w hw => h w (List.mem_cons_of_mem _ hw)]
    split
    · have : x ≠ n := by rintro rfl; exact h v List.mem_cons_self
      simp [this]
    · rfl
theorem bindC_out {kindOf : Str → Option NameKind} {x : Str} : ∀ {binds : List (Str × Value)} {m : Str → Option Value}, (∀ v, (x, v) ∉ binds) → bindC kindOf binds m x = m x
  | [], _, _ => rfl
  | (n, v) :: r, m, h => by
    unfold bindC
    rw [bindC_out fun w hw => h w (List.mem_cons_of_mem _ hw)]
    split
    · rfl
    · have : x ≠ n := by rintro rfl; exact h v List.mem_cons_self
      simp [this]
theorem bindL_get {kindOf : Str → Option NameKind} {x : Str} {v : Value} : ∀ {P : List Str} {vs : List Value} {i : Nat} {m : Str → Option Value}, P.Nodup → P[i]? = some x → vs[i]? = some v → kindOf x = some .local →
    bindL kindOf (P.zip vs) m x = some v
  | [], _, _, _, _, h, _, _ => by simp at h
  | _ :: _, [], _, _, _, _, h, _ => by simp at h
  | p :: P, w :: vs, 0, m, nd, h1, h2, hk => by
    simp at h1 h2; subst h1; subst h2
    show bindL kindOf ((p, w) :: P.zip vs) m p = _
    unfold bindL
    rw [bindL_out fun v hv => (List.nodup_cons.mp nd).1 (List.of_mem_zip hv).1, if_pos hk]
    simp
  | p :: P, w :: vs, i + 1, m, nd, h1, h2, hk => by
    show bindL kindOf ((p, w) :: P.zip vs) m x = _
    unfold bindL
    exact bindL_get (i := i) (List.nodup_cons.mp nd).2 (by simpa using h1) (by simpa using h2) hk
theorem bindC_get {kindOf : Str → Option NameKind} {x : Str} {v : Value} : ∀ {P : List Str} {vs : List Value} {i : Nat} {m : Str → Option Value}, P.Nodup → P[i]? = some x → vs[i]? = some v → kindOf x ≠ some .local →
    bindC kindOf (P.zip vs) m x = some v
  | [], _, _, _, _, h, _, _ => by simp at h
  | _ :: _, [], _, _, _, _, h, _ => by simp at h
  | p :: P, w :: vs, 0, m, nd, h1, h2, hk => by
    simp at h1 h2; subst h1; subst h2
    show bindC kindOf ((p, w) :: P.zip vs) m p = _
    unfold bindC
    rw [bindC_out fun v hv => (List.nodup_cons.mp nd).1 (List.of_mem_zip hv).1, if_neg hk]
    simp
  | p :: P, w :: vs, i + 1, m, nd, h1, h2, hk => by
    show bindC kindOf ((p, w) :: P.zip vs) m x = _
    unfold bindC
    exact bindC_get (i := i) (List.nodup_cons.mp nd).2 (by simpa using h1) (by simpa using h2) hk
def start (N : List Str) (vs : List V) : St := vs.map some ++ List.replicate (N.length - vs.length) none
def cxOf (CX : CXT) (P : Program) (w : World) (K : PySem.W.Frag) (mg : Str → Option Value) (base : Heap) (N : List Str) (qual : Str) (scope : Scope) (f : Addr) (cd : Value) (A : Around) (outer : List Env) (s : Shared) (H : Hp) (E : XK) : Cx where
  prog := P
  w := w
  K := K
  mg := mg
  base := base
  A := A.deeper (envOfC qual scope s.heap.objs.size f cd)
  N := N
  s₀ := s
  H₀ := H
  env := envOfC qual scope s.heap.objs.size f cd
  outer := outer
  stack := envOfC qual scope s.heap.objs.size f cd :: outer
  ex := []
  calm := true
  fn := fun _ => true
  pn := []
  xe := fun e s' => wpAny (model P w) (A.deeper (envOfC qual scope s.heap.objs.size f cd)) (leaving (envOfC qual scope s.heap.objs.size f cd) e) (fun _ s'' => CX outer H s E e s'') (fun e' s'' => CX outer H s E e' s'') s'
theorem cell_has {sc : Scope} {n : Nat} {x : Str} (h : sc.names.lookup x = some .cell) : ∃ c, (cellsFrom n sc.names []).lookup x = some c := by
  have q := PySem.W.cellsFrom_some sc.names n [] (.inl h)
  exact Option.isSome_iff_exists.mp q
theorem inv_start {CX : CXT} {P : Program} {w : World} {K : PySem.W.Frag} {mg : Str → Option Value} {base : Heap} {N ps : List Str} {qual : Str} {scope : Scope} {f : Addr} {cd : Value} {A : Around} {outer : List Env} {s s1 : Shared} {H : Hp} {E : XK} {us : List Value} {vs : List V}
    (S : FnScope N ps scope) (hd : A.handled = none) (e0 : Env0 P w K mg base A outer s H) (hl : vs.length = ps.length) (r : Vals vs us)
    (x : InCallC s s.heap.objs.size (bindL (envOfC qual scope s.heap.objs.size f cd).kindOf (ps.zip us) fun _ => none) (cellsFrom (s.heap.objs.size + 1) scope.names []) (bindC (envOfC qual scope s.heap.objs.size f cd).kindOf (ps.zip us) fun _ => none) s1) :
    Inv (cxOf CX P w K mg base N qual scope f cd A outer s H E) [] (start N vs) H s1 := by
  have hpl : ps.length ≤ N.length := by have := congrArg List.length S.pre; rw [List.length_take] at this; omega
  obtain ⟨h1, tk, rfl, hk⟩ := x.done
  have noA : ∀ b : Addr, b ∉ (cxOf CX P w K mg base N qual scope f cd A outer s H E).ex := fun b z => absurd (show b ∈ ([] : List Addr) from z) (by simp)
  refine ⟨⟨e0.mod, S.kind, rfl, rfl, Nat.le_refl _, fun y z c h1 h2 => ?_, fun y hy => ?_, fun y c _ h => ?_, fun _ => hd, Around.frames_deeper e0.frames, .inr ⟨rfl, rfl⟩, fun b z => absurd z (noA b), e0.bs, e0.bsz, fun b _ _ => noA b, fun b z => absurd z (noA b), e0.funs, e0.frf⟩,
    rfl, e0.bare, Un.kept hk, ⟨_, x.toInCall.ns, fun i y v h1 h2 h3 => ?_⟩, fun y c h => ⟨_, x.cell y c h⟩, e0.hok.fresh (Nat.le_refl _), fun y c h => ?_, fun p hp => absurd (show p ∈ ([] : List (Addr × Obj)) from hp) (by simp), e0.hok.kept hk, ?_⟩
  · exact name_of_addr x.apart (PySem.mem_of_lookup h1) (PySem.mem_of_lookup h2)
  · have hy : scope.names.lookup y = some .cell ∨ scope.names.lookup y = some .free := hy
    rcases hy with hy | hy
    · exact cell_has hy
    · exact absurd rfl (S.nofree _ (PySem.mem_of_lookup hy))
  · exact Nat.le_of_lt (x.above y c (PySem.mem_of_lookup h))
  · have hi : i < vs.length := by
      unfold start at h2
      by_cases hi : i < vs.length
      · exact hi
      · rw [List.getElem?_append_right (by simpa using hi)] at h2
        rw [List.getElem?_replicate] at h2
        split at h2 <;> cases h2
    have ha : vs[i]? = some v := by
      unfold start at h2
      rw [List.getElem?_append_left (by simpa using hi), List.getElem?_map] at h2
      cases e : vs[i]? with
      | none => rw [e] at h2; cases h2
      | some a => rw [e] at h2; cases h2; rfl
    obtain ⟨u, hu, rv⟩ := r.get ha
    have hp : ps[i]? = some y := by
      rw [← S.pre, List.getElem?_take_of_lt (by omega)]; exact h1
    have ndP : ps.Nodup := by rw [← S.pre]; exact S.nd.sublist (List.take_sublist _ _)
    refine ⟨u, rv, ?_⟩
    rcases S.par y (List.mem_of_getElem? hp) with k | k
    · exact .inl ⟨k, bindL_get ndP hp hu k⟩
    · obtain ⟨c, e⟩ := cell_has (n := s.heap.objs.size + 1) k
      refine .inr ⟨.inl k, c, e, ?_⟩
      have q := x.cell y c e
      rw [bindC_get ndP hp hu (by show scope.names.lookup y ≠ _; rw [k]; decide)] at q
      exact q
  · exact e0.hok.fresh (Nat.le_of_lt (x.above y c (PySem.mem_of_lookup h)))
  · unfold start
    show _ = N.length
    rw [List.length_append, List.length_map, List.length_replicate]
    omega
theorem fn_of {CX : CXT} {P : Program} {w : World} {K : PySem.W.Frag} {mg : Str → Option Value} {base : Heap} {k : Nat} {f : Addr} {name qual : Str} {params : Arguments} {body : List Stmt} {scope : Scope} {dV kV doc pm cdv ct oc : Value} {an od : Option Addr}
    {osl : Array (Option Value)} {N ps : List Str} {sp : Sp} (lk : K.lookup f = some ⟨oc, od, .func (PySem.W.fnOf name qual params body scope dV kV doc pm an cdv ct), osl⟩) (hcd : PySem.W.codeIn K cdv qual = true) (S : FnScope N ps scope)
    (len : ∀ vs H Q E, sp vs H Q E → vs.length = ps.length)
    (hbody : ∀ (A : Around) (outer : List Env) (s : Shared) (H : Hp) (vs : List V) (Q : VK) (E : XK), Room k (A.deeper (envOfC qual scope s.heap.objs.size f cdv)) → sp vs H Q E →
      ∃ t, PSs (cxOf CX P w K mg base N qual scope f cdv A outer s H E) body t ∧ t { nx := fun _ H' => Q .non H', rt := Q } (start N vs) H) :
    FnOk P w K mg base CX (k + 1) f (PySem.W.fnOf name qual params body scope dV kV doc pm an cdv ct) ps sp := by
  refine ⟨len, fun A outer s H args us vs Q E hr e0 hb r hsp => ?_⟩
  have hl := len _ _ _ _ hsp
  have KX : K.In s.heap := e0.mod.kin.keeps fun b o e => (e0.bs b o e).1
  have lim : s.heap.NoLimit := e0.mod.nolimit.keeps fun b o e => (e0.bs b o e).1
  have hkind : ∀ y ∈ ps.zip us, scope.names.lookup y.1 = some .local ∨ (scope.names.lookup y.1 = some .cell ∧ ((cellsFrom (s.heap.objs.size + 1) scope.names []).lookup y.1).isSome = true) := fun ⟨n, v⟩ hy => by
    rcases S.par n (List.of_mem_zip hy).1 with q | q
    · exact .inl q
    · exact .inr ⟨q, PySem.W.cellsFrom_some _ _ _ (.inl q)⟩
  refine codeAny_call_function hr.depth (KX _ _ lk) rfl S.co S.gen rfl (PySem.W.codeRec_of KX hcd) (hb _ _ _ _ ?_)
  refine wpAny_newFunctionEnv_cells S.kind hkind fun env he s1 x => ?_
  subst he
  refine ⟨lim.keeps x.toInCall.keep, codeAny_func ?_⟩
  obtain ⟨t, ht, hq⟩ := hbody A outer s H vs Q E (hr.deeper _) hsp
  have I : Inv (cxOf CX P w K mg base N qual scope f cdv A outer s H E) [] (start N vs) H s1 := inv_start S hr.hd e0 hl r x
  refine wpAny_mono (ht [] s1 (start N vs) H _ I hq) (fun fl s' hs => ?_) fun e s' hs => hs
  have fin : ∀ {σ' : St} {H' : Hp} {v : V} {u : Value}, Inv (cxOf CX P w K mg base N qual scope f cdv A outer s H E) [] σ' H' s' → RelV v u → Q v H' → CE outer P w H s Q u s' :=
    fun {σ' H' v u} J rv q => ⟨v, H', J.os, J.bare, J.base, J.hok, rv, q⟩
  cases fl with
  | ret u =>
    obtain ⟨v, σ', H', J, rv, q⟩ := hs
    exact fin J rv q
  | next =>
    obtain ⟨σ', H', J, q⟩ := hs
    exact fin (v := V.non) (u := Value.none) J rfl q
  | brk =>
    obtain ⟨_, _, _, q⟩ := hs
    exact False.elim q
  | cont =>
    obtain ⟨_, _, _, q⟩ := hs
    exact False.elim q
end L2
namespace L2
open PySem PySem.Spec PyProof.Rows
section
variable {X : Cx} {x : Str} {p pos : Pos} {e : Expr} {es : List Expr} {t : TA} {id T : String} {r : List V → Hp → VK → Prop}
def tCB (r : List V → Hp → VK → Prop) (t : TA) : TE := fun σ H Q => t σ H fun vs H1 => r vs H1 Q
theorem pe_callB (hc : CallR X (.builtin id) r) (hg : Gl X x) (hm : X.mg x = none) (hv : bootBuiltins x = some (.builtin id)) (ha : PA X (e :: es) t) (hn : x ≠ "__name__" := by decide) (hdb : (x == ("__debug__" : Str)) = false := by decide)
    (he : starEach (e :: es) X.env = (false, eval e X.env) :: starEach es X.env := by rfl) (hpl : (backTo pos (starEach es X.env)).any (·.1) = false := by rfl) : PE X (.Call (.Name x p) (e :: es) [] pos) (tCB r t) := by
  intro pins s σ H Q I h
  refine wpAny_Call_Name_kw (ld_blt I hg hm hv ?_ hn hdb)
  exact PyProof.Rows.callWith_builtin1 (thn (ha pos pins s σ H _ I h) fun us s1 ⟨vs, H1, I1, r1, q1⟩ => hc pins s1 σ H1 vs us Q I1 r1 q1) he hpl
theorem pe_callTy (hc : CallR X (.type T) r) (hg : Gl X x) (hm : X.mg x = none) (hv : bootBuiltins x = some (.type T)) (ha : PA X (e :: es) t) (hn : x ≠ "__name__" := by decide) (hdb : (x == ("__debug__" : Str)) = false := by decide)
    (he : starEach (e :: es) X.env = (false, eval e X.env) :: starEach es X.env := by rfl) (hpl : (backTo pos (starEach es X.env)).any (·.1) = false := by rfl) : PE X (.Call (.Name x p) (e :: es) [] pos) (tCB r t) := by
  intro pins s σ H Q I h
  refine wpAny_Call_Name_kw (ld_blt I hg hm hv ?_ hn hdb)
  exact PyProof.Rows.callWith_type1 (thn (ha pos pins s σ H _ I h) fun us s1 ⟨vs, H1, I1, r1, q1⟩ => hc pins s1 σ H1 vs us Q I1 r1 q1) he hpl
end
end L2
namespace HT
open PySem PyProof.Rows
section
open PySem.SeqAt
open PySem.AutoSeq1 (wpAny_loadPart')
open PySem.MeetsSeq PySem.MeetsSeq2 PySem.MeetsSeq3
end
section
variable {prog : Program} {w : World} {A : Around} {E : Value → Shared → Prop} {s : Shared}
def sIx (n d : Nat) : Option Int → Nat
  | none => d
  | some v => if v < 0 then (v + (n : Int)).toNat else min v.toNat n
theorem sIx_none (n d : Nat) : sIx n d none = d := rfl
theorem sIx_nat (n d k : Nat) : sIx n d (some (k : Int)) = min k n := by
  show (if (k : Int) < 0 then ((k : Int) + (n : Int)).toNat else min (k : Int).toNat n) = min k n
  rw [if_neg (by omega), Int.toNat_natCast]
theorem sIx_le (n d : Nat) (hd : d ≤ n) (o : Option Int) : sIx n d o ≤ n := by
  cases o with
  | none => exact hd
  | some v =>
    show (if v < 0 then (v + (n : Int)).toNat else min v.toNat n) ≤ n
    by_cases hv : v < 0
    · rw [if_pos hv]; omega
    · rw [if_neg hv]; exact Nat.min_le_right _ _
theorem clip_eq (v : Int) (n d : Nat) : (if v < 0 then max (v + (n : Int)) 0 else min v (n : Int)) = ((sIx n d (some v) : Nat) : Int) := by
  show (if v < 0 then max (v + (n : Int)) 0 else min v (n : Int)) = (((if v < 0 then (v + (n : Int)).toNat else min v.toNat n) : Nat) : Int)
  by_cases hv : v < 0
  · simp only [if_pos hv]; omega
  · simp only [if_neg hv]; omega
theorem adjust_gen (lo hi : Option Int) (n : Nat) : Builtin.Slice.sliceAdjust lo hi 1 (n : Int) = (((sIx n 0 lo : Nat) : Int), ((sIx n n hi : Nat) : Int)) := by
  have h1 : ¬ ((1 : Int) < 0) := by omega
  unfold Builtin.Slice.sliceAdjust
  simp only [h1, if_false]
  refine Prod.ext ?_ ?_
  · cases lo with
    | none => rfl
    | some v => exact clip_eq v n 0
  · cases hi with
    | none => rfl
    | some v => exact clip_eq v n n
theorem places_gen (i j : Nat) : Builtin.Slice.slicePlaces (i : Int) (j : Int) 1 = j - i := by
  unfold Builtin.Slice.slicePlaces
  have h1 : (1 : Int) > 0 := by omega
  simp only [h1, if_true, Int.ediv_one]
  split <;> omega
theorem slicePart_ {v : Value} {o : Option Int} {Q : Option Int → Shared → Prop} (p : IsPart v o) (h : Q o s) : wpAny (model prog w) A (Builtin.Slice.slicePartIndex v) Q E s := by
  cases p with
  | none => exact slicePart_none h
  | int i t => exact slicePart_int h
theorem sliceApplied_gen {sl : Addr} {vl vu : Value} {lo hi : Option Int} {n : Nat} {Q : Int × Int × Nat → Shared → Prop} (hs : s.heap.IsSliceOf sl vl vu .none) (pl : IsPart vl lo) (pu : IsPart vu hi)
    (h : Q (((sIx n 0 lo : Nat) : Int), 1, sIx n n hi - sIx n 0 lo) s) : wpAny (model prog w) A (Builtin.Slice.sliceApplied (.ref sl) (pure (n : Int))) Q E s := by
  obtain ⟨os, hos, hcs, hds⟩ := id hs
  unfold Builtin.Slice.sliceApplied Builtin.Slice.sliceFields
  refine wpAny_bind (wpAny_bind (wpAny_field hos hds (x := vl) rfl (wpAny_bind (wpAny_field hos hds (x := vu) rfl (wpAny_bind (wpAny_field hos hds (x := .none) rfl (wpAny_pure ?_)))))))
  refine wpAny_bind (slicePart_none ?_)
  show wpAny _ _ (if ((1 : Int) == 0) = true then _ else _) _ _ s
  rw [if_neg (by decide)]
  refine wpAny_bind (slicePart_ pl (wpAny_bind (slicePart_ pu (wpAny_bind (wpAny_pure ?_)))))
  show wpAny _ _ (match Builtin.Slice.sliceAdjust lo hi 1 (n : Int) with | (lo, hi) => pure (lo, (1 : Int), Builtin.Slice.slicePlaces lo hi 1)) _ _ s
  rw [adjust_gen lo hi n]
  show wpAny _ _ (pure (((sIx n 0 lo : Nat) : Int), (1 : Int), Builtin.Slice.slicePlaces ((sIx n 0 lo : Nat) : Int) ((sIx n n hi : Nat) : Int) 1)) _ _ s
  rw [places_gen]
  exact wpAny_pure h
theorem pick_gen (xs : Array Value) (i k : Nat) : ((List.range k).filterMap fun (m : Nat) => xs[((i : Int) + (m : Int) * 1).toNat]?).toArray = ((xs.toList.drop i).take k).toArray := by
  have e : (fun (m : Nat) => xs[((i : Int) + (m : Int) * 1).toNat]?) = fun m => xs[i + m]? := by
    funext m
    have : ((i : Int) + (m : Int) * 1).toNat = i + m := by omega
    rw [this]
  rw [e]
  have := pick_run xs i k
  rw [List.filterMap_map] at this
  have e2 : ((fun x => xs[x]?) ∘ fun x => i + x) = fun m => xs[i + m]? := rfl
  rw [e2] at this
  rw [this]
theorem getItem_tuple_cut {t sl : Addr} {items : Array Value} {vl vu : Value} {lo hi : Option Int} {Q : Value → Shared → Prop} (ht : IsTup s.heap t items) (hs : s.heap.IsSliceOf sl vl vu .none) (pl : IsPart vl lo) (pu : IsPart vu hi)
    (hw : ¬ (sIx items.size 0 lo = 0 ∧ sIx items.size items.size hi = items.size))
    (h : Q (.ref s.heap.objs.size) { s with heap := s.heap.push { cls := .type "tuple", data := .seq ((items.toList.drop (sIx items.size 0 lo)).take (sIx items.size items.size hi - sIx items.size 0 lo)).toArray } })
    (hsz : items.size ≤ sizeLine) : wpAny (model prog w) A (getItem (.ref t) (.ref sl)) Q E s := by
  have htake : sizeOk (.seq ((items.toList.drop (sIx items.size 0 lo)).take (sIx items.size items.size hi - sIx items.size 0 lo)).toArray) := by
    show ((items.toList.drop (sIx items.size 0 lo)).take (sIx items.size items.size hi - sIx items.size 0 lo)).toArray.size ≤ sizeLine
    rw [List.size_toArray, List.length_take, List.length_drop, Array.length_toList]
    omega
  have hj : sIx items.size items.size hi ≤ items.size := sIx_le _ _ (Nat.le_refl _) hi
  obtain ⟨os, hos, hcs, hds⟩ := id hs
  have hTs : s.TypeIs (.ref sl) "slice" := ⟨os, hos, hcs⟩
  unfold getItem
  try with_reducible refine wpAny_holding ?_
  first | refine wpAny_bind (wpAny_pure ?_) | skip
  refine wpAny_bind (wpAny_sequenceKey ht.typeIs (by decide) ?_)
  refine wpAny_bind (wpAny_callSpecial?_slot (name := Str.ofString "__getitem__") ht.typeIs PyProof.Rows.slot_tuple_getitem
    (wpAny_call_entry PyProof.Rows.slot_tuple_getitem ht.typeIs entry_tuple_getitem ?_ (args_tuple_getitem _ _)))
  show wpAny _ _ (Builtin.Tuple.tupleItemsOf (.ref t) >>= _) _ _ s
  refine wpAny_bind (tupleItemsOf_ ht ?_)
  refine wpAny_bind (wpAny_typeOf hTs ?_)
  rw [if_pos (by decide)]
  refine wpAny_bind (sliceApplied_gen hs pl pu ?_)
  have hno : ¬ ((((sIx items.size 0 lo : Nat) : Int) == 0 && (1 : Int) == 1 && (sIx items.size items.size hi - sIx items.size 0 lo) == items.size) = true) := by
    intro q
    rw [Bool.and_eq_true, Bool.and_eq_true] at q
    have q1 : ((sIx items.size 0 lo : Nat) : Int) = 0 := eq_of_beq q.1.1
    have q2 : sIx items.size items.size hi - sIx items.size 0 lo = items.size := eq_of_beq q.2
    exact hw ⟨by omega, by omega⟩
  show wpAny _ _ (if (((sIx items.size 0 lo : Nat) : Int) == 0 && (1 : Int) == 1 && (sIx items.size items.size hi - sIx items.size 0 lo) == items.size) = true then _ else _) _ _ s
  rw [if_neg hno, pick_gen]
  first
    | exact wpAny_bind (m := Builtin.Tuple.tupleExact _) (wpAny_newObj_type (wpAny_pure ⟨_, rfl, wpAny_pure h⟩) htake)
    | exact wpAny_bind (m := Builtin.Tuple.tupleExact _) (wpAny_newObj_type (wpAny_bind (wpAny_pure (wpAny_pure ⟨_, rfl, wpAny_pure h⟩))) htake)
    | exact wpAny_bind (wpAny_bind (m := Builtin.Tuple.tupleExact _) (wpAny_newObj_type (wpAny_pure (wpAny_pure ⟨_, rfl, wpAny_pure h⟩)) htake))
    | exact wpAny_bind (wpAny_bind (m := Builtin.Tuple.tupleExact _) (wpAny_newObj_type (wpAny_pure ⟨_, rfl, wpAny_pure h⟩) htake))
end
end HT
namespace L2
open PySem PySem.Spec PyProof.Rows
abbrev TO := St → Hp → (Option Int → Hp → Prop) → Prop
def PO (X : Cx) (e : Option Expr) (t : TO) : Prop :=
  ∀ (pins : List (Addr × Obj)) (s : Shared) (σ : St) (H : Hp) (Q : Option Int → Hp → Prop), Inv X pins σ H s → t σ H Q →
    wpAny (model X.prog X.w) X.A (evalPart e X.env) (fun u s' => ∃ o H', Inv X pins σ H' s' ∧ IsPart u o ∧ Q o H') X.xe s
def tNoPart : TO := fun _ H Q => Q none H
def tPart (t : TE) : TO := fun σ H Q => t σ H fun x H1 => ∃ i, x = .int i ∧ Q (some i) H1
section
variable {X : Cx} {e : Expr} {te : TE} {lo hi : Option Expr} {tl th : TO} {pos p2 : Pos}
theorem po_none : PO X none tNoPart := by
  intro pins s σ H Q I h
  rw [evalPart_none]
  exact wpAny_pure ⟨none, H, I, .none, h⟩
theorem po_some (h : PE X e te) : PO X (some e) (tPart te) := by
  intro pins s σ H Q I hw
  rw [evalPart_some]
  refine thn (h pins s σ H _ I hw) fun u s1 ⟨x, H1, I1, r1, q1⟩ => ?_
  obtain ⟨i, rfl, q⟩ := q1
  obtain ⟨t, rfl⟩ := r1
  exact ⟨some i, H1, I1, .int i t, q⟩
def SlR (X : Cx) (r : V → Option Int → Option Int → Hp → VK → Prop) : Prop :=
  ∀ (pins : List (Addr × Obj)) (s : Shared) (σ : St) (H : Hp) (x : V) (v vl vu : Value) (lo hi : Option Int) (sl : Addr) (Q : VK), Inv X pins σ H s → RelV x v → s.heap.IsSliceOf sl vl vu .none → IsPart vl lo → IsPart vu hi → r x lo hi H Q →
    ∃ T id, typeLookup (.type T) "__getitem__" = pure (some (.builtin id)) ∧ s.TypeIs v T ∧ wpAny (model X.prog X.w) X.A (getItem v (.ref sl)) (EP X pins σ Q) X.xe s
def tSl (r : V → Option Int → Option Int → Hp → VK → Prop) (te : TE) (tl th : TO) : TE := fun σ H Q => te σ H fun x H1 => tl σ H1 fun l H2 => th σ H2 fun u H3 => r x l u H3 Q
theorem pe_slice {r : V → Option Int → Option Int → Hp → VK → Prop} (hr : SlR X r) (he : PE X e te) (hl : PO X lo tl) (hu : PO X hi th) : PE X (.Subscript e (.Slice lo hi none p2) pos) (tSl r te tl th) := by
  intro pins s σ H Q I h
  refine Subscript_ (thn (he pins s σ H _ I h) fun v s1 ⟨x, H1, I1, r1, q1⟩ => ?_)
  refine wpAny_Slice (thn (hl pins s1 σ H1 _ I1 q1) fun vl s2 ⟨l, H2, I2, pl, q2⟩ => thn (hu pins s2 σ H2 _ I2 q2) fun vu s3 ⟨u, H3, I3, pu, q3⟩ => ?_)
  rw [evalPart_none]
  refine wpAny_pure ?_
  have I4 : Inv X pins σ H3 { s3 with heap := s3.heap.push { cls := .type "slice", data := .fields #[vl, vu, .none] } } := I3.kept (t' := s3.toks) fun b ob q => Heap.get?_push_of_some _ q
  obtain ⟨T, id, hT, ht, hg⟩ := hr pins { s3 with heap := s3.heap.push { cls := .type "slice", data := .fields #[vl, vu, .none] } } σ H3 x v vl vu l u s3.heap.objs.size Q I4 r1 (Heap.IsSliceOf.new ..) pl pu q3
  show wpAny (model X.prog X.w) X.A (subscriptTail e (.Slice lo hi none p2) v (.ref s3.heap.objs.size)) (EP X pins σ Q) X.xe { s3 with heap := s3.heap.push { cls := .type "slice", data := .fields #[vl, vu, .none] } }
  exact tail_any (ops := [.ref s3.heap.objs.size, v]) ht hT hg (by with_unfolding_all rfl)
def cutV (xs : List V) (lo hi : Option Int) : List V := (xs.drop (HT.sIx xs.length 0 lo)).take (HT.sIx xs.length xs.length hi - HT.sIx xs.length 0 lo)
theorem cutV_length (xs : List V) (lo hi : Option Int) : (cutV xs lo hi).length ≤ xs.length := by
  unfold cutV
  rw [List.length_take, List.length_drop]
  omega
def rSlT (K : PySem.W.Frag) : V → Option Int → Option Int → Hp → VK → Prop := fun x lo hi H Q => ∃ a xs, x = .ref a ∧ SqT K H a xs ∧
  ¬ (HT.sIx xs.length 0 lo = 0 ∧ HT.sIx xs.length xs.length hi = xs.length) ∧ ∀ p, H p = none → Q (.ref p) (upd H p (.tup (cutV xs lo hi)))
theorem sl_tup : SlR X (rSlT X.K) := by
  intro pins s σ H x v vl vu lo hi sl Q I rx hs pl pu h
  obtain ⟨a, xs, rfl, hx, hw, q⟩ := h
  cases rx
  obtain ⟨its, r, ht, hz⟩ := I.tuple hx
  have hlen : its.toArray.size = xs.length := by rw [List.size_toArray]; exact r.length.symm
  refine ⟨"tuple", _, PyProof.Rows.slot_tuple_getitem.lookup, ht.typeIs, ?_⟩
  refine HT.getItem_tuple_cut ht hs pl pu (by rw [hlen]; exact hw) ?_ (by rw [hlen]; exact hz)
  rw [hlen]
  refine ⟨.ref s.heap.objs.size, _, I.laid (t' := s.toks) (o := .tup (cutV xs lo hi)) (fun b ob q => Heap.get?_push_of_some _ q) (Nat.le_refl _) ?_, rfl, q _ (I.hok.fresh (Nat.le_refl _))⟩
  exact ⟨Nat.le_trans (cutV_length xs lo hi) hz, _, (r.drop (HT.sIx xs.length 0 lo)).take (HT.sIx xs.length xs.length hi - HT.sIx xs.length 0 lo), IsTup.new _ _⟩
end
end L2
namespace L2
open PySem PySem.Spec PyProof.Rows
def ixN (n : Nat) (i : Int) : Option Nat := if 0 ≤ i then (if i < n then some i.toNat else none) else if -(n : Int) ≤ i then some (i + n).toNat else none
def atI {α : Type} (xs : List α) (i : Int) : Option α := (ixN xs.length i).bind fun j => xs[j]?
theorem ixN_seq {n : Nat} {i : Int} {j : Nat} (h : ixN n i = some j) : seqIndex? i n = some j ∧ j < n ∧ -(n : Int) ≤ i ∧ i < n := by
  unfold ixN at h
  by_cases h0 : 0 ≤ i
  · rw [if_pos h0] at h
    by_cases h1 : i < n
    · rw [if_pos h1] at h
      have e : i.toNat = j := Option.some.inj h
      exact ⟨by rw [seqIndex_of h0 h1, e], by omega, by omega, h1⟩
    · rw [if_neg h1] at h; cases h
  · rw [if_neg h0] at h
    by_cases h1 : -(n : Int) ≤ i
    · rw [if_pos h1] at h
      have e : (i + n).toNat = j := Option.some.inj h
      exact ⟨by rw [seqIndex_neg (by omega) h1, e], by omega, h1, by omega⟩
    · rw [if_neg h1] at h; cases h
theorem atI_get {α : Type} {xs : List α} {i : Int} {v : α} (h : atI xs i = some v) : ∃ j, seqIndex? i xs.length = some j ∧ xs[j]? = some v ∧ j < xs.length ∧ -(xs.length : Int) ≤ i ∧ i < xs.length := by
  unfold atI at h
  cases e : ixN xs.length i with
  | none => rw [e] at h; cases h
  | some j =>
    rw [e] at h
    obtain ⟨h1, h2, h3, h4⟩ := ixN_seq e
    exact ⟨j, h1, h, h2, h3, h4⟩
theorem atI_nat {α : Type} {xs : List α} {j : Nat} {v : α} (h : xs[j]? = some v) : atI xs (j : Int) = some v := by
  have hj : j < xs.length := (List.getElem?_eq_some_iff.mp h).1
  have e : ixN xs.length (j : Int) = some j := by
    unfold ixN
    rw [if_pos (by omega), if_pos (by omega)]; simp
  unfold atI; rw [e]; exact h
theorem atI_last {α : Type} (xs : List α) (v : α) : atI (xs ++ [v]) (-1) = some v := by
  have hl : (xs ++ [v]).length = xs.length + 1 := by simp
  have e : ixN (xs ++ [v]).length (-1) = some xs.length := by
    unfold ixN
    rw [hl, if_neg (by decide), if_pos (by omega)]
    congr 1
    omega
  unfold atI
  rw [e]
  show (xs ++ [v])[xs.length]? = some v
  simp
def PlainIx (b : Expr) : Prop := ∀ o i, subscripted b false o i = operate [o, i] (getItem o i)
def IxR (X : Cx) (r : R2) : Prop :=
  ∀ (value slice : Expr) (pins : List (Addr × Obj)) (s : Shared) (σ : St) (H : Hp) (x y : V) (v u : Value) (Q : VK), Inv X pins σ H s → RelV x v → RelV y u → r x y H Q →
    subscripted slice false v u = operate [v, u] (getItem v u) → wpAny (model X.prog X.w) X.A (subscriptTail value slice v u) (EP X pins σ Q) X.xe s
def MtR (X : Cx) (id : String) (r : V → List V → Hp → VK → Prop) : Prop :=
  ∀ (pins : List (Addr × Obj)) (s : Shared) (σ : St) (H : Hp) (x : V) (xs : List V) (v : Value) (us : List Value) (Q : VK), Inv X pins σ H s → RelV x v → Vals xs us → r x xs H Q →
    wpAny (model X.prog X.w) X.A (call (.builtin id) (v :: us)) (EP X pins σ Q) X.xe s
section
variable {X : Cx} {a b : Expr} {ta tb : TE} {pos : Pos}
theorem pe_ix {r : R2} (hr : IxR X r) (ha : PE X a ta) (hb : PE X b tb) (hs : PlainIx b) : PE X (.Subscript a b pos) (tOp r ta tb) := by
  intro pins s σ H Q I h
  exact Subscript_ (binT ha hb I h fun v u s2 x y H2 I2 rx ry q => hr a b pins s2 σ H2 x y v u Q I2 rx ry q (hs _ _))
def rIxL (K : PySem.W.Frag) : R2 := fun x y H Q => ∃ p xs i v, x = .ref p ∧ y = .int i ∧ SqL K H p xs ∧ atI xs i = some v ∧ Q v H
def rIxT (K : PySem.W.Frag) : R2 := fun x y H Q => ∃ p xs i v, x = .ref p ∧ y = .int i ∧ SqT K H p xs ∧ atI xs i = some v ∧ Q v H
def rIxS : R2 := fun x y H Q => ∃ z i c, x = .str z ∧ y = .int i ∧ z.length ≤ sizeLine ∧ atI z.cps.toList i = some c ∧ Q (.str ⟨#[c]⟩) H
theorem ix_list : IxR X (rIxL X.K) := by
  intro value slice pins s σ H x y v u Q I rx ry h hs
  obtain ⟨p, xs, i, z, rfl, rfl, hq, he, q⟩ := h
  cases rx
  obtain ⟨t, rfl⟩ := ry
  obtain ⟨its, r, pl, hz⟩ := I.list hq
  obtain ⟨j, h1, h2, h3, h4, h5⟩ := atI_get he
  obtain ⟨w, ew, rw'⟩ := r.get h2
  have hl := r.length
  have hn := line63
  have fin : EP X pins σ Q w s := ⟨z, H, I, rw', q⟩
  by_cases h0 : 0 ≤ i
  · have hj : i.toNat = j := by
      rw [seqIndex_of h0 h5] at h1
      exact Option.some.inj h1
    exact item_listR pl.isList h0 (by omega) (by rw [hj]; simpa using ew) fin hs
  · have hj : (i + (its.toArray.size : Int)).toNat = j := by
      rw [seqIndex_neg (by omega) h4] at h1
      rw [List.size_toArray, ← hl]
      exact Option.some.inj h1
    exact subscriptTail_builtinR (x := w) pl.isList.typeIs slot_list_getitem.lookup
      (wpAny_getItem_list_neg (Q := fun r s' => r = w ∧ EP X pins σ Q r s') pl.isList (by omega) (by rw [List.size_toArray] <;> omega) (by omega) (by rw [hj]; simpa using ew) ⟨rfl, fin⟩) hs
theorem ix_tup : IxR X (rIxT X.K) := by
  intro value slice pins s σ H x y v u Q I rx ry h hs
  obtain ⟨p, xs, i, z, rfl, rfl, hq, he, q⟩ := h
  cases rx
  obtain ⟨t, rfl⟩ := ry
  obtain ⟨its, r, pl, hz⟩ := I.tuple hq
  obtain ⟨j, h1, h2, h3, h4, h5⟩ := atI_get he
  obtain ⟨w, ew, rw'⟩ := r.get h2
  have hl := r.length
  have hn := line63
  have fin : EP X pins σ Q w s := ⟨z, H, I, rw', q⟩
  exact subscriptTail_builtinR (x := w) pl.typeIs slot_tuple_getitem.lookup
    (getItem_tuple (j := j) (Q := fun r s' => r = w ∧ EP X pins σ Q r s') pl (by omega) (by omega) (by rw [List.size_toArray, ← hl]; exact h1) (by simpa using ew) ⟨rfl, fin⟩) hs
theorem ix_str : IxR X rIxS := by
  intro value slice pins s σ H x y v u Q I rx ry h hs
  obtain ⟨z, i, c, rfl, rfl, hz, he, q⟩ := h
  obtain ⟨t, rfl⟩ := rx
  obtain ⟨t', rfl⟩ := ry
  obtain ⟨j, h1, h2, h3, h4, h5⟩ := atI_get he
  have hl : z.cps.toList.length = z.length := by simp [Str.length]
  rw [hl] at h1 h4 h5
  have hn := line63
  exact tail_any (typeIs_str s z t) slot_str_getitem.lookup (getItem_str (c := c) (by
    have e1 : decide (i < -(2 ^ 63 : Int)) = false := decide_eq_false (by omega)
    have e2 : decide (i ≥ 2 ^ 63) = false := decide_eq_false (by omega)
    rw [e1, e2, Bool.or_false]) (by rw [h1]; simpa using h2) ⟨.str ⟨#[c]⟩, H, I.tok _, ⟨_, rfl⟩, q⟩) hs
theorem mapSeq_set (its : List Value) (n j : Nat) (u : Value) : Obj.mapSeq (·.setIfInBounds j u) { cls := .type "list", data := .seq its.toArray n } = { cls := .type "list", data := .seq (its.set j u).toArray n } := by
  simp [Obj.mapSeq]
theorem Inv.lst {pins : List (Addr × Obj)} {σ : St} {H : Hp} {s : Shared} {p : Addr} {xs : List V} (I : Inv X pins σ H s) (h : H p = some (.lst xs)) :
    ∃ (its : List Value) (n : Nat), Vals xs its ∧ s.heap.get? p = some { cls := .type "list", data := .seq its.toArray n } ∧ xs.length ≤ sizeLine := by
  obtain ⟨z, its, n, r, e⟩ := I.hok p _ h
  exact ⟨its, n, r, e, z⟩
theorem Inv.lstUpd {pins : List (Addr × Obj)} {σ : St} {H : Hp} {s : Shared} {p : Addr} {xs ys : List V} {its its' : List Value} {n n' : Nat} {f : Obj → Obj} (I : Inv X pins σ H s) (h : H p = some (.lst xs))
    (ho : s.heap.get? p = some { cls := .type "list", data := .seq its.toArray n }) (hf : f { cls := .type "list", data := .seq its.toArray n } = { cls := .type "list", data := .seq its'.toArray n' }) (r : Vals ys its') (hz : ys.length ≤ sizeLine) (t : Nat) :
    Inv X pins σ (upd H p (.lst ys)) { s with heap := s.heap.update p f, toks := t } := by
  have e : (s.heap.update p f).get? p = some { cls := .type "list", data := .seq its'.toArray n' } := by
    rw [Heap.get?_update_self f ho (by rw [hf] <;> rfl), hf]
  refine I.write (x := p) (e := p) (by rw [h]; trivial) (.inl rfl) (fun b u hb q => (Heap.get?_update_other _ _ (Ne.symm hb)).trans q) ⟨_, e⟩ ?_
  exact ⟨hz, its', n', r, e⟩
def rSetL : V → V → V → Hp → (Hp → Prop) → Prop := fun o i v H Q => ∃ p xs k j, o = .ref p ∧ i = .int k ∧ H p = some (.lst xs) ∧ ixN xs.length k = some j ∧ Q (upd H p (.lst (xs.set j v)))
theorem set_list : PSet X rSetL := by
  intro pins s σ H o i v ov iv u Q I ro ri rv h
  obtain ⟨p, xs, k, j, rfl, rfl, hp, hj, q⟩ := h
  cases ro
  obtain ⟨t, rfl⟩ := ri
  obtain ⟨its, n, r, ho, hz⟩ := I.lst hp
  obtain ⟨h1, h2, h3, h4⟩ := ixN_seq hj
  have hl := r.length
  have hn := line63
  have I' : Inv X pins σ (upd H p (.lst (xs.set j v))) { s with heap := s.heap.update p (Obj.mapSeq (·.setIfInBounds j u)) } :=
    I.lstUpd hp ho (mapSeq_set its n j u) (r.set rv j) (by rw [List.length_set]; exact hz) s.toks
  by_cases h0 : 0 ≤ k
  · have hk : k.toNat = j := by
      rw [seqIndex_of h0 h4] at h1
      exact Option.some.inj h1
    exact PySem.W.ki_setAt ho h0 (by omega) (by rw [List.size_toArray, ← hl]; exact h4) (by rw [hk]; exact ⟨_, I', q⟩)
  · have hk : (k + (its.toArray.size : Int)).toNat = j := by
      rw [seqIndex_neg (by omega) h3] at h1
      rw [List.size_toArray, ← hl]
      exact Option.some.inj h1
    exact PySem.W.ki_setBack ho (by omega) (by rw [List.size_toArray, ← hl]; exact h3) (by omega) (by rw [hk]; exact ⟨_, I', q⟩)
theorem slice_bounds (lo hi : Option Int) (n : Nat) : (sliceBounds lo hi none n).1 = ((HT.sIx n 0 lo : Nat) : Int) ∧ (sliceBounds lo hi none n).2.1 = ((HT.sIx n n hi : Nat) : Int) ∧ (sliceBounds lo hi none n).2.2 = 1 := by
  refine ⟨?_, ?_, rfl⟩
  · cases lo with
    | none => simp [sliceBounds, HT.sIx]
    | some i =>
      simp only [sliceBounds, HT.sIx, Option.getD_none, show (1 : Int) > 0 by decide, if_true]
      by_cases h : i < 0
      · simp only [h, if_true] <;> omega
      · simp only [h, if_false] <;> omega
  · cases hi with
    | none => simp [sliceBounds, HT.sIx]
    | some i =>
      simp only [sliceBounds, HT.sIx, Option.getD_none, show (1 : Int) > 0 by decide, if_true]
      by_cases h : i < 0
      · simp only [h, if_true] <;> omega
      · simp only [h, if_false] <;> omega
theorem slicePick_cut (its : List Value) (lo hi : Option Int) : slicePick its.toArray lo hi none = ((its.drop (HT.sIx its.length 0 lo)).take (HT.sIx its.length its.length hi - HT.sIx its.length 0 lo)).toArray := by
  obtain ⟨h1, h2, h3⟩ := slice_bounds lo hi its.toArray.size
  unfold slicePick
  rw [h1, h2, h3]
  simp only [sliceRange_one, pick_run, List.size_toArray] <;> rfl
def rSlL (K : PySem.W.Frag) : V → Option Int → Option Int → Hp → VK → Prop := fun x lo hi H Q => ∃ a xs, x = .ref a ∧ SqL K H a xs ∧ ∀ p, H p = none → Q (.ref p) (upd H p (.lst (cutV xs lo hi)))
theorem sl_list : SlR X (rSlL X.K) := by
  intro pins s σ H x v vl vu lo hi sl Q I rx hs pl pu h
  obtain ⟨a, xs, rfl, hx, q⟩ := h
  cases rx
  obtain ⟨its, r, ht, hz⟩ := I.list hx
  have hlen := r.length
  refine ⟨"list", _, slot_list_getitem.lookup, ht.isList.typeIs, ?_⟩
  refine wpAny_getItem_list_slice ht.isList hs pl pu .none (by simp) ?_ (by rw [List.size_toArray] <;> omega)
  rw [slicePick_cut, ← hlen]
  refine ⟨.ref s.heap.objs.size, _, I.laid (t' := s.toks) (o := .lst (cutV xs lo hi)) (fun b ob q => Heap.get?_push_of_some _ q) (Nat.le_refl _) ?_, rfl, q _ (I.hok.fresh (Nat.le_refl _))⟩
  exact ⟨Nat.le_trans (cutV_length xs lo hi) hz, _, 0, (r.drop (HT.sIx xs.length 0 lo)).take (HT.sIx xs.length xs.length hi - HT.sIx xs.length 0 lo), Heap.get?_push_size _ rfl⟩
def flatV : V → Bool
  | .non => true
  | .bl _ => true
  | .int _ => true
  | .str _ => true
  | _ => false
def eqV : V → V → Bool
  | .non, .non => true
  | .bl a, .bl b => a == b
  | .bl a, .int b => (if a then 1 else 0) == b
  | .int a, .bl b => a == (if b then 1 else 0)
  | .int a, .int b => a == b
  | .str a, .str b => a == b
  | _, _ => false
theorem eqAt_V {A : Around} {s : Shared} {y x : V} {u v : Value} (ry : RelV y u) (rx : RelV x v) (fy : flatV y = true) (fx : flatV x = true) : SeqAt.EqAt A s u v (eqV y x) := by
  cases y with
  | non =>
    cases ry
    cases x with
    | non => cases rx; exact SeqAt.EqAt.same _
    | bl b => cases rx; exact SeqAt.EqAt.none_bool b
    | int b => obtain ⟨t, rfl⟩ := rx; exact SeqAt.EqAt.none_int b t
    | str b => obtain ⟨t, rfl⟩ := rx; exact SeqAt.EqAt.none_str b t
    | _ => exact absurd (show false = true from fx) Bool.false_ne_true
  | bl a =>
    cases ry
    cases x with
    | non => cases rx; exact SeqAt.EqAt.bool_none a
    | bl b => cases rx; exact SeqAt.EqAt.bool_bool a b
    | int b => obtain ⟨t, rfl⟩ := rx; exact SeqAt.EqAt.bool_int a b t
    | str b => obtain ⟨t, rfl⟩ := rx; exact SeqAt.EqAt.bool_str a b t
    | _ => exact absurd (show false = true from fx) Bool.false_ne_true
  | int a =>
    obtain ⟨t', rfl⟩ := ry
    cases x with
    | non => cases rx; exact SeqAt.EqAt.int_none a t'
    | bl b => cases rx; exact SeqAt.EqAt.int_bool a t' b
    | int b => obtain ⟨t, rfl⟩ := rx; exact SeqAt.EqAt.int_int a t' b t
    | str b => obtain ⟨t, rfl⟩ := rx; exact SeqAt.EqAt.int_str a t' b t
    | _ => exact absurd (show false = true from fx) Bool.false_ne_true
  | str a =>
    obtain ⟨t', rfl⟩ := ry
    cases x with
    | non => cases rx; exact SeqAt.EqAt.str_none a t'
    | bl b => cases rx; exact SeqAt.EqAt.str_bool a t' b
    | int b => obtain ⟨t, rfl⟩ := rx; exact SeqAt.EqAt.str_int a t' b t
    | str b => obtain ⟨t, rfl⟩ := rx; exact SeqAt.EqAt.str_str a t' b t
    | _ => exact absurd (show false = true from fx) Bool.false_ne_true
  | _ => exact absurd (show false = true from fy) Bool.false_ne_true
def eqU (x : V) (u : Value) : Bool := match u with
  | .none => eqV .non x
  | .bool b => eqV (.bl b) x
  | .int i _ => eqV (.int i) x
  | .str z _ => eqV (.str z) x
  | _ => false
theorem eqU_of {x y : V} {u : Value} (r : RelV y u) (f : flatV y = true) : eqU x u = eqV y x := by
  cases y with
  | non => cases r; rfl
  | bl b => cases r; rfl
  | int i => obtain ⟨t, rfl⟩ := r; rfl
  | str z => obtain ⟨t, rfl⟩ := r; rfl
  | _ => exact absurd (show false = true from f) Bool.false_ne_true
theorem any_eqU {x : V} : ∀ {xs : List V} {us : List Value}, Vals xs us → xs.all flatV = true → us.any (eqU x) = xs.any fun y => eqV y x
  | _, _, .nil, _ => rfl
  | y :: xs, u :: us, .cons r t, f => by
    rw [List.all_cons, Bool.and_eq_true] at f
    rw [List.any_cons, List.any_cons, eqU_of r f.1, any_eqU t f.2]
theorem mem_eqAt {A : Around} {s : Shared} {x : V} {v : Value} (rx : RelV x v) (fx : flatV x = true) : ∀ {xs : List V} {us : List Value}, Vals xs us → xs.all flatV = true → ∀ u ∈ us, SeqAt.EqAt A s u v (eqU x u)
  | _, _, .nil, _ => fun u hu => by cases hu
  | y :: xs, u :: us, .cons r t, f => fun u' hu => by
    rw [List.all_cons, Bool.and_eq_true] at f
    rcases List.mem_cons.mp hu with rfl | hu
    · rw [eqU_of r f.1]; exact eqAt_V r rx f.1 fx
    · exact mem_eqAt rx fx t f.2 u' hu
def inV (x : V) (xs : List V) : Bool := xs.any fun y => eqV y x
def rIn (K : PySem.W.Frag) (neg : Bool) : R2 := fun x y H Q => ∃ p xs, y = .ref p ∧ (SqL K H p xs ∨ SqT K H p xs) ∧ flatV x = true ∧ xs.all flatV = true ∧ Q (.bl (if neg then !inV x xs else inV x xs)) H
theorem op_in_seq : OpR X (compareOp .In) (rIn X.K false) := by
  intro pins s σ H x y v u Q I rx ry h
  obtain ⟨p, xs, rfl, hq, fx, fs, q⟩ := h
  cases ry
  rcases hq with hq | hq
  · obtain ⟨its, r, pl, hz⟩ := I.list hq
    refine SeqAt.in_listAt (eqU x) pl.isList (fun w hw => mem_eqAt rx fx r fs w (by simpa using hw)) ⟨.bl _, H, I, rfl, ?_⟩
    rw [show its.toArray.any (eqU x) = its.any (eqU x) by simp, any_eqU r fs]
    exact q
  · obtain ⟨its, r, pl, hz⟩ := I.tuple hq
    refine SeqAt.in_tupleAt (eqU x) pl (fun w hw => mem_eqAt rx fx r fs w (by simpa using hw)) ⟨.bl _, H, I, rfl, ?_⟩
    rw [show its.toArray.any (eqU x) = its.any (eqU x) by simp, any_eqU r fs]
    exact q
theorem op_notIn_seq : OpR X (compareOp .NotIn) (rIn X.K true) := by
  intro pins s σ H x y v u Q I rx ry h
  obtain ⟨p, xs, rfl, hq, fx, fs, q⟩ := h
  cases ry
  rcases hq with hq | hq
  · obtain ⟨its, r, pl, hz⟩ := I.list hq
    refine SeqAt.notIn_listAt (eqU x) pl.isList (fun w hw => mem_eqAt rx fx r fs w (by simpa using hw)) ⟨.bl _, H, I, rfl, ?_⟩
    rw [show its.toArray.any (eqU x) = its.any (eqU x) by simp, any_eqU r fs]
    exact q
  · obtain ⟨its, r, pl, hz⟩ := I.tuple hq
    refine SeqAt.notIn_tupleAt (eqU x) pl (fun w hw => mem_eqAt rx fx r fs w (by simpa using hw)) ⟨.bl _, H, I, rfl, ?_⟩
    rw [show its.toArray.any (eqU x) = its.any (eqU x) by simp, any_eqU r fs]
    exact q
theorem call_len_seq : CallR X (.builtin "len") (fun xs H Q => ∃ p ys, xs = [.ref p] ∧ (SqL X.K H p ys ∨ SqT X.K H p ys) ∧ Q (.int ys.length) H) := by
  intro pins s σ H xs us Q I r h
  obtain ⟨p, ys, rfl, hq, q⟩ := h
  obtain ⟨u, rfl, rx⟩ := vals1 r
  cases rx
  have hn := line63
  rcases hq with hq | hq
  · obtain ⟨its, r', pl, hz⟩ := I.list hq
    have hlen := r'.length
    exact Calls.call_len_list pl.isList (by simp only [List.size_toArray] <;> omega) ⟨.int ys.length, H, I.tok _, ⟨s.toks + 1, by rw [List.size_toArray, hlen]⟩, q⟩
  · obtain ⟨its, r', pl, hz⟩ := I.tuple hq
    have hlen := r'.length
    exact len_tuple pl (by simp only [List.size_toArray] <;> omega) ⟨.int ys.length, H, I.tok _, ⟨s.toks + 1, by rw [List.size_toArray, hlen]⟩, q⟩
theorem call_list_of : CallR X (.type "list") (fun xs H Q => ∃ p ys, xs = [.ref p] ∧ (SqL X.K H p ys ∨ SqT X.K H p ys) ∧ ∀ l, H l = none → Q (.ref l) (upd H l (.lst ys))) := by
  intro pins s σ H xs us Q I r h
  obtain ⟨p, ys, rfl, hq, q⟩ := h
  obtain ⟨u, rfl, rx⟩ := vals1 r
  cases rx
  have fin : ∀ (its : List Value), Vals ys its → ys.length ≤ sizeLine → ∀ (h' : Heap) (c' : Nat), (∀ b o', s.heap.get? b = some o' → h'.get? b = some o') →
      h'.get? s.heap.objs.size = some { cls := .type "list", dict := none, data := .seq its.toArray c', slots := #[] } → EP X pins σ Q (.ref s.heap.objs.size) { s with heap := h' } := fun its r' hz h' c' kp e =>
    ⟨.ref s.heap.objs.size, _, I.laid (t' := s.toks) kp (Nat.le_refl _) (show ObjOk X.prog X.w _ h' _ (.lst ys) from ⟨hz, its, c', r', e⟩), rfl, q _ (I.hok.fresh (Nat.le_refl _))⟩
  rcases hq with hq | hq
  · obtain ⟨its, r', pl, hz⟩ := I.list hq
    have hlen := r'.length
    obtain ⟨o, ho, hc, n, hd⟩ := pl.isList
    exact call_list_seq p (.inl rfl) ho hc hd (fun h' c' kp e => fin its r' hz h' c' kp e) (by simp only [List.size_toArray] <;> omega)
  · obtain ⟨its, r', pl, hz⟩ := I.tuple hq
    have hlen := r'.length
    obtain ⟨o, ho, hc, n, hd⟩ := pl
    exact call_list_seq p (.inr rfl) ho hc hd (fun h' c' kp e => fin its r' hz h' c' kp e) (by simp only [List.size_toArray] <;> omega)
def tyV (K : PySem.W.Frag) (T : String) (x : V) (H : Hp) : Prop := match x with
  | .str _ => T = "str"
  | .int _ => T = "int"
  | .ref p => (T = "list" ∧ ∃ xs, SqL K H p xs) ∨ (T = "tuple" ∧ ∃ o, K.lookup p = some o ∧ o.cls = .type "tuple" ∧ o.dict = none) ∨
      (T = "dict" ∧ ((∃ kvs, H p = some (.dK kvs)) ∨ ∃ kvs, H p = some (.dT kvs))) ∨ (T = "set" ∧ ∃ S n, H p = some (.set S n))
  | _ => False
theorem tyV_is {pins : List (Addr × Obj)} {σ : St} {H : Hp} {s : Shared} {T : String} {x : V} {v : Value} (I : Inv X pins σ H s) (r : RelV x v) (ty : tyV X.K T x H) :
    s.TypeIs v T ∧ ∀ a, v = .ref a → ∃ ob, s.heap.get? a = some ob ∧ ob.dict = none := by
  cases x with
  | str z =>
    obtain ⟨t, rfl⟩ := r
    cases (show T = "str" from ty)
    exact ⟨typeIs_str s z t, fun _ e => nomatch e⟩
  | int i =>
    obtain ⟨t, rfl⟩ := r
    cases (show T = "int" from ty)
    exact ⟨typeIs_int s i t, fun _ e => nomatch e⟩
  | ref p =>
    cases r
    rcases ty with ⟨rfl, xs, hq⟩ | ⟨rfl, o, hk, hc, hd⟩ | ⟨rfl, hk⟩ | ⟨rfl, S, n, hk⟩
    · obtain ⟨its, _, pl, _⟩ := I.list hq
      refine ⟨pl.isList.typeIs, fun a e => ?_⟩
      cases e
      obtain ⟨o, n, e, c, hd, _⟩ := pl
      exact ⟨o, e, hd⟩
    · refine ⟨⟨o, I.kIn p o hk, hc⟩, fun a e => ?_⟩
      cases e
      exact ⟨o, I.kIn _ o hk, hd⟩
    · have z : ∃ o, s.heap.get? p = some o ∧ o.ExactDict := by
        rcases hk with ⟨kvs, hk⟩ | ⟨kvs, hk⟩
        · obtain ⟨_, _, _, _, o, _, _, e, ex, _⟩ := I.hok p _ hk
          exact ⟨o, e, ex⟩
        · obtain ⟨_, _, _, _, o, _, _, e, ex, _⟩ := I.hok p _ hk
          exact ⟨o, e, ex⟩
      obtain ⟨o, e, ex⟩ := z
      refine ⟨⟨o, e, ex.1⟩, fun a e2 => ?_⟩
      cases e2
      exact ⟨o, e, ex.2.1⟩
    · obtain ⟨o, _, _, _, e, ex, _⟩ := I.hok p _ hk
      refine ⟨⟨o, e, ex.1⟩, fun a e2 => ?_⟩
      cases e2
      exact ⟨o, e, ex.2.1⟩
  | _ => exact False.elim ty
def tBM0 (K : PySem.W.Frag) (T : String) (r : V → List V → Hp → VK → Prop) (to : TE) : TE := fun σ H Q => to σ H fun x H1 => tyV K T x H1 ∧ r x [] H1 Q
def tBM (K : PySem.W.Frag) (T : String) (r : V → List V → Hp → VK → Prop) (to : TE) (t : TA) : TE := fun σ H Q => to σ H fun x H1 => tyV K T x H1 ∧ t σ H1 fun xs H2 => r x xs H2 Q
variable {o e : Expr} {es : List Expr} {to : TE} {t : TA} {name : Str} {apos cpos : Pos} {T id : String} {r : V → List V → Hp → VK → Prop}
theorem pe_bm0 (pa : PlainAttrs T) (slot : Slot T name id) (hty : typeOf (.builtin id) = pure (.type "method_descriptor")) (hm : MtR X id r) (ho : PE X o to)
    (hbase : attributeBase o name X.env (eval o X.env) = eval o X.env := by rfl) (hline : (apos.endLine == cpos.line) = true := by rfl) : PE X (.Call (.Attribute o name apos) [] [] cpos) (tBM0 X.K T r to) := by
  intro pins s σ H Q I h
  refine wpAny_Call_method0_late hbase hline (thn (ho pins s σ H _ I h) fun v s1 ⟨x, H1, I1, r1, ty, q1⟩ => ?_)
  obtain ⟨h1, h2⟩ := tyV_is I1 r1 ty
  exact ⟨T, id, pa, slot, hty, h1, h2, Calls.callWith_builtin rfl (PySem.evalArgs_none (hm pins s1 σ H1 x [] v [] Q I1 r1 .nil q1))⟩
theorem pe_bm (pa : PlainAttrs T) (slot : Slot T name id) (hty : typeOf (.builtin id) = pure (.type "method_descriptor")) (hm : MtR X id r) (ho : PE X o to) (ha : PA X (e :: es) t)
    (hbase : attributeBase o name X.env (eval o X.env) = eval o X.env := by rfl)
    (hfew : ((backTo cpos (starEach (e :: es) X.env)).all (fun x => !x.1) && (backToKw cpos (keywordEach [] X.env)).all (fun x => x.1.isSome)
      && decide ((e :: es).length + ([] : List Keyword).length + (if ([] : List Keyword).isEmpty then 0 else 1) < 30)) = true := by rfl)
    (hline : (apos.endLine == cpos.line) = true := by rfl) (hs : starEach (e :: es) X.env = (false, eval e X.env) :: starEach es X.env := by rfl) (hplain : (backTo cpos (starEach es X.env)).any (·.1) = false := by rfl) :
    PE X (.Call (.Attribute o name apos) (e :: es) [] cpos) (tBM X.K T r to t) := by
  intro pins s σ H Q I h
  refine wpAny_Call_method_late hbase hfew hline rfl (thn (ho pins s σ H _ I h) fun v s1 ⟨x, H1, I1, r1, ty, q1⟩ => ?_)
  obtain ⟨h1, h2⟩ := tyV_is I1 r1 ty
  refine ⟨T, id, pa, slot, hty, h1, h2, ?_⟩
  have hA := ha cpos pins s1 σ H1 _ I1 q1
  rw [hs] at hA ⊢
  refine Calls.callWith_builtin (by show (false || (backTo cpos (starEach es X.env)).any (·.1)) = false; rw [hplain] <;> rfl) (Calls.evalArgs_plain ?_)
  exact thn hA fun us s2 ⟨vs, H2, I2, r2, q2⟩ => hm pins s2 σ H2 x vs v us Q I2 r1 r2 q2
end
end L2
namespace L2
open PySem PySem.Spec PyProof.Rows
def MtM (X : Cx) (id : String) (r : V → List V → Hp → VK → Prop) : Prop :=
  ∀ (pins : List (Addr × Obj)) (s : Shared) (σ : St) (H : Hp) (x : V) (xs : List V) (v : Value) (us : List Value) (Q : VK), Inv X pins σ H s → RelV x v → Vals xs us → r x xs H Q →
    wpAny (model X.prog X.w) X.A (call (.builtin id) (v :: us)) (EP X pins σ Q) X.xe s
theorem Vals.one : ∀ {x : V} {us : List Value}, Vals [x] us → ∃ u, us = [u] ∧ RelV x u
  | _, _, .cons r .nil => ⟨_, rfl, r⟩
theorem Vals.zero : ∀ {us : List Value}, Vals [] us → us = []
  | _, .nil => rfl
theorem Vals.eraseIdx : ∀ {xs : List V} {us : List Value} (i : Nat), Vals xs us → Vals (xs.eraseIdx i) (us.eraseIdx i)
  | _, _, _, .nil => .nil
  | _, _, 0, .cons _ t => t
  | _, _, i + 1, .cons r t => .cons r (Vals.eraseIdx i t)
theorem Vals.reverse {xs : List V} {us : List Value} (h : Vals xs us) : Vals xs.reverse us.reverse := by
  induction h with
  | nil => exact .nil
  | cons r t ih => rw [List.reverse_cons, List.reverse_cons]; exact Vals.append ih (.cons r .nil)
theorem Vals.rep {xs : List V} {us : List Value} (h : Vals xs us) : ∀ k : Nat, Vals (List.replicate k xs).flatten (List.replicate k us).flatten
  | 0 => .nil
  | k + 1 => by
    rw [List.replicate_succ, List.replicate_succ, List.flatten_cons, List.flatten_cons]
    exact Vals.append h (Vals.rep h k)
theorem len_erase {α : Type} : ∀ (l : List α) (i : Nat), (l.eraseIdx i).length ≤ l.length
  | [], _ => Nat.le_refl _
  | _ :: _, 0 => Nat.le_succ _
  | _ :: r, i + 1 => Nat.succ_le_succ (len_erase r i)
theorem foldl_rep (its : List Value) : ∀ (k : Nat) (acc : List Value),
    List.foldl (fun x1 x2 => x1 ++ x2) acc.toArray (List.replicate k its.toArray) = (acc ++ (List.replicate k its).flatten).toArray
  | 0, acc => by simp
  | k + 1, acc => by
    have e : acc.toArray ++ its.toArray = (acc ++ its).toArray := by simp
    have e2 : (acc ++ its) ++ (List.replicate k its).flatten = acc ++ (List.replicate (k + 1) its).flatten := by
      rw [List.replicate_succ, List.flatten_cons, List.append_assoc]
    rw [← e2, ← foldl_rep its k (acc ++ its), ← e, List.replicate_succ, List.foldl_cons]
section
variable {X : Cx} {pins : List (Addr × Obj)} {σ : St} {H : Hp} {s : Shared} {l b : Addr} {xs ys zs : List V}
theorem Inv.lset {its its' : List Value} {n : Nat} {f : Array Value → Array Value} {t' : Nat} (I : Inv X pins σ H s) (hH : H l = some (.lst xs))
    (e : s.heap.get? l = some { cls := .type "list", data := .seq its.toArray n }) (hf : f its.toArray = its'.toArray) (hv : Vals ys its') (hz : ys.length ≤ sizeLine) :
    Inv X pins σ (upd H l (.lst ys)) { s with heap := s.heap.update l (Obj.mapSeq f), toks := t' } := by
  have q := PySem.IsL.update e f
  rw [hf] at q
  refine I.write (x := l) (e := l) (by rw [hH]; exact trivial) (.inl rfl) (fun b' u hb hu => (Heap.get?_update_other s.heap (Obj.mapSeq f) (Ne.symm hb)).trans hu) ⟨_, q⟩ ?_
  exact ⟨hz, its', _, hv, q⟩
theorem Inv.lnew {its : List Value} {t' : Nat} (I : Inv X pins σ H s) (hv : Vals ys its) (hz : ys.length ≤ sizeLine) :
    Inv X pins σ (upd H s.heap.objs.size (.lst ys)) { s with heap := s.heap.push { cls := .type "list", data := .seq its.toArray }, toks := t' } :=
  I.laid (fun _ _ q => Heap.get?_push_of_some _ q) (Nat.le_refl _) ⟨hz, its, 0, hv, Heap.get?_push_size _ rfl⟩
theorem Inv.fresh (I : Inv X pins σ H s) : H s.heap.objs.size = none := I.hok.fresh (Nat.le_refl _)
theorem Inv.lstM (I : Inv X pins σ H s) (hH : H l = some (.lst xs)) : xs.length ≤ sizeLine ∧ ∃ (its : List Value) (n : Nat), Vals xs its ∧ xs.length = its.length ∧ s.heap.get? l = some { cls := .type "list", data := .seq its.toArray n } := by
  obtain ⟨z, its, n, r, e⟩ := I.hok l _ hH
  exact ⟨z, its, n, r, r.length, e⟩
theorem notLongL {n : Nat} (h : n ≤ sizeLine) : Builtin.List.listTooLong n = false := by
  unfold Builtin.List.listTooLong
  exact decide_eq_false (by omega)
end
section
variable {X : Cx}
def rAppend : V → List V → Hp → VK → Prop := fun x vs H Q => ∃ l xs y, x = .ref l ∧ vs = [y] ∧ H l = some (.lst xs) ∧ xs.length < sizeLine ∧ Q .non (upd H l (.lst (xs ++ [y])))
theorem mt_append : MtM X "list.append" rAppend := by
  intro pins s σ H x vs v us Q I rx rv h
  obtain ⟨l, xs, y, rfl, rfl, hH, hz, q⟩ := h
  cases rx
  obtain ⟨u, rfl, ru⟩ := rv.one
  obtain ⟨z, its, n, r, hl, e⟩ := I.lstM hH
  refine call_meets F.slot_list_append ⟨_, e, rfl⟩ F.entry_list_append (F.args_list_append_2 _ _) (PySem.list_append l its.toArray n u (by rw [List.size_toArray]; omega)) ⟨e, ?_⟩
  refine ⟨.non, _, I.lset (its' := its ++ [u]) hH e (by simp) (r.append (.cons ru .nil)) ?_, rfl, q⟩
  rw [List.length_append, List.length_singleton]
  omega
def rPopAt : V → List V → Hp → VK → Prop := fun x vs H Q => ∃ l xs i k y, x = .ref l ∧ vs = [.int i] ∧ H l = some (.lst xs) ∧ -(2 ^ 63) ≤ i ∧ i < 2 ^ 63 ∧ seqIndex? i xs.length = some k ∧ xs[k]? = some y ∧ Q y (upd H l (.lst (xs.eraseIdx k)))
theorem mt_popAt : MtM X "list.pop" rPopAt := by
  intro pins s σ H x vs v us Q I rx rv h
  obtain ⟨l, xs, i, k, y, rfl, rfl, hH, h1, h2, hk, hy, q⟩ := h
  cases rx
  obtain ⟨u, rfl, ru⟩ := rv.one
  obtain ⟨t, rfl⟩ := ru
  obtain ⟨z, its, n, r, hl, e⟩ := I.lstM hH
  obtain ⟨w, hw, rw'⟩ := r.get hy
  refine call_meets F.slot_list_pop ⟨_, e, rfl⟩ F.entry_list_pop (F.args_list_pop_2 _ _)
    (MeetsSeq.list_pop_at l its.toArray n i t k w (fitsIndex_both h1 h2) (by rw [List.size_toArray, ← hl]; exact hk) (by rw [← Array.getElem?_toList]; exact hw) (by rw [List.size_toArray]; omega)) ⟨e, ?_⟩
  refine ⟨y, _, I.lset (its' := its.eraseIdx k) hH e ?_ (r.eraseIdx k) ?_, rw', q⟩
  · show its.toArray.eraseIdxIfInBounds k = (its.eraseIdx k).toArray
    rw [List.eraseIdxIfInBounds_toArray]
  · have := len_erase xs k
    omega
def rReverse : V → List V → Hp → VK → Prop := fun x vs H Q => ∃ l xs, x = .ref l ∧ vs = [] ∧ H l = some (.lst xs) ∧ Q .non (upd H l (.lst xs.reverse))
theorem mt_reverse : MtM X "list.reverse" rReverse := by
  intro pins s σ H x vs v us Q I rx rv h
  obtain ⟨l, xs, rfl, rfl, hH, q⟩ := h
  cases rx
  have hus := rv.zero
  subst hus
  obtain ⟨z, its, n, r, hl, e⟩ := I.lstM hH
  refine call_meets F.slot_list_reverse ⟨_, e, rfl⟩ F.entry_list_reverse (F.args_list_reverse_1 _) (AutoSeq1.list_reverse_list_0 l its.toArray n (by rw [List.size_toArray]; omega)) ⟨e, ?_⟩
  refine ⟨.non, _, I.lset (its' := its.reverse) hH e (by simp) r.reverse ?_, rfl, q⟩
  rw [List.length_reverse]
  omega
def rCat : R2 := fun x y H Q => ∃ l b xs zs, x = .ref l ∧ y = .ref b ∧ H l = some (.lst xs) ∧ H b = some (.lst zs) ∧ xs.length + zs.length ≤ sizeLine ∧ ∀ p, H p = none → Q (.ref p) (upd H p (.lst (xs ++ zs)))
theorem op_cat : OpR X (binaryOp .Add) rCat := by
  intro pins s σ H x y v u Q I rx ry h
  obtain ⟨l, b, xs, zs, rfl, rfl, hH, hB, hz, q⟩ := h
  cases rx
  cases ry
  obtain ⟨z, its, n, r, hl, e⟩ := I.lstM hH
  obtain ⟨z2, its2, n2, r2, hl2, e2⟩ := I.lstM hB
  refine PySem.P.add_list e e2 ?_ (by rw [List.size_toArray, List.size_toArray]; omega)
  have ea : its.toArray ++ its2.toArray = (its ++ its2).toArray := by simp
  rw [ea]
  exact ⟨.ref _, _, I.lnew (t' := s.toks) (r.append r2) (by rw [List.length_append]; omega), rfl, q _ I.fresh⟩
def rRep : R2 := fun x y H Q => ∃ l k xs, x = .ref l ∧ y = .int k ∧ H l = some (.lst xs) ∧ -(2 ^ 63) ≤ k ∧ k < 2 ^ 63 ∧ xs.length * k.toNat ≤ sizeLine ∧
  ∀ p, H p = none → Q (.ref p) (upd H p (.lst (List.replicate k.toNat xs).flatten))
theorem len_rep {α : Type} (xs : List α) (k : Nat) : (List.replicate k xs).flatten.length = k * xs.length := by
  induction k with
  | zero => simp
  | succ k ih => rw [List.replicate_succ, List.flatten_cons, List.length_append, ih, Nat.succ_mul, Nat.add_comm]
theorem op_rep : OpR X (binaryOp .Mult) rRep := by
  intro pins s σ H x y v u Q I rx ry h
  obtain ⟨l, k, xs, rfl, rfl, hH, h1, h2, hz, q⟩ := h
  cases rx
  obtain ⟨t, rfl⟩ := ry
  obtain ⟨z, its, n, r, hl, e⟩ := I.lstM hH
  have hlen : its.toArray.size * k.toNat ≤ sizeLine := by rw [List.size_toArray, ← hl]; exact hz
  have hcap : ¬ its.toArray.size * k.toNat > (2 ^ 63 - 1) / 8 := by
    have : (sizeLine : Nat) ≤ (2 ^ 63 - 1) / 8 := by decide
    omega
  have hfit : ¬ (!Builtin.List.listFitsIndex k) = true := by
    rw [fitsIndex_both h1 h2]
    exact Bool.false_ne_true
  have hlong : ¬ Builtin.List.listTooLong (its.toArray.size * k.toNat) = true := by
    rw [notLongL hlen]
    exact Bool.false_ne_true
  have hnew : List.foldl (fun x1 x2 => x1 ++ x2) #[] (List.replicate (if its.toArray.isEmpty = true then 0 else k.toNat) its.toArray) = (List.replicate k.toNat its).flatten.toArray := by
    have f0 : ∀ m : Nat, List.foldl (fun x1 x2 => x1 ++ x2) #[] (List.replicate m its.toArray) = (List.replicate m its).flatten.toArray := fun m => by
      have := foldl_rep its m []
      rw [List.nil_append] at this
      exact this
    rw [f0]
    cases its with
    | nil => simp
    | cons a r' => rw [if_neg (by simp)]
  refine wpAny_binaryOp_repeat_ref (T := "list") (U := "int") (by decide) ⟨_, e, rfl⟩ (fun s' => typeIs_int s' k t) noFill_list_mul F.fills_int_mul F.slot_int_rmul repeat_list F.slot_int_index.lookup
    (call_meets F.slot_int_rmul (typeIs_int s k t) F.entry_int_rmul (F.args_int_rmul_2 _ _) (int___rmul___int_list k t l its.toArray n)
      ⟨e, rfl, ⟨_, e, rfl⟩, call_meets F.slot_list_mul ⟨_, e, rfl⟩ F.entry_list_mul (F.args_list_mul_2 _ _) (AutoListH.list___mul___list_int_3 l its.toArray n k t hfit hcap hlong) ⟨e, ?_⟩⟩)
  rw [hnew]
  exact ⟨.ref _, _, I.lnew (t' := s.toks) (r.rep k.toNat) (by rw [len_rep, Nat.mul_comm]; exact hz), rfl, q _ I.fresh⟩
end
section
variable {prog : Program} {w : World} {A : Around} {E : Value → Shared → Prop} {s : Shared}
set_option maxRecDepth 100000 in
end
section
variable {X : Cx}
end
end L2
namespace L2
open PySem PySem.Spec PyProof.Rows
section
variable {κ : Type} [DecidableEq κ]
def valV (kvs : List (κ × V)) (k : κ) : Option V := (kvs.find? fun kv => decide (kv.1 = k)).map (·.2)
def putK (kvs : List (κ × V)) (k : κ) (v : V) : List (κ × V) :=
  if (kvs.any fun kv => decide (kv.1 = k)) = true then kvs.map (fun kv => if kv.1 = k then (kv.1, v) else kv) else kvs ++ [(k, v)]
def dropK (kvs : List (κ × V)) (k : κ) : List (κ × V) := kvs.filter fun kv => decide (kv.1 ≠ k)
theorem valV_pos {p : κ × V} {r : List (κ × V)} {k : κ} (e : p.1 = k) : valV (p :: r) k = some p.2 := by simp [valV, List.find?_cons, e]
theorem valV_neg {p : κ × V} {r : List (κ × V)} {k : κ} (e : ¬ p.1 = k) : valV (p :: r) k = valV r k := by simp [valV, List.find?_cons, e]
theorem valV_any (k : κ) : ∀ kvs : List (κ × V), (kvs.any fun kv => decide (kv.1 = k)) = (valV kvs k).isSome
  | [] => rfl
  | p :: r => by
    rw [List.any_cons]
    by_cases e : p.1 = k
    · simp only [valV_pos e, decide_eq_true e, Bool.true_or, Option.isSome_some]
    · rw [valV_neg e, decide_eq_false e, Bool.false_or]; exact valV_any k r
theorem valV_map (k j : κ) (y : V) : ∀ kvs : List (κ × V), valV (kvs.map fun kv => if kv.1 = k then (kv.1, y) else kv) j = (valV kvs j).map fun x => if j = k then y else x
  | [] => rfl
  | p :: r => by
    have ih := valV_map k j y r
    rw [List.map_cons]
    by_cases h : p.1 = k
    · rw [if_pos h]
      by_cases e : p.1 = j
      · rw [valV_pos (p := (p.1, y)) e, valV_pos e, Option.map_some, if_pos (e.symm.trans h)]
      · rw [valV_neg (p := (p.1, y)) e, valV_neg e, ih]
    · rw [if_neg h]
      by_cases e : p.1 = j
      · rw [valV_pos (p := p) e, valV_pos e, Option.map_some, if_neg (fun z => h (e.trans z))]
      · rw [valV_neg (p := p) e, valV_neg e, ih]
theorem valV_snoc (k j : κ) (y : V) : ∀ kvs : List (κ × V), valV kvs k = none → valV (kvs ++ [(k, y)]) j = if j = k then some y else valV kvs j
  | [], _ => by
    by_cases e : k = j
    · rw [if_pos e.symm]; exact valV_pos (p := (k, y)) e
    · rw [if_neg (fun z => e z.symm)]; exact valV_neg (p := (k, y)) e
  | p :: r, hn => by
    rw [List.cons_append]
    have hk : ¬ p.1 = k := fun z => by rw [valV_pos z] at hn; cases hn
    rw [valV_neg hk] at hn
    have ih := valV_snoc k j y r hn
    by_cases e : p.1 = j
    · rw [valV_pos e, valV_pos e, if_neg (fun z => hk (e.trans z))]
    · rw [valV_neg e, valV_neg e, ih]
theorem valV_put (kvs : List (κ × V)) (k j : κ) (y : V) : valV (putK kvs k y) j = if j = k then some y else valV kvs j := by
  unfold putK
  by_cases a : (kvs.any fun kv => decide (kv.1 = k)) = true
  · rw [if_pos a, valV_map]
    rw [valV_any] at a
    by_cases e : j = k
    · obtain ⟨x, hx⟩ := Option.isSome_iff_exists.mp a
      rw [if_pos e, e, hx, Option.map_some, if_pos rfl]
    · rw [if_neg e]
      cases valV kvs j with
      | none => rfl
      | some x => rw [Option.map_some, if_neg e]
  · rw [if_neg a]
    refine valV_snoc k j y kvs ?_
    rw [valV_any] at a
    cases q : valV kvs k with
    | none => rfl
    | some x => rw [q] at a; exact (a rfl).elim
theorem length_putK (kvs : List (κ × V)) (k : κ) (v : V) : (putK kvs k v).length ≤ kvs.length + 1 := by
  unfold putK
  split
  · rw [List.length_map]; omega
  · rw [List.length_append, List.length_cons, List.length_nil]; omega
theorem putK_new {kvs : List (κ × V)} {k : κ} (v : V) (h : valV kvs k = none) : putK kvs k v = kvs ++ [(k, v)] := by
  unfold putK
  rw [valV_any, h]
  exact if_neg (by decide)
theorem RelO.isSome_eq {o : Option V} {u : Option Value} (r : RelO o u) : o.isSome = u.isSome := by
  cases o with
  | none => cases u with
    | none => rfl
    | some _ => exact (show False from r).elim
  | some _ => cases u with
    | none => exact (show False from r).elim
    | some _ => rfl
theorem RelO.getD {o : Option V} {u : Option Value} {d : V} {d' : Value} (r : RelO o u) (rd : RelV d d') : RelV (o.getD d) (u.getD d') := by
  cases o with
  | none => cases u with
    | none => exact rd
    | some _ => exact (show False from r).elim
  | some _ => cases u with
    | none => exact (show False from r).elim
    | some _ => exact r
theorem KV.val {kvs : List (κ × V)} {vs : List (κ × Value)} (r : KV kvs vs) (k : κ) : RelO (valV kvs k) (valueAt vs k) := by
  unfold KV at r
  induction r with
  | nil => exact True.intro
  | @cons p q ps qs h t ih =>
    obtain ⟨h1, h2⟩ := h
    by_cases e : p.1 = k
    · have e' : q.1 = k := h1.symm.trans e
      have b : valueAt (q :: qs) k = some q.2 := by simp [valueAt, List.find?_cons, e']
      rw [valV_pos e, b]; exact h2
    · have e' : ¬ q.1 = k := fun z => e (h1.trans z)
      have b : valueAt (q :: qs) k = valueAt qs k := by simp [valueAt, List.find?_cons, e']
      rw [valV_neg e, b]; exact ih
theorem KV.any {kvs : List (κ × V)} {vs : List (κ × Value)} (r : KV kvs vs) (k : κ) : (kvs.any fun kv => decide (kv.1 = k)) = vs.any fun kv => decide (kv.1 = k) := by
  unfold KV at r
  induction r with
  | nil => rfl
  | cons h t ih => rw [List.any_cons, List.any_cons, ih, h.1]
theorem KV.repl {kvs : List (κ × V)} {vs : List (κ × Value)} (r : KV kvs vs) (k : κ) {y : V} {u : Value} (ry : RelV y u) :
    KV (kvs.map fun kv => if kv.1 = k then (kv.1, y) else kv) (vs.map fun kv => if kv.1 = k then (kv.1, u) else kv) := by
  unfold KV at r ⊢
  induction r with
  | nil => exact .nil
  | @cons p q ps qs h t ih =>
    rw [List.map_cons, List.map_cons]
    refine .cons ?_ ih
    obtain ⟨h1, h2⟩ := h
    by_cases e : p.1 = k
    · rw [if_pos e, if_pos (h1.symm.trans e)]; exact ⟨h1, ry⟩
    · rw [if_neg e, if_neg (fun z => e (h1.trans z))]; exact ⟨h1, h2⟩
theorem KV.put {kvs : List (κ × V)} {vs : List (κ × Value)} (r : KV kvs vs) (k : κ) {y : V} {u : Value} (ry : RelV y u) : KV (putK kvs k y) (stored vs k u) := by
  unfold putK stored
  rw [r.any k]
  by_cases e : (vs.any fun kv => decide (kv.1 = k)) = true
  · rw [if_pos e, if_pos e]; exact r.repl k ry
  · rw [if_neg e, if_neg e]; exact Paired.snoc r ⟨rfl, ry⟩
theorem KV.drop {kvs : List (κ × V)} {vs : List (κ × Value)} (r : KV kvs vs) (k : κ) : KV (dropK kvs k) (without vs k) := by
  unfold KV at r ⊢
  unfold dropK without
  induction r with
  | nil => exact .nil
  | @cons p q ps qs h t ih =>
    obtain ⟨h1, h2⟩ := h
    rw [List.filter_cons, List.filter_cons]
    by_cases e : p.1 = k
    · have a : ¬ decide (p.1 ≠ k) = true := by simp [e]
      have b : ¬ decide (q.1 ≠ k) = true := by simp [h1.symm.trans e]
      rw [if_neg a, if_neg b]; exact ih
    · have e' : ¬ q.1 = k := fun z => e (h1.trans z)
      have a : decide (p.1 ≠ k) = true := by simp [e]
      have b : decide (q.1 ≠ k) = true := by simp [e']
      rw [if_pos a, if_pos b]; exact .cons ⟨h1, h2⟩ ih
theorem KV.keys {kvs : List (κ × V)} {vs : List (κ × Value)} (r : KV kvs vs) : kvs.map (·.1) = vs.map (·.1) := by
  unfold KV at r
  induction r with
  | nil => rfl
  | cons h t ih => rw [List.map_cons, List.map_cons, ih, h.1]
theorem KV.length {kvs : List (κ × V)} {vs : List (κ × Value)} (r : KV kvs vs) : kvs.length = vs.length := Paired.length r
theorem dropK_le (kvs : List (κ × V)) (k : κ) : (dropK kvs k).length ≤ kvs.length := List.length_filter_le _ _
end
theorem kV_is {P : Program} {w : World} {k : Key} {u : Value} (r : RelV (kV k) u) : (mixKind P w).is k u = true := by
  cases k with
  | inl i => obtain ⟨t, e⟩ := (show ∃ t, u = Value.int i t from r); subst e; exact mixKind_int P w i t
  | inr x => obtain ⟨t, e⟩ := (show ∃ t, u = Value.str x t from r); subst e; exact mixKind_str P w x t
theorem items_are {P : Program} {w : World} : ∀ {ks : List Key} {us : List Value}, Vals (ks.map kV) us → ItemsAre (mixKind P w) ks us
  | [], _, r => by rw [List.map_nil] at r; cases r; exact .nil
  | k :: ks, _, r => by
    rw [List.map_cons] at r
    cases r with
    | cons h t => exact .cons (kV_is h) (items_are t)
abbrev KT (H : Hp) : List (List Key × V) → List (List Key × Addr × Value) → Prop := Paired fun p q => p.1 = q.1 ∧ H q.2.1 = some (.tup (p.1.map kV)) ∧ RelV p.2 q.2.2
theorem KT.val {H : Hp} {kvs : List (List Key × V)} {xs : List (List Key × Addr × Value)} (r : KT H kvs xs) (k : List Key) : RelO (valV kvs k) ((atKey xs k).map (·.2)) := by
  induction r with
  | nil => exact True.intro
  | @cons p q ps qs h t ih =>
    obtain ⟨h1, _, h2⟩ := h
    by_cases e : p.1 = k
    · have e' : q.1 = k := h1.symm.trans e
      have b : atKey (q :: qs) k = some q.2 := by simp [atKey, List.find?_cons, e']
      rw [valV_pos e, b]; exact h2
    · have e' : ¬ q.1 = k := fun z => e (h1.trans z)
      have b : atKey (q :: qs) k = atKey qs k := by simp [atKey, List.find?_cons, e']
      rw [valV_neg e, b]; exact ih
theorem KT.repl {H : Hp} {kvs : List (List Key × V)} {xs : List (List Key × Addr × Value)} (r : KT H kvs xs) (k : List Key) {y : V} {u : Value} (ry : RelV y u) :
    KT H (kvs.map fun kv => if kv.1 = k then (kv.1, y) else kv) (xs.map (putAt k u)) := by
  induction r with
  | nil => exact .nil
  | @cons p q ps qs h t ih =>
    rw [List.map_cons, List.map_cons]
    refine .cons ?_ ih
    obtain ⟨h1, h2, h3⟩ := h
    unfold putAt
    by_cases e : p.1 = k
    · rw [if_pos e, if_pos (h1.symm.trans e)]; exact ⟨h1, h2, ry⟩
    · rw [if_neg e, if_neg (fun z => e (h1.trans z))]; exact ⟨h1, h2, h3⟩
theorem KT.put {H : Hp} {kvs : List (List Key × V)} {xs : List (List Key × Addr × Value)} (r : KT H kvs xs) (k : List Key) {b : Addr} {y : V} {u : Value} (hb : H b = some (.tup (k.map kV))) (ry : RelV y u) :
    KT H (putK kvs k y) (storedH xs k b u) := by
  have e : (kvs.any fun kv => decide (kv.1 = k)) = (atKey xs k).isSome := by
    rw [valV_any, (r.val k).isSome_eq, Option.isSome_map]
  unfold putK storedH
  rw [e]
  by_cases q : (atKey xs k).isSome = true
  · rw [if_pos q, if_pos q]; exact r.repl k ry
  · rw [if_neg q, if_neg q]; exact Paired.snoc r ⟨rfl, hb, ry⟩
theorem KT.keeps {H H' : Hp} {kvs : List (List Key × V)} {xs : List (List Key × Addr × Value)} (r : KT H kvs xs) (ht : ∀ b ys, H b = some (.tup ys) → H' b = some (.tup ys)) : KT H' kvs xs :=
  Paired.mapP r fun _ _ z => ⟨z.1, ht _ _ z.2.1, z.2.2⟩
section
variable {P : Program} {w : World} {H : Hp} {h : Heap} {a : Addr}
theorem rd_of {u : HO} (ok : HOk P w H h) (e : Rd H a u) : ObjOk P w H h a u := e.ok ok
theorem dk_rd {kvs : List (Key × V)} (ok : HOk P w H h) (e : Rd H a (.dK kvs)) : kvs.length ≤ sizeLine ∧ (a == sysModules) = false ∧ ∃ vs, KV kvs vs ∧ h.DictOf (mixKind P w) a vs :=
  show ObjOk P w H h a (.dK kvs) from rd_of ok e
theorem dk_of {kvs : List (Key × V)} (ok : HOk P w H h) (e : H a = some (.dK kvs)) : kvs.length ≤ sizeLine ∧ (a == sysModules) = false ∧ ∃ vs, KV kvs vs ∧ h.DictOf (mixKind P w) a vs := dk_rd ok (.inl e)
theorem key_of {ks : List Key} (ok : HOk P w H h) (e : H a = some (.tup (ks.map kV))) : (tupleKind (mixKind P w)).is h ks a := by
  obtain ⟨_, its, r, o, h1, h2, n, h3⟩ := (show ObjOk P w H h a (.tup (ks.map kV)) from ok a _ e)
  exact ⟨o, its.toArray, n, h1, h2, h3, by simpa using items_are r⟩
theorem dt_rd {kvs : List (List Key × V)} (ok : HOk P w H h) (e : Rd H a (.dT kvs)) : kvs.length ≤ sizeLine ∧ (a == sysModules) = false ∧
    ∃ xs, KT H kvs xs ∧ h.DictOfH (tupleKind (mixKind P w)) a xs := by
  obtain ⟨z, y, xs, r, o, es, ep, h1, h2, h3, h4, h5⟩ := (show ObjOk P w H h a (.dT kvs) from rd_of ok e)
  refine ⟨z, y, xs, r, o, es, ep, h1, h2, h3, h4, fun x hx => ?_, h5⟩
  have all : ∀ {l : List (List Key × V)} {m : List (List Key × Addr × Value)}, KT H l m → ∀ x ∈ m, (tupleKind (mixKind P w)).is h x.1 x.2.1 := by
    intro l m q
    induction q with
    | nil => intro x hx; exact nomatch hx
    | @cons p q ps qs hq t ih =>
      intro x hx
      rcases List.mem_cons.mp hx with e | hx
      · subst e
        exact key_of ok (by rw [← hq.1]; exact hq.2.1)
      · exact ih x hx
  exact all r x hx
theorem dt_of {kvs : List (List Key × V)} (ok : HOk P w H h) (e : H a = some (.dT kvs)) : kvs.length ≤ sizeLine ∧ (a == sysModules) = false ∧
    ∃ xs, KT H kvs xs ∧ h.DictOfH (tupleKind (mixKind P w)) a xs := dt_rd ok (.inl e)
end
def DGet (H : Hp) (a : Addr) (y : V) (r : Option V) : Prop :=
  (∃ kvs k, Rd H a (.dK kvs) ∧ y = kV k ∧ r = valV kvs k) ∨ ∃ kvs k b, Rd H a (.dT kvs) ∧ y = .ref b ∧ H b = some (.tup (k.map kV)) ∧ r = valV kvs k
def DPut (H : Hp) (a : Addr) (y v : V) (H' : Hp) : Prop :=
  (∃ kvs k, H a = some (.dK kvs) ∧ y = kV k ∧ kvs.length < sizeLine ∧ H' = upd H a (.dK (putK kvs k v))) ∨
  ∃ kvs k b, H a = some (.dT kvs) ∧ y = .ref b ∧ H b = some (.tup (k.map kV)) ∧ kvs.length < sizeLine ∧ H' = upd H a (.dT (putK kvs k v))
theorem DGet.k {H : Hp} {a : Addr} {kvs : List (Key × V)} {k : Key} (e : H a = some (.dK kvs)) : DGet H a (kV k) (valV kvs k) := .inl ⟨kvs, k, .inl e, rfl, rfl⟩
theorem DGet.t {H : Hp} {a b : Addr} {kvs : List (List Key × V)} {k : List Key} (e : H a = some (.dT kvs)) (eb : H b = some (.tup (k.map kV))) : DGet H a (.ref b) (valV kvs k) := .inr ⟨kvs, k, b, .inl e, rfl, eb, rfl⟩
theorem DPut.k {H : Hp} {a : Addr} {kvs : List (Key × V)} {k : Key} {v : V} (e : H a = some (.dK kvs)) (hl : kvs.length < sizeLine) : DPut H a (kV k) v (upd H a (.dK (putK kvs k v))) := .inl ⟨kvs, k, e, rfl, hl, rfl⟩
theorem DPut.t {H : Hp} {a b : Addr} {kvs : List (List Key × V)} {k : List Key} {v : V} (e : H a = some (.dT kvs)) (eb : H b = some (.tup (k.map kV))) (hl : kvs.length < sizeLine) :
    DPut H a (.ref b) v (upd H a (.dT (putK kvs k v))) := .inr ⟨kvs, k, b, e, rfl, eb, hl, rfl⟩
section
variable {X : Cx} {pins : List (Addr × Obj)} {σ : St} {H : Hp} {s : Shared} {a : Addr} {y v : V} {u r : Value} {o : Option V} {A : Around} {E : Value → Shared → Prop}
theorem Inv.big (I : Inv X pins σ H s) : sysModules < s.heap.objs.size := by
  have h : mainGlobals < s.heap.objs.size := (I.mod.glob.keeps I.bk).lt
  exact Nat.lt_trans (by decide) h
theorem d_getItem {Q : Value → Shared → Prop} (hu : A.units + 1 < cLine) (I : Inv X pins σ H s) (g : DGet H a y (some v)) (ry : RelV y u) (h : ∀ w' s', Inv X pins σ H s' → RelV v w' → Q w' s') :
    wpAny (model X.prog X.w) A (getItem (.ref a) u) Q E s := by
  rcases g with ⟨kvs, k, e, ey, l⟩ | ⟨kvs, k, b, e, ey, eb, l⟩
  · subst ey
    obtain ⟨z, hd, vs, rel, dd⟩ := dk_rd I.hok e
    obtain ⟨w', hw, rw'⟩ := RelO.some_of (v := v) (o := valueAt vs k) (by rw [l]; exact rel.val k)
    exact wpAny_getItem_of (kV_is ry) dd.mapOf hw (h w' _ (I.tok _) rw')
  · subst ey
    cases (show u = Value.ref b from ry)
    obtain ⟨z, hd, xs, rel, dd⟩ := dt_rd I.hok e
    obtain ⟨w', hw, rw'⟩ := RelO.some_of (v := v) (o := (atKey xs k).map (·.2)) (by rw [l]; exact rel.val k)
    obtain ⟨p, hp, hp2⟩ := Option.map_eq_some_iff.mp hw
    refine wpAny_getItem_heap (tupleKind_room_in1 hu) (key_of I.hok eb) dd hp ?_
    rw [hp2]
    exact h w' _ (I.tok _) rw'
theorem d_in {Q : Value → Shared → Prop} (hu : A.units + 1 < cLine) (I : Inv X pins σ H s) (g : DGet H a y o) (ry : RelV y u) (h : ∀ s', Inv X pins σ H s' → Q (.bool o.isSome) s') :
    wpAny (model X.prog X.w) A (compareOp .In u (.ref a)) Q E s := by
  rcases g with ⟨kvs, k, e, ey, l⟩ | ⟨kvs, k, b, e, ey, eb, l⟩
  · subst ey
    obtain ⟨z, hd, vs, rel, dd⟩ := dk_rd I.hok e
    refine wpAny_in_of (kV_is ry) hd dd.mapOf ?_
    rw [← (rel.val k).isSome_eq, ← l]
    exact h _ (I.tok _)
  · subst ey
    cases (show u = Value.ref b from ry)
    obtain ⟨z, hd, xs, rel, dd⟩ := dt_rd I.hok e
    refine wpAny_in_heap (tupleKind_room_in1 hu) (key_of I.hok eb) hd dd ?_
    have q := (rel.val k).isSome_eq
    rw [Option.isSome_map] at q
    rw [← q, ← l]
    exact h _ (I.tok _)
theorem d_notIn {Q : Value → Shared → Prop} (hu : A.units + 1 < cLine) (I : Inv X pins σ H s) (g : DGet H a y o) (ry : RelV y u) (h : ∀ s', Inv X pins σ H s' → Q (.bool (!o.isSome)) s') :
    wpAny (model X.prog X.w) A (compareOp .NotIn u (.ref a)) Q E s := by
  rcases g with ⟨kvs, k, e, ey, l⟩ | ⟨kvs, k, b, e, ey, eb, l⟩
  · subst ey
    obtain ⟨z, hd, vs, rel, dd⟩ := dk_rd I.hok e
    refine wpAny_notIn_of (kV_is ry) hd dd.mapOf ?_
    rw [← (rel.val k).isSome_eq, ← l]
    exact h _ (I.tok _)
  · subst ey
    cases (show u = Value.ref b from ry)
    obtain ⟨z, hd, xs, rel, dd⟩ := dt_rd I.hok e
    refine wpAny_notIn_heap (tupleKind_room_in1 hu) (key_of I.hok eb) hd dd ?_
    have q := (rel.val k).isSome_eq
    rw [Option.isSome_map] at q
    rw [← q, ← l]
    exact h _ (I.tok _)
theorem d_write {h' : Heap} {t' : Nat} {ob : HO} (I : Inv X pins σ H s) (mu : Mut (H a)) (hs : Heap.SameBut a s.heap h') (he : ∃ q, h'.get? a = some q) (new : ObjOk X.prog X.w (upd H a ob) h' a ob) :
    Inv X pins σ (upd H a ob) { s with heap := h', toks := t' } :=
  I.write (x := a) (e := a) mu (.inl rfl) (fun b q hb z => (hs.2 b hb).trans z) he new
theorem dk_new {P : Program} {w : World} {H' : Hp} {h' : Heap} {kvs : List (Key × V)} {vs : List (Key × Value)} (z : kvs.length ≤ sizeLine) (hd : (a == sysModules) = false) (rel : KV kvs vs) (dd : h'.DictOf (mixKind P w) a vs) :
    ObjOk P w H' h' a (.dK kvs) := ⟨z, hd, vs, rel, dd⟩
theorem d_setItem {H' : Hp} {Q : Unit → Shared → Prop} (hu : A.units + 1 < cLine) (I : Inv X pins σ H s) (g : DPut H a y v H') (ry : RelV y u) (rv : RelV v r) (h : ∀ s', Inv X pins σ H' s' → Q () s') :
    wpAny (model X.prog X.w) A (setItem (.ref a) u r) Q E s := by
  rcases g with ⟨kvs, k, e, ey, l, eH⟩ | ⟨kvs, k, b, e, ey, eb, l, eH⟩
  · subst ey eH
    obtain ⟨z, hd, vs, rel, dd⟩ := dk_of I.hok e
    have hz : vs.length ≤ sizeLine := by rw [← rel.length]; exact z
    have hl : (putK kvs k v).length ≤ sizeLine := by have := length_putK kvs k v; omega
    refine wpAny_setItem_pairs (hsz := hz) (kV_is ry) dd fun h' dd' hs => h _ ?_
    have he : ∃ q, h'.get? a = some q := let ⟨q, _, _, hq, _⟩ := dd'; ⟨q, hq⟩
    exact d_write I (by rw [e]; exact True.intro) hs he (dk_new hl hd (rel.put k rv) dd')
  · subst ey eH
    cases (show u = Value.ref b from ry)
    obtain ⟨z, hd, xs, rel, dd⟩ := dt_of I.hok e
    have hz : xs.length ≤ sizeLine := by rw [← Paired.length rel]; exact z
    have hl : (putK kvs k v).length ≤ sizeLine := by have := length_putK kvs k v; omega
    refine wpAny_setItem_heap (hsz := hz) (tupleKind_room_in1 hu) (key_of I.hok eb) dd fun h' dd' hs => h _ ?_
    obtain ⟨q, es, ep, hq, h2, h3, h4, _, h5⟩ := dd'
    refine d_write I (by rw [e]; exact True.intro) hs ⟨q, hq⟩ ⟨hl, hd, _, (rel.put k eb rv).keeps fun c ys ec => ?_, q, es, ep, hq, h2, h3, h4, h5⟩
    rw [upd_ne (ne_of ec e (fun z => nomatch z))]
    exact ec
end
section
variable {X : Cx} {pins : List (Addr × Obj)} {σ : St} {H : Hp} {s : Shared} {a : Addr} {kvs : List (Key × V)} {k : Key} {u : Value} {A : Around} {E : Value → Shared → Prop}
theorem d_pop {v : V} {more : List Value} {Q : Value → Shared → Prop} (I : Inv X pins σ H s) (e : H a = some (.dK kvs)) (ry : RelV (kV k) u) (l : valV kvs k = some v) (hm : more = [] ∨ ∃ x, more = [x])
    (h : ∀ w' s', Inv X pins σ (upd H a (.dK (dropK kvs k))) s' → RelV v w' → Q w' s') : wpAny (model X.prog X.w) A (call (.builtin "dict.pop") (.ref a :: u :: more)) Q E s := by
  obtain ⟨z, hd, vs, rel, dd⟩ := dk_of I.hok e
  obtain ⟨w', hw, rw'⟩ := RelO.some_of (v := v) (o := valueAt vs k) (by rw [← l]; exact rel.val k)
  have hp : (keyPart u).isSome = true := by
    cases k with
    | inl i => obtain ⟨t, q⟩ := (show ∃ t, u = Value.int i t from ry); subst q; rfl
    | inr x => obtain ⟨t, q⟩ := (show ∃ t, u = Value.str x t from ry); subst q; rfl
  have ha : argsOk "dict.pop" ⟨.ref a :: u :: more, []⟩ := by
    rcases hm with q | ⟨x, q⟩
    · subst q; exact PySem.F.args_dict_pop_2 _ _
    · subst q; exact PySem.F.args_dict_pop_3 _ _ _
  refine call_meetsIn PySem.F.slot_dict_pop dd.typeIs PySem.F.entry_dict_pop ha (meets_dict_pop_there (mixKind X.prog X.w) a (kV_is ry) more hm hp)
    ⟨vs, w', dd, by rw [← rel.length]; exact z, hw, fun h' dd' hs => h w' _ ?_ rw'⟩
  have he : ∃ q, h'.get? a = some q := let ⟨q, _, _, hq, _⟩ := dd'; ⟨q, hq⟩
  exact d_write I (by rw [e]; exact True.intro) hs he (dk_new (Nat.le_trans (dropK_le kvs k) z) hd (rel.drop k) dd')
theorem d_popD {r : Value} {Q : Value → Shared → Prop} (I : Inv X pins σ H s) (e : H a = some (.dK kvs)) (ry : RelV (kV k) u) (l : valV kvs k = none) (h : ∀ s', Inv X pins σ H s' → Q r s') :
    wpAny (model X.prog X.w) A (call (.builtin "dict.pop") [.ref a, u, r]) Q E s := by
  obtain ⟨z, hd, vs, rel, dd⟩ := dk_of I.hok e
  have hn : valueAt vs k = none := RelO.none_of (by rw [← l]; exact rel.val k)
  have hp : (keyPart u).isSome = true := by
    cases k with
    | inl i => obtain ⟨t, q⟩ := (show ∃ t, u = Value.int i t from ry); subst q; rfl
    | inr x => obtain ⟨t, q⟩ := (show ∃ t, u = Value.str x t from ry); subst q; rfl
  exact call_meetsIn PySem.F.slot_dict_pop dd.typeIs PySem.F.entry_dict_pop (PySem.F.args_dict_pop_3 _ _ _) (meets_dict_pop_default (mixKind X.prog X.w) a (kV_is ry) hd hp r) ⟨vs, dd, hn, h _ (I.tok _)⟩
end
def NoSl (i : Expr) : Prop := ∀ ov iv, subscripted i false ov iv = operate [ov, iv] (getItem ov iv)
theorem subD_of {prog : Program} {w : World} {A : Around} {E : Value → Shared → Prop} {s : Shared} {env : Env} {value slice : Expr} {pos : Pos} {T id : String} {Q : Value → Shared → Prop}
    (hl : typeLookup (.type T) "__getitem__" = pure (some (.builtin id))) (hs : NoSl slice)
    (h : wpAny (model prog w) A (eval value env) (fun o s₁ => wpAny (model prog w) A (eval slice env) (fun i s₂ => s₂.TypeIs o T ∧ wpAny (model prog w) A (getItem o i) Q E s₂) E s₁) E s) :
    wpAny (model prog w) A (eval (.Subscript value slice pos) env) Q E s := by
  refine Subscript_ (wpAny_mono h (fun o s₁ h₁ => wpAny_mono h₁ (fun i s₂ h₂ => ?_) fun _ _ x => x) fun _ _ x => x)
  obtain ⟨hT, h₂⟩ := h₂
  unfold subscriptTail
  refine wpAny_bind ?_
  rw [getitemInPython_of_ne hT.not_modules]
  refine wpAny_bind (wpAny_specialOf hT hl ?_)
  have fin : wpAny (model prog w) A (subscripted slice false o i) (fun r s₃ => wpAny (model prog w) A (letTemporaryGo value o r >>= fun _ => pure r) Q E s₃) E s₂ := by
    rw [hs o i]
    exact wpAny_operating (wpAny_mono h₂ (fun r s₃ h₃ => wpAny_bind (wpAny_letTemporaryGo (wpAny_pure h₃))) fun _ _ x => x)
  first
    | exact wpAny_pure (wpAny_bind fin)
    | exact wpAny_bind (wpAny_pure (wpAny_bind fin))
    | exact wpAny_bind fin
theorem dict_typeIs {X : Cx} {pins : List (Addr × Obj)} {σ : St} {H : Hp} {s : Shared} {a : Addr} {y : V} {o : Option V} (I : Inv X pins σ H s) (g : DGet H a y o) : s.TypeIs (.ref a) "dict" := by
  rcases g with ⟨kvs, k, e, _, _⟩ | ⟨kvs, k, b, e, _, _, _⟩
  · obtain ⟨_, _, vs, _, dd⟩ := dk_rd I.hok e
    exact dd.typeIs
  · obtain ⟨_, _, xs, _, dd⟩ := dt_rd I.hok e
    exact dd.typeIs
def tDGet (td ty : TE) : TE := fun σ H Q => td σ H fun x H1 => ty σ H1 fun y H2 => ∃ a v, x = .ref a ∧ DGet H2 a y (some v) ∧ Q v H2
def tDIn (ty td : TE) : TE := fun σ H Q => ty σ H fun y H1 => td σ H1 fun x H2 => ∃ a o, x = .ref a ∧ DGet H2 a y o ∧ Q (.bl o.isSome) H2
def tDNotIn (ty td : TE) : TE := fun σ H Q => ty σ H fun y H1 => td σ H1 fun x H2 => ∃ a o, x = .ref a ∧ DGet H2 a y o ∧ Q (.bl (!o.isSome)) H2
def sDPut (td ty tv : TE) : TS := fun D σ H => tv σ H fun v H1 => td σ H1 fun x H2 => ty σ H2 fun y H3 => ∃ a H4, x = .ref a ∧ DPut H3 a y v H4 ∧ D.nx σ H4
section
variable {X : Cx} {o i e value : Expr} {pos pos' tpos : Pos} {td ty tv : TE}
theorem pe_dget (hu : X.A.units + 1 < cLine) (ho : PE X o td) (hi : PE X i ty) (hs : NoSl i) : PE X (.Subscript o i pos) (tDGet td ty) := by
  intro pins s σ H Q I h
  refine subD_of PySem.F.slot_dict_getitem.lookup hs (thn (ho pins s σ H _ I h) fun u s1 ⟨x, H1, I1, rx, q1⟩ => thn (hi pins s1 σ H1 _ I1 q1) fun iv s2 ⟨y, H2, I2, ry, a, v, ex, g, q2⟩ => ?_)
  subst ex
  obtain rfl : u = Value.ref a := rx
  exact ⟨dict_typeIs I2 g, d_getItem hu I2 g ry fun w' s3 I3 rw' => ⟨v, H2, I3, rw', q2⟩⟩
theorem pc_din (hu : X.A.units + 1 < cLine) (hi : PE X i ty) (ho : PE X o td) : PC X .In i o (tDIn ty td) := by
  intro pins s σ H Q I h
  refine thn (hi pins s σ H _ I h) fun iv s1 ⟨y, H1, I1, ry, q1⟩ => thn (ho pins s1 σ H1 _ I1 q1) fun u s2 ⟨x, H2, I2, rx, a, ov, ex, g, q2⟩ => ?_
  subst ex
  obtain rfl : u = Value.ref a := rx
  exact d_in hu I2 g ry fun s3 I3 => ⟨.bl ov.isSome, H2, I3, rfl, q2⟩
theorem pc_dnotin (hu : X.A.units + 1 < cLine) (hi : PE X i ty) (ho : PE X o td) : PC X .NotIn i o (tDNotIn ty td) := by
  intro pins s σ H Q I h
  refine thn (hi pins s σ H _ I h) fun iv s1 ⟨y, H1, I1, ry, q1⟩ => thn (ho pins s1 σ H1 _ I1 q1) fun u s2 ⟨x, H2, I2, rx, a, ov, ex, g, q2⟩ => ?_
  subst ex
  obtain rfl : u = Value.ref a := rx
  exact d_notIn hu I2 g ry fun s3 I3 => ⟨.bl (!ov.isSome), H2, I3, rfl, q2⟩
theorem ps_dput (hu : X.A.units + 1 < cLine) (ho : PE X o td) (hi : PE X i ty) (hv : PE X value tv) (hs : swapsWith value (some (.Subscript o i pos')) pos.line X.env = pure false) :
    PS X (.Assign [.Subscript o i pos'] value pos) (sDPut td ty tv) := by
  intro pins s σ H D I h
  refine wpAny_Assign_Subscript (thn (hv pins s σ H _ I h) fun r s1 ⟨v, H1, I1, rv, q1⟩ => thn (ho pins s1 σ H1 _ I1 q1) fun u s2 ⟨x, H2, I2, rx, q2⟩ => thn (hi pins s2 σ H2 _ I2 q2) fun iv s3 ⟨y, H3, I3, ry, a, H4, ex, g, q3⟩ => ?_) hs
  subst ex
  obtain rfl : u = Value.ref a := rx
  exact d_setItem hu I3 g ry rv fun s4 I4 => ⟨σ, H4, I4, q3⟩
end
theorem dk_empty {P : Program} {w : World} {H : Hp} (h : Heap) (hb : sysModules < h.objs.size) : ObjOk P w H (h.push { cls := .type "dict", data := .dict #[] }) h.objs.size (.dK []) :=
  ⟨Nat.zero_le _, beq_eq_false_iff_ne.mpr (Ne.symm (Nat.ne_of_lt hb)), [], .nil, Heap.DictOf.new h⟩
def tDNewK : TE := fun _ H Q => ∀ p, H p = none → Q (.ref p) (upd H p (.dK []))
section
variable {X : Cx} {pos : Pos}
theorem pe_dnewK : PE X (.Dict [] [] pos) tDNewK := fun pins s σ H Q I h =>
  wpAny_Dict_empty ⟨.ref s.heap.objs.size, _, I.laid (a := s.heap.objs.size) (o := .dK []) (t' := s.toks) (fun _ _ q => Heap.get?_push_of_some _ q) (Nat.le_refl _) (dk_empty s.heap I.big), rfl, h _ (I.hok.fresh (Nat.le_refl _))⟩
end
def tPairs : List (TE × TE) → St → Hp → (List (V × V) → Hp → Prop) → Prop
  | [], _, H, Q => Q [] H
  | (tk, tv) :: r, σ, H, Q => tk σ H fun x H1 => tv σ H1 fun y H2 => tPairs r σ H2 fun ps H3 => Q ((x, y) :: ps) H3
abbrev VV : List (V × V) → List (Value × Value) → Prop := Paired fun p q => RelV p.1 q.1 ∧ RelV p.2 q.2
def PPs (X : Cx) (pos : Pos) (keys : List (Option Expr)) (values : List Expr) (trs : List (TE × TE)) : Prop :=
  ∀ (pins : List (Addr × Obj)) (s : Shared) (σ : St) (H : Hp) (Q : List (V × V) → Hp → Prop), Inv X pins σ H s → tPairs trs σ H Q →
    wpAny (model X.prog X.w) X.A (evalPairs (pairTrees keys values X.env pos)) (fun vs s' => ∃ ps H', Inv X pins σ H' s' ∧ VV ps vs ∧ Q ps H') X.xe s
theorem pps_nil {X : Cx} {pos : Pos} : PPs X pos [] [] [] := fun pins s σ H Q I h => pairTrees_nil_walk ⟨[], H, I, .nil, h⟩
theorem pps_cons {X : Cx} {pos : Pos} {k v : Expr} {ks : List (Option Expr)} {vs : List Expr} {tk tv : TE} {trs : List (TE × TE)} (hk : PE X k tk) (hv : PE X v tv) (hr : PPs X pos ks vs trs) :
    PPs X pos (some k :: ks) (v :: vs) ((tk, tv) :: trs) := fun pins s σ H Q I h =>
  pairTrees_cons_walk (thn (hk pins s σ H _ I h) fun u s1 ⟨x, H1, I1, rx, q1⟩ => thn (hv pins s1 σ H1 _ I1 q1) fun w2 s2 ⟨y, H2, I2, ry, q2⟩ =>
    thn (hr pins s2 σ H2 _ I2 q2) fun ws s3 ⟨ps, H3, I3, rel, q3⟩ => ⟨(x, y) :: ps, H3, I3, .cons ⟨rx, ry⟩ rel, q3⟩)
def mergeK (kvs more : List (Key × V)) : List (Key × V) := more.foldl (fun acc kv => putK acc kv.1 kv.2) kvs
theorem KV.merge : ∀ {more : List (Key × V)} {rs : List (Key × Value)} {kvs : List (Key × V)} {vs : List (Key × Value)}, KV more rs → KV kvs vs → KV (mergeK kvs more) (merged vs rs) := by
  intro more rs kvs vs r
  unfold KV at r
  induction r generalizing kvs vs with
  | nil => intro q; exact q
  | @cons p q ps qs h t ih =>
    intro r0
    have e : KV (putK kvs p.1 p.2) (stored vs q.1 q.2) := by
      have := r0.put p.1 h.2
      rw [← h.1]; exact this
    exact ih e
theorem length_mergeK : ∀ (more kvs : List (Key × V)), (mergeK kvs more).length ≤ kvs.length + more.length
  | [], kvs => by show kvs.length ≤ kvs.length + 0; omega
  | p :: r, kvs => by
    have h1 := length_mergeK r (putK kvs p.1 p.2)
    have h2 := length_putK kvs p.1 p.2
    show (mergeK (putK kvs p.1 p.2) r).length ≤ _
    rw [List.length_cons]; omega
theorem carries_of {P : Program} {w : World} : ∀ {kvs : List (Key × V)} {ws : List (Value × Value)}, VV (kvs.map fun kv => (kV kv.1, kv.2)) ws → ∃ rs, Carries (mixKind P w) ws rs ∧ KV kvs rs
  | [], _, r => by rw [List.map_nil] at r; cases r; exact ⟨[], True.intro, .nil⟩
  | p :: kvs, _, r => by
    rw [List.map_cons] at r
    cases r with
    | @cons a b as bs h t =>
      obtain ⟨rs, c, q⟩ := carries_of (P := P) (w := w) t
      obtain ⟨b1, b2⟩ := b
      exact ⟨(p.1, b2) :: rs, ⟨kV_is h.1, rfl, c⟩, .cons ⟨rfl, h.2⟩ q⟩
def tDisp (trs : List (TE × TE)) : TE := fun σ H Q => ∀ p, H p = none → tPairs trs σ (upd H p (.dK [])) fun ps H2 => H2 p = some (.dK []) ∧ ∃ kvs : List (Key × V), ps = kvs.map (fun kv => (kV kv.1, kv.2)) ∧ kvs.length ≤ 15 ∧ Q (.ref p) (upd H2 p (.dK (mergeK [] kvs)))
theorem pe_disp {X : Cx} {pos : Pos} {keys : List (Option Expr)} {values : List Expr} {trs : List (TE × TE)} (h : PPs X pos keys values trs) (hall : keys.all (·.isSome) = true) (hl : keys.length = values.length) (h0 : keys ≠ [])
    (h15 : keys.length ≤ 15) : PE X (.Dict keys values pos) (tDisp trs) := by
  intro pins s σ H Q I q
  have hn := I.hok.fresh (Nat.le_refl s.heap.objs.size)
  have I1 := I.laid (a := s.heap.objs.size) (o := .dK []) (h' := s.heap.push { cls := .type "dict", data := .dict #[] }) (t' := s.toks) (fun _ _ q => Heap.get?_push_of_some _ q) (Nat.le_refl _) (dk_empty s.heap I.big)
  refine wpAny_Dict_walk (knd := mixKind X.prog X.w) hall hl h0 h15 (thn (h pins _ σ _ _ I1 (q _ hn)) fun ws s2 ⟨ps, H2, I2, rel, e, kvs, ep, lk, q2⟩ => ?_)
  subst ep
  obtain ⟨rs, c, rk⟩ := carries_of (P := X.prog) (w := X.w) rel
  obtain ⟨z, hd, vs0, r0, dd⟩ := dk_of I2.hok e
  cases r0
  refine ⟨rs, c, dd, fun h' dd' hs => ⟨.ref s.heap.objs.size, _, ?_, rfl, q2⟩⟩
  have hz : (mergeK [] kvs).length ≤ sizeLine := by
    have h1 := length_mergeK kvs []
    rw [List.length_nil] at h1
    rw [sizeLine_eq]; omega
  have he : ∃ q, h'.get? s.heap.objs.size = some q := let ⟨q, _, _, hq, _⟩ := dd'; ⟨q, hq⟩
  exact d_write I2 (by rw [e]; exact True.intro) hs he (dk_new hz hd (rk.merge .nil) dd')
structure M1 (X : Cx) (o : Expr) (m : Str) (apos : Pos) (e : Expr) (cpos : Pos) : Prop where
  base : attributeBase o m X.env (eval o X.env) = eval o X.env
  few : ((backTo cpos (starEach [e] X.env)).all (fun x => !x.1) && (backToKw cpos (keywordEach [] X.env)).all (fun x => x.1.isSome)
    && decide (([e] : List Expr).length + ([] : List Keyword).length + (if ([] : List Keyword).isEmpty then 0 else 1) < 30)) = true
  line : (apos.endLine == cpos.line) = true
  trees : backTo cpos (starEach [e] X.env) = [(false, eval e X.env)]
structure M2 (X : Cx) (o : Expr) (m : Str) (apos : Pos) (e f : Expr) (cpos : Pos) : Prop where
  base : attributeBase o m X.env (eval o X.env) = eval o X.env
  few : ((backTo cpos (starEach [e, f] X.env)).all (fun x => !x.1) && (backToKw cpos (keywordEach [] X.env)).all (fun x => x.1.isSome)
    && decide (([e, f] : List Expr).length + ([] : List Keyword).length + (if ([] : List Keyword).isEmpty then 0 else 1) < 30)) = true
  line : (apos.endLine == cpos.line) = true
  trees : backTo cpos (starEach [e, f] X.env) = [(false, eval e X.env), (false, eval f X.env)]
def IsD (H : Hp) (a : Addr) : Prop := (∃ kvs, Rd H a (.dK kvs)) ∨ ∃ kvs, Rd H a (.dT kvs)
theorem isD_at {X : Cx} {pins : List (Addr × Obj)} {σ : St} {H : Hp} {s : Shared} {a : Addr} (I : Inv X pins σ H s) (d : IsD H a) :
    s.TypeIs (.ref a) "dict" ∧ (∀ b, Value.ref a = .ref b → ∃ ob, s.heap.get? b = some ob ∧ ob.dict = none) ∧ (a == sysModules) = false := by
  rcases d with ⟨kvs, e⟩ | ⟨kvs, e⟩
  · obtain ⟨_, hd, vs, _, dd⟩ := dk_rd I.hok e
    refine ⟨dd.typeIs, fun b q => ?_, hd⟩
    cases q
    obtain ⟨ob, _, _, h1, h2, _⟩ := dd
    exact ⟨ob, h1, h2.2.1⟩
  · obtain ⟨_, hd, xs, _, dd⟩ := dt_rd I.hok e
    refine ⟨dd.typeIs, fun b q => ?_, hd⟩
    cases q
    obtain ⟨ob, _, _, h1, h2, _⟩ := dd
    exact ⟨ob, h1, h2.2.1⟩
section
variable {X : Cx} {pins : List (Addr × Obj)} {σ : St} {H : Hp} {s : Shared} {a : Addr} {y d : V} {u r : Value} {o : Option V} {A : Around} {E : Value → Shared → Prop}
theorem d_get1 {Q : Value → Shared → Prop} (hu : A.units + 1 < cLine) (I : Inv X pins σ H s) (g : DGet H a y o) (ry : RelV y u) (h : ∀ w' s', Inv X pins σ H s' → RelV (o.getD .non) w' → Q w' s') :
    wpAny (model X.prog X.w) A (call (.builtin "dict.get") [.ref a, u]) Q E s := by
  rcases g with ⟨kvs, k, e, ey, l⟩ | ⟨kvs, k, b, e, ey, eb, l⟩
  · subst ey
    obtain ⟨z, hd, vs, rel, dd⟩ := dk_rd I.hok e
    refine call_meetsIn PySem.F.slot_dict_get dd.typeIs PySem.F.entry_dict_get (PySem.F.args_dict_get_2 _ _) (meets_dict_get (mixKind X.prog X.w) a (kV_is ry) hd) ⟨_, dd.mapOf, h _ _ (I.tok _) ?_⟩
    rw [l]
    exact (rel.val k).getD rfl
  · subst ey
    cases (show u = Value.ref b from ry)
    obtain ⟨z, hd, xs, rel, dd⟩ := dt_rd I.hok e
    refine call_meetsIn PySem.F.slot_dict_get dd.typeIs PySem.F.entry_dict_get (PySem.F.args_dict_get_2 _ _) (meetsH_dict_get (tupleKind (mixKind X.prog X.w)) a b hd) ⟨tupleKind_room_in1 hu, k, xs, key_of I.hok eb, dd, h _ _ (I.tok _) ?_⟩
    rw [l]
    exact (rel.val k).getD rfl
theorem d_get2 {Q : Value → Shared → Prop} (hu : A.units + 1 < cLine) (I : Inv X pins σ H s) (g : DGet H a y o) (ry : RelV y u) (rd : RelV d r) (h : ∀ w' s', Inv X pins σ H s' → RelV (o.getD d) w' → Q w' s') :
    wpAny (model X.prog X.w) A (call (.builtin "dict.get") [.ref a, u, r]) Q E s := by
  rcases g with ⟨kvs, k, e, ey, l⟩ | ⟨kvs, k, b, e, ey, eb, l⟩
  · subst ey
    obtain ⟨z, hd, vs, rel, dd⟩ := dk_rd I.hok e
    refine call_meetsIn PySem.F.slot_dict_get dd.typeIs PySem.F.entry_dict_get (PySem.F.args_dict_get_3 _ _ _) (meets_dict_get_default (mixKind X.prog X.w) a (kV_is ry) hd r) ⟨_, dd.mapOf, h _ _ (I.tok _) ?_⟩
    rw [l]
    exact (rel.val k).getD rd
  · subst ey
    cases (show u = Value.ref b from ry)
    obtain ⟨z, hd, xs, rel, dd⟩ := dt_rd I.hok e
    refine call_meetsIn PySem.F.slot_dict_get dd.typeIs PySem.F.entry_dict_get (PySem.F.args_dict_get_3 _ _ _) (meetsH_dict_get_default (tupleKind (mixKind X.prog X.w)) a b hd r) ⟨tupleKind_room_in1 hu, k, xs, key_of I.hok eb, dd, h _ _ (I.tok _) ?_⟩
    rw [l]
    exact (rel.val k).getD rd
end
def tDGet1 (td ty : TE) : TE := fun σ H Q => td σ H fun x H1 => ∃ a, x = .ref a ∧ IsD H1 a ∧ ty σ H1 fun y H2 => ∃ o, DGet H2 a y o ∧ Q (o.getD .non) H2
def tDGet2 (td ty tx : TE) : TE := fun σ H Q => td σ H fun x H1 => ∃ a, x = .ref a ∧ IsD H1 a ∧ ty σ H1 fun y H2 => tx σ H2 fun z H3 => ∃ o, DGet H3 a y o ∧ Q (o.getD z) H3
def tDPop1 (td ty : TE) : TE := fun σ H Q => td σ H fun x H1 => ∃ a, x = .ref a ∧ IsD H1 a ∧ ty σ H1 fun y H2 => ∃ kvs k v, H2 a = some (.dK kvs) ∧ y = kV k ∧ valV kvs k = some v ∧ Q v (upd H2 a (.dK (dropK kvs k)))
def tDPop2 (td ty tx : TE) : TE := fun σ H Q => td σ H fun x H1 => ∃ a, x = .ref a ∧ IsD H1 a ∧ ty σ H1 fun y H2 => tx σ H2 fun z H3 => ∃ kvs k, H3 a = some (.dK kvs) ∧ y = kV k ∧
  (∀ v, valV kvs k = some v → Q v (upd H3 a (.dK (dropK kvs k)))) ∧ (valV kvs k = none → Q z H3)
section
variable {X : Cx} {o e f : Expr} {apos cpos : Pos} {td ty tx : TE}
theorem pe_dget1 (hu : X.A.units + 1 < cLine) (ho : PE X o td) (he : PE X e ty) (m : M1 X o "get" apos e cpos) : PE X (.Call (.Attribute o "get" apos) [e] [] cpos) (tDGet1 td ty) := by
  intro pins s σ H Q I h
  refine wpAny_Call_method m.base m.few m.line PySem.F.plainAttrs_dict PySem.F.slot_dict_get PySem.F.type_dict_get (thn (ho pins s σ H _ I h) fun u s1 ⟨x, H1, I1, rx, a, ex, d, q1⟩ => ?_)
  subst ex
  obtain rfl : u = Value.ref a := rx
  obtain ⟨t1, t2, _⟩ := isD_at I1 d
  refine ⟨t1, t2, ?_⟩
  rw [m.trees]
  refine Calls.callWith_builtin rfl (Calls.evalArgs_plain (Calls.spliced_cons (thn (he pins s1 σ H1 _ I1 q1) fun iv s2 ⟨y, H2, I2, ry, ov, g, q2⟩ => Calls.spliced_nil ?_)))
  exact d_get1 hu I2 g ry fun w' s3 I3 rw' => ⟨_, H2, I3, rw', q2⟩
theorem pe_dget2 (hu : X.A.units + 1 < cLine) (ho : PE X o td) (he : PE X e ty) (hf : PE X f tx) (m : M2 X o "get" apos e f cpos) : PE X (.Call (.Attribute o "get" apos) [e, f] [] cpos) (tDGet2 td ty tx) := by
  intro pins s σ H Q I h
  refine wpAny_Call_method m.base m.few m.line PySem.F.plainAttrs_dict PySem.F.slot_dict_get PySem.F.type_dict_get (thn (ho pins s σ H _ I h) fun u s1 ⟨x, H1, I1, rx, a, ex, d, q1⟩ => ?_)
  subst ex
  obtain rfl : u = Value.ref a := rx
  obtain ⟨t1, t2, _⟩ := isD_at I1 d
  refine ⟨t1, t2, ?_⟩
  rw [m.trees]
  refine Calls.callWith_builtin rfl (Calls.evalArgs_plain (Calls.spliced_cons (thn (he pins s1 σ H1 _ I1 q1) fun iv s2 ⟨y, H2, I2, ry, q2⟩ =>
    Calls.spliced_cons (thn (hf pins s2 σ H2 _ I2 q2) fun fv s3 ⟨z, H3, I3, rz, ov, g, q3⟩ => Calls.spliced_nil ?_))))
  exact d_get2 hu I3 g ry rz fun w' s4 I4 rw' => ⟨_, H3, I4, rw', q3⟩
theorem pe_dpop1 (ho : PE X o td) (he : PE X e ty) (m : M1 X o "pop" apos e cpos) : PE X (.Call (.Attribute o "pop" apos) [e] [] cpos) (tDPop1 td ty) := by
  intro pins s σ H Q I h
  refine wpAny_Call_method m.base m.few m.line PySem.F.plainAttrs_dict PySem.F.slot_dict_pop PySem.F.type_dict_pop (thn (ho pins s σ H _ I h) fun u s1 ⟨x, H1, I1, rx, a, ex, d, q1⟩ => ?_)
  subst ex
  obtain rfl : u = Value.ref a := rx
  obtain ⟨t1, t2, _⟩ := isD_at I1 d
  refine ⟨t1, t2, ?_⟩
  rw [m.trees]
  refine Calls.callWith_builtin rfl (Calls.evalArgs_plain (Calls.spliced_cons (thn (he pins s1 σ H1 _ I1 q1) fun iv s2 ⟨y, H2, I2, ry, kvs, k, v, ea, ey, l, q2⟩ => Calls.spliced_nil ?_)))
  subst ey
  exact d_pop I2 ea ry l (.inl rfl) fun w' s3 I3 rw' => ⟨v, _, I3, rw', q2⟩
theorem pe_dpop2 (ho : PE X o td) (he : PE X e ty) (hf : PE X f tx) (m : M2 X o "pop" apos e f cpos) : PE X (.Call (.Attribute o "pop" apos) [e, f] [] cpos) (tDPop2 td ty tx) := by
  intro pins s σ H Q I h
  refine wpAny_Call_method m.base m.few m.line PySem.F.plainAttrs_dict PySem.F.slot_dict_pop PySem.F.type_dict_pop (thn (ho pins s σ H _ I h) fun u s1 ⟨x, H1, I1, rx, a, ex, d, q1⟩ => ?_)
  subst ex
  obtain rfl : u = Value.ref a := rx
  obtain ⟨t1, t2, _⟩ := isD_at I1 d
  refine ⟨t1, t2, ?_⟩
  rw [m.trees]
  refine Calls.callWith_builtin rfl (Calls.evalArgs_plain (Calls.spliced_cons (thn (he pins s1 σ H1 _ I1 q1) fun iv s2 ⟨y, H2, I2, ry, q2⟩ =>
    Calls.spliced_cons (thn (hf pins s2 σ H2 _ I2 q2) fun fv s3 ⟨z, H3, I3, rz, kvs, k, ea, ey, q3, q4⟩ => Calls.spliced_nil ?_))))
  subst ey
  cases l : valV kvs k with
  | some v => exact d_pop I3 ea ry l (.inr ⟨fv, rfl⟩) fun w' s4 I4 rw' => ⟨v, _, I4, rw', q3 v l⟩
  | none => exact d_popD I3 ea ry l fun s4 I4 => ⟨z, H3, I4, rz, q4 l⟩
end
section
variable {X : Cx} {pins : List (Addr × Obj)} {σ : St} {H : Hp} {s : Shared} {a : Addr} {kvs : List (Key × V)} {A : Around} {E : Value → Shared → Prop}
theorem d_copyOf {Q : Value → Shared → Prop} (I : Inv X pins σ H s) (e : Rd H a (.dK kvs)) (h : ∀ p s', H p = none → Inv X pins σ (upd H p (.dK kvs)) s' → Q (.ref p) s') : wpAny (model X.prog X.w) A (call (.type "dict") [.ref a]) Q E s := by
  obtain ⟨z, hd, vs, rel, dd⟩ := dk_rd I.hok e
  refine kt_call_dict hd dd (by rw [← rel.length]; exact z) fun h' dd' hs => ?_
  refine h _ _ (I.hok.fresh (Nat.le_refl _)) (I.laid (a := s.heap.objs.size) (o := .dK kvs) (t' := s.toks) (fun b q hq => ?_) (Nat.le_refl _) (dk_new z (beq_eq_false_iff_ne.mpr (Ne.symm (Nat.ne_of_lt I.big))) rel dd'))
  exact (hs.2 b (Nat.ne_of_lt (Heap.lt_size hq))).trans (Heap.get?_push_of_some _ hq)
end
section
variable {X : Cx} {pins : List (Addr × Obj)} {σ : St} {H : Hp} {s : Shared} {a : Addr} {y : V} {u : Value} {A : Around} {E : Value → Shared → Prop}
end
end L2
namespace Att
open PySem PySem.W PySem.Calls PyProof.Rows
theorem ints_of_wellAll {P : Params} {h : Heap} : ∀ (ns : List Int) (vs : List Value), WellAll P h vs (ns.map WData.int) → IntsAre vs ns := by
  intro ns
  induction ns with
  | nil =>
    intro vs w
    rw [List.map_nil] at w
    cases w
    exact .nil
  | cons n ns ih =>
    intro vs w
    rw [List.map_cons] at w
    cases w with
    | cons a b =>
      cases a
      exact .cons _ _ (ih _ b)
theorem script_of {l : OpenLaw} {n : Nat} (hn : l.most = some n) {P : Params} {h : Heap} {args : List WData} {vals : List Value}
    (hpre : l.row.toRowW.claim.pre args = true) (hwl : WellAll P h vals args) :
    ∃ a vs ns, vals = [Value.ref a] ∧ args = [WData.list (ns.map WData.int)] ∧ h.get? a = some { cls := .type "list", data := .seq vs.toArray } ∧ IntsAre vs ns ∧ ns.length ≤ n := by
  have hsh : WShape.hasAll [] args [.list .int] = true := (pre_splitW hpre).1
  have hc : l.pre.holds [] { args := args } = true := (pre_splitW hpre).2
  obtain ⟨d, r, rfl, h1, h2⟩ := hasAllW_cons hsh
  obtain rfl := hasAllW_nil h2
  obtain ⟨xs, rfl, h3⟩ := hasW_list h1
  obtain ⟨ns, rfl⟩ := items_int h3
  have hlen : ns.length ≤ n := by
    unfold OpenLaw.pre at hc
    have h4 : (WTm.not (.lt (.lit (.int (n : Int))) (.len (.arg 0)))).holds [] { args := [.list (ns.map .int)] } = true := by
      have h4 := (holds_andW hc).1
      rw [hn] at h4
      exact h4
    have h5 := condW_of h4 (w_not (w_lt w_lit (w_len_list (w_arg rfl))))
    rw [List.length_map] at h5
    refine Nat.le_of_not_lt fun q => ?_
    have q' : (n : Int) < ((ns.length : Nat) : Int) := by omega
    first
      | (rw [decide_eq_true q'] at h5; exact absurd h5 (by decide))
      | (simp at h5; omega)
  cases hwl with
  | cons w1 w2 =>
    cases w2
    cases w1 with
    | list ho hall => exact ⟨_, _, ns, rfl, rfl, ho, ints_of_wellAll ns _ hall, hlen⟩
theorem post_true (l : OpenLaw) (args : List WData) : l.row.toRowW.claim.post args (.bool true) args = true :=
  postW_of (r := l.row.toRowW) (X := (true == true))
    (show WShape.has [] (.bool true) .bool = true by first | rfl | decide | simp [WShape.has, WShape.arms, WShape.armsAll])
    (show (WTm.eq .res (.lit (.bool true))).value [] { args := args, res := some (.bool true), after := args } = some (.bool (true == true)) from w_eq_bool (w_res rfl) w_lit) rfl
theorem attach_call {l : OpenLaw} {n : Nat} {q : Program} {loose : List Str} {XP : (Str → Option Value) → Heap → Prop} {YP : World → Heap → Prop} {d : DefRec}
    (hn : l.most = some n) (hdf : d.params.defaults = [])
    (call : ∀ (w : World) (s₀ s₁ : Shared) (mg mb : Str → Option Value) (fa : Addr) (o : Obj) (pm cd doc : Value) (a : Addr) (vs : List Value) (ns : List Int),
      Ground q loose [] XP w s₀ mg mb s₁.heap → YP w s₁.heap →
      s₁.heap.get? fa = some o → o.data = .func (docDef d.name d.params d.body d.scope pm cd doc) → s₁.heap.CodeRec cd d.name → mg d.name = some (.ref fa) →
      s₁.heap.get? a = some { cls := .type "list", data := .seq vs.toArray } → IntsAre vs ns → ns.length ≤ n → s₁.gens = #[] →
      codeAny (model l.prog w) callerA (.call (.ref fa) ⟨[.ref a], []⟩) (fun r s' => r = .ok (.ret (.bool true)) ∧ OldK s₁.heap s'.heap ∧ s'.os = s₁.os ∧ AllBare s'.gens) s₁) :
    WalkO q loose XP YP l.row.toRowW d [] (fun f vs => PySem.call f vs) := by
  intro w s₀ s₁ mg mb G Y fa o pm cd doc dV kV ho hd hcd hD hmg hg args vals as hpre hlay hrd hwl hlo
  obtain rfl : dV = .none := Dflts.none hD hdf
  obtain rfl : kV = .none := Dflts.noKw hD
  obtain ⟨a, vs, ns, rfl, rfl, hobj, hints, hlen⟩ := script_of hn hpre hwl
  refine enter_call (codeAny_mono (call w s₀ s₁ mg mb fa o pm cd doc a vs ns G Y ho (fd_plain hd) hcd hmg hobj hints hlen hg) fun r s' hq => ?_)
  obtain ⟨rfl, h2, h3, h4⟩ := hq
  exact ⟨.inl ⟨.bool true, .bool true, [], rfl, fun _ => rfl, .bool true, post_true l _, fun _ => ⟨List.Pairwise.nil, fun _ hm => (nomatch hm)⟩⟩, h2, h3, h4⟩
section
variable {prog : Program} {w : World} {A : Around} {E : Value → Shared → Prop} {s : Shared} {K : Frag}
end
end Att
namespace L2
open PySem PySem.Spec PyProof.Rows
theorem vals_ints : ∀ {vs : List Value} {ns : List Int}, IntsAre vs ns → Vals (ns.map V.int) vs
  | _, _, .nil => .nil
  | _, _, .cons n t h => .cons ⟨t, rfl⟩ (vals_ints h)
end L2
namespace L2
open PySem PySem.Spec PyProof.Rows
abbrev KOf {K : PySem.W.Frag} {h : Heap} (_ : K.In h) : PySem.W.Frag := K
end L2
namespace L2
open PySem PySem.Spec PyProof.Rows
def inClass (s : Stmt) (j : Nat) : Stmt := match s with
  | .ClassDef _ _ _ body _ _ _ _ _ _ _ => body.getD j (.Pass ⟨0, 0, 0, 0⟩)
  | _ => .Pass ⟨0, 0, 0, 0⟩
def defArgs (s : Stmt) : Arguments := match s with
  | .FunctionDef _ a _ _ _ _ _ _ _ _ => a
  | _ => { posonlyargs := [], args := [], vararg := none, kwonlyargs := [], kw_defaults := [], kwarg := none, defaults := [] }
def defBody (s : Stmt) : List Stmt := match s with
  | .FunctionDef _ _ b _ _ _ _ _ _ _ => b
  | _ => []
def defScope (s : Stmt) : Scope := match s with
  | .FunctionDef _ _ _ _ _ _ sc _ _ _ => sc
  | _ => { kind := .function, names := [], isGenerator := false, isCoroutine := false }
abbrev CX0 : CXT := fun _ _ _ _ _ _ => False
abbrev E0 : XK := fun _ _ _ => False
theorem pass0 {X : Cx} : Passes CX0 X E0 := fun _ _ _ _ _ _ _ h => h.elim
structure Fun (K : PySem.W.Frag) (x qual : Str) (st : Stmt) (f : Addr) (fd : FuncData) : Prop where
  ex : ∃ (oc : Value) (od : Option Addr) (kV doc pm : Value) (an : Option Addr) (cdv ct : Value) (osl : Array (Option Value)),
    fd = PySem.W.fnOf x qual (defArgs st) (defBody st) (defScope st) .none kV doc pm an cdv ct ∧ K.lookup f = some ⟨oc, od, .func fd, osl⟩ ∧ PySem.W.codeIn K cdv qual = true
  kp : PySem.W.keepIn K (.ref f) = true
section
variable {P : Program} {w : World} {K : PySem.W.Frag} {mg : Str → Option Value} {base : Heap}
theorem Fun.ok {x qual : Str} {st : Stmt} {f : Addr} {fd : FuncData} {N ps : List Str} {k : Nat} {sp : Sp} (F : Fun K x qual st f fd) (S : FnScope N ps (defScope st)) (len : ∀ vs H Q E, sp vs H Q E → vs.length = ps.length)
    (hbody : ∀ (cdv : Value) (A : Around) (outer : List Env) (s : Shared) (H : Hp) (vs : List V) (Q : VK) (E : XK), Room k (A.deeper (envOfC qual (defScope st) s.heap.objs.size f cdv)) → sp vs H Q E →
      ∃ t, PSs (cxOf CX0 P w K mg base N qual (defScope st) f cdv A outer s H E).nox (defBody st) t ∧ t { nx := fun _ H' => Q .non H', rt := Q } (start N vs) H) : FnOk P w K mg base CX0 (k + 1) f fd ps sp := by
  obtain ⟨oc, od, kV, doc, pm, an, cdv, ct, osl, rfl, lk, hcd⟩ := F.ex
  refine fn_of lk hcd S len fun A outer s H vs Q E hr hsp => ?_
  obtain ⟨t, h, q⟩ := hbody cdv A outer s H vs Q E hr hsp
  exact ⟨t, h.nox, q⟩
theorem Fun.binds {x qual : Str} {st : Stmt} {f : Addr} {fd : FuncData} {ps : List Str} (F : Fun K x qual st f fd)
    (h : ∀ (kV doc pm : Value) (an : Option Addr) (cdv ct : Value) (us : List Value), us.length = ps.length → bindArgs (PySem.W.fnOf x qual (defArgs st) (defBody st) (defScope st) .none kV doc pm an cdv ct) ⟨us, []⟩ = pure (ps.zip us)) : Binds K fd ps [] := by
  obtain ⟨oc, od, kV, doc, pm, an, cdv, ct, osl, rfl, lk, hcd⟩ := F.ex
  exact .all (h kV doc pm an cdv ct)
theorem fun_mk {x qual : Str} {st : Stmt} {f : Addr} {oc : Value} {od an : Option Addr} {osl : Array (Option Value)} {kV doc pm cdv ct : Value} (l : K.lookup f = some ⟨oc, od, .func (PySem.W.fnOf x qual (defArgs st) (defBody st) (defScope st) .none kV doc pm an cdv ct), osl⟩)
    (c : PySem.W.codeIn K cdv qual = true) (k : PySem.W.keepIn K (.ref f) = true) : Fun K x qual st f (PySem.W.fnOf x qual (defArgs st) (defBody st) (defScope st) .none kV doc pm an cdv ct) := ⟨⟨oc, od, kV, doc, pm, an, cdv, ct, osl, rfl, l, c⟩, k⟩
end
theorem hu_of {A : Around} {k : Nat} (hr : Room k A) : A.units + 1 < cLine := Nat.lt_of_le_of_lt (Nat.add_le_add_left (by decide : 1 ≤ 64) _) hr.units
theorem small1000 {n : Nat} (h : n ≤ 1000) : n < sizeLine := Nat.lt_of_le_of_lt h (by decide)
section
variable {X : Cx}
theorem pv (i : Nat) {x : Str} {pos : Pos} (hN : X.N[i]? = some x := by rfl) (hv : Vis X.env.scope x := by first | exact Or.inl rfl | exact Or.inr (Or.inl rfl) | exact Or.inr (Or.inr rfl)) (hd : (x == ("__debug__" : Str)) = false := by decide)
    (hcd : (x == ("__classdict__" : Str)) = false := by decide) : PE X (.Name x pos) (tVar i) := pe_var hN hv hd hcd
end
theorem iteF {A B : Prop} (h : B) : if false = true then A else B := by
  rw [if_neg Bool.false_ne_true]
  exact h
theorem iteT {A B : Prop} (h : A) : if true = true then A else B := by
  rw [if_pos rfl]
  exact h
def Same (H H' : Hp) : Prop := ∀ b o, H b = some o → H' b = some o
theorem Same.refl (H : Hp) : Same H H := fun _ _ h => h
theorem Same.trans {H H1 H2 : Hp} (a : Same H H1) (b : Same H1 H2) : Same H H2 := fun c o h => b c o (a c o h)
theorem Same.free {H H' : Hp} (e : Same H H') {l : Addr} (h : H' l = Option.none) : H l = Option.none := by
  cases q : H l with
  | none => rfl
  | some o =>
    rw [e l o q] at h
    cases h
theorem Same.seq {K : PySem.W.Frag} {H H' : Hp} {a : Addr} {xs : List V} (e : Same H H') (h : SqL K H a xs) : SqL K H' a xs := by
  rcases h with (h | ⟨o, h⟩) | h
  · exact .inl (.inl (e _ _ h))
  · exact .inl (.inr ⟨o, e _ _ h⟩)
  · exact .inr h
section
variable {κ : Type} [DecidableEq κ]
theorem dropK_pos {p : κ × V} {r : List (κ × V)} {k : κ} (e : p.1 = k) : dropK (p :: r) k = dropK r k := by
  unfold dropK
  rw [List.filter_cons, if_neg (by simp [e])]
theorem dropK_neg {p : κ × V} {r : List (κ × V)} {k : κ} (e : ¬ p.1 = k) : dropK (p :: r) k = p :: dropK r k := by
  unfold dropK
  rw [List.filter_cons, if_pos (by simp [e])]
end
end L2
namespace Fp
open PySem
abbrev sle (a b : Str) : Prop := ¬ b.cps.toList < a.cps.toList
theorem str_ext {a b : Str} (h : a.cps.toList = b.cps.toList) : a = b := by
  cases a; cases b; simp only [Str.mk.injEq]; exact Array.toList_inj.mp h
theorem sle_anti {a b : Str} (h1 : sle a b) (h2 : sle b a) : a = b :=
  str_ext (List.le_antisymm (List.not_lt.mp h1) (List.not_lt.mp h2))
theorem sle_trans {a b c : Str} (h1 : sle a b) (h2 : sle b c) : sle a c :=
  List.not_lt.mpr (List.le_trans (List.not_lt.mp h1) (List.not_lt.mp h2))
def Srt (l : List Str) : Prop := l.Pairwise sle
theorem perm_of_mem : ∀ {l m : List Str}, l.Nodup → m.Nodup → (∀ x, x ∈ l ↔ x ∈ m) → l.Perm m := by
  intro l m h1 h2 h
  exact (List.perm_ext_iff_of_nodup h1 h2).mpr h
theorem srt_uniq {l m : List Str} (hl : Srt l) (hm : Srt m) (nl : l.Nodup) (nm : m.Nodup) (h : ∀ x, x ∈ l ↔ x ∈ m) : l = m :=
  (perm_of_mem nl nm h).eq_of_pairwise (fun _ _ _ _ a b => sle_anti a b) hl hm
inductive Kd where
  | add | sub | mul
  deriving DecidableEq
inductive Row where
  | set (n : Str) (k : Int)
  | take (n : Str)
  | op (o : Kd) (n a b : Str)
  | tell (n : Str)
  deriving DecidableEq
def uses : Row → List Str
  | .set .. => []
  | .take _ => []
  | .op _ _ a b => [a, b]
  | .tell n => [n]
def uses1 : Row → List Str
  | .set .. => []
  | .take _ => []
  | .op _ _ a b => if a = b then [a] else [a, b]
  | .tell n => [n]
theorem mem_uses1 {r : Row} {x : Str} : x ∈ uses1 r ↔ x ∈ uses r := by
  cases r with
  | op o n a b =>
    by_cases e : a = b
    · subst e; simp [uses, uses1]
    · simp [uses, uses1, e]
  | _ => rfl
def wr : Row → Option Str
  | .set n _ => some n
  | .take n => some n
  | .op _ n _ _ => some n
  | .tell _ => none
def need : List Row → Str → Bool
  | [], _ => false
  | r :: t, x => if x ∈ uses r then true else if wr r = some x then false else need t x
theorem need_cons (r : Row) (t : List Row) (x : Str) : need (r :: t) x = if x ∈ uses r then true else if wr r = some x then false else need t x := rfl
def Valid (rows : List Row) : Prop := ∀ (i : Nat) r, rows[i]? = some r → ∀ x ∈ uses r, ∃ q ∈ rows.take i, wr q = some x
theorem valid_nil : Valid [] := fun i r h => by simp at h
theorem valid_snoc {rows : List Row} {r : Row} (h : Valid rows) (hr : ∀ x ∈ uses r, ∃ q ∈ rows, wr q = some x) : Valid (rows ++ [r]) := by
  intro i q hi x hx
  by_cases hlt : i < rows.length
  · rw [List.getElem?_append_left hlt] at hi
    obtain ⟨p, hp, e⟩ := h i q hi x hx
    refine ⟨p, ?_, e⟩
    rw [List.take_append_of_le_length (Nat.le_of_lt hlt)]
    exact hp
  · rw [List.getElem?_append_right (Nat.le_of_not_lt hlt)] at hi
    have hz : i - rows.length = 0 := by
      cases e : i - rows.length with
      | zero => rfl
      | succ k => rw [e] at hi; simp at hi
    rw [hz] at hi
    have e : r = q := by simpa using hi
    subst e
    obtain ⟨p, hp, e2⟩ := hr x hx
    refine ⟨p, ?_, e2⟩
    have : i = rows.length := by omega
    subst this
    rw [List.take_append_of_le_length (Nat.le_refl _), List.take_length]
    exact hp
def Among (ns : List Str) (rows : List Row) : Prop := ∀ r ∈ rows, (∀ x ∈ uses r, x ∈ ns) ∧ ∀ x, wr r = some x → x ∈ ns
theorem among_nil (ns : List Str) : Among ns [] := fun _ h => nomatch h
theorem among_snoc {ns : List Str} {rows : List Row} {r : Row} (h : Among ns rows) (h1 : ∀ x ∈ uses r, x ∈ ns) (h2 : ∀ x, wr r = some x → x ∈ ns) : Among ns (rows ++ [r]) := by
  intro q hq
  rcases List.mem_append.mp hq with z | z
  · exact h q z
  · rw [List.mem_singleton.mp z]; exact ⟨h1, h2⟩
theorem Among.drop {ns : List Str} {rows : List Row} (h : Among ns rows) (k : Nat) : Among ns (rows.drop k) := fun r hr => h r (List.mem_of_mem_drop hr)
theorem need_mem {ns : List Str} : ∀ {rows : List Row} {x : Str}, Among ns rows → need rows x = true → x ∈ ns
  | [], x, _, h => by simp [need] at h
  | r :: t, x, ha, h => by
    unfold need at h
    by_cases hu : x ∈ uses r
    · exact (ha r (List.mem_cons_self ..)).1 x hu
    · rw [if_neg hu] at h
      by_cases hw : wr r = some x
      · rw [if_pos hw] at h; cases h
      · rw [if_neg hw] at h
        exact need_mem (fun q hq => ha q (List.mem_cons_of_mem _ hq)) h
def put1 (ks : List Str) (x : Str) : List Str := if x ∈ ks then ks else ks ++ [x]
def drop1 (ks : List Str) (o : Option Str) : List Str := match o with
  | none => ks
  | some x => ks.filter fun y => decide (y ≠ x)
def ahead (r : Row) (ks : List Str) : List Str := (uses1 r).foldl put1 (drop1 ks (wr r))
theorem mem_put1 {ks : List Str} {x y : Str} : y ∈ put1 ks x ↔ y ∈ ks ∨ y = x := by
  unfold put1
  split
  · rename_i h
    constructor
    · exact Or.inl
    · rintro (z | z)
      · exact z
      · rw [z]; exact h
  · simp
theorem nodup_put1 {ks : List Str} {x : Str} (h : ks.Nodup) : (put1 ks x).Nodup := by
  unfold put1
  split
  · exact h
  · rename_i hx
    rw [List.nodup_append]
    refine ⟨h, by simp, ?_⟩
    intro a ha b hb e
    rw [List.mem_singleton.mp hb] at e
    rw [e] at ha
    exact hx ha
theorem mem_fold_put1 : ∀ {us ks : List Str} {y : Str}, y ∈ us.foldl put1 ks ↔ y ∈ ks ∨ y ∈ us
  | [], ks, y => by simp
  | u :: us, ks, y => by
    rw [List.foldl_cons, mem_fold_put1, mem_put1, List.mem_cons]
    constructor
    · rintro ((a | a) | a)
      · exact .inl a
      · exact .inr (.inl a)
      · exact .inr (.inr a)
    · rintro (a | (a | a))
      · exact .inl (.inl a)
      · exact .inl (.inr a)
      · exact .inr a
theorem nodup_fold_put1 : ∀ {us ks : List Str}, ks.Nodup → (us.foldl put1 ks).Nodup
  | [], ks, h => h
  | u :: us, ks, h => by
    rw [List.foldl_cons]
    exact nodup_fold_put1 (nodup_put1 h)
theorem mem_drop1 {ks : List Str} {o : Option Str} {y : Str} : y ∈ drop1 ks o ↔ y ∈ ks ∧ o ≠ some y := by
  cases o with
  | none => simp [drop1]
  | some x =>
    simp only [drop1, List.mem_filter, decide_eq_true_eq, ne_eq, Option.some.injEq]
    constructor
    · rintro ⟨a, b⟩; exact ⟨a, fun e => b e.symm⟩
    · rintro ⟨a, b⟩; exact ⟨a, fun e => b e.symm⟩
theorem nodup_drop1 {ks : List Str} {o : Option Str} (h : ks.Nodup) : (drop1 ks o).Nodup := by
  cases o with
  | none => exact h
  | some x => exact h.sublist List.filter_sublist
theorem nodup_ahead {r : Row} {ks : List Str} (h : ks.Nodup) : (ahead r ks).Nodup := nodup_fold_put1 (nodup_drop1 h)
theorem mem_ahead {r : Row} {ks : List Str} {x : Str} : x ∈ ahead r ks ↔ x ∈ uses r ∨ (x ∈ ks ∧ wr r ≠ some x) := by
  unfold ahead
  rw [mem_fold_put1, mem_drop1, mem_uses1]
  exact Or.comm
theorem len_le_of_subset : ∀ {l m : List Str}, l.Nodup → (∀ x ∈ l, x ∈ m) → l.length ≤ m.length
  | [], m, _, _ => Nat.zero_le _
  | a :: l, m, hn, hs => by
    obtain ⟨h1, h2⟩ := List.nodup_cons.mp hn
    have ha : a ∈ m := hs a (List.mem_cons_self ..)
    have ih := len_le_of_subset (m := m.erase a) h2 fun x hx =>
      (List.mem_erase_of_ne (fun e => h1 (by rw [← e]; exact hx))).mpr (hs x (List.mem_cons_of_mem _ hx))
    rw [List.length_erase_of_mem ha] at ih
    have : 0 < m.length := List.length_pos_of_mem ha
    rw [List.length_cons]
    omega
def Keys (rows : List Row) (ks : List Str) : Prop := ks.Nodup ∧ ∀ x, x ∈ ks ↔ need rows x = true
theorem keys_nil : Keys [] [] := ⟨List.nodup_nil, fun x => by simp [need]⟩
theorem keys_cons {r : Row} {rows : List Row} {ks : List Str} (h : Keys rows ks) : Keys (r :: rows) (ahead r ks) := by
  refine ⟨nodup_ahead h.1, fun x => ?_⟩
  rw [mem_ahead, h.2 x, need_cons]
  by_cases hu : x ∈ uses r
  · simp [hu]
  · by_cases hw : wr r = some x
    · simp [hu, hw]
    · simp [hu, hw]
theorem keys_len {ns : List Str} {rows : List Row} {ks : List Str} (h : Keys rows ks) (ha : Among ns rows) : ks.length ≤ ns.length := by
  have sub : ∀ x ∈ ks, x ∈ ns := fun x hx => need_mem ha ((h.2 x).mp hx)
  exact len_le_of_subset h.1 sub
structure NeedAt (rows : List Row) (k : Nat) (l : List Str) : Prop where
  srt : Srt l
  nd : l.Nodup
  mem : ∀ x, x ∈ l ↔ need (rows.drop (k + 1)) x = true
theorem NeedAt.uniq {rows : List Row} {k : Nat} {l m : List Str} (a : NeedAt rows k l) (b : NeedAt rows k m) : l = m :=
  srt_uniq a.srt b.srt a.nd b.nd fun x => (a.mem x).trans (b.mem x).symm
theorem needAt_of_keys {rows : List Row} {k : Nat} {ks l : List Str} (h : Keys (rows.drop (k + 1)) ks) (hs : Srt l) (hp : l.Perm ks) : NeedAt rows k l :=
  ⟨hs, hp.symm.nodup h.1, fun x => (hp.mem_iff).trans (h.2 x)⟩
theorem needAt_of_filter {ns : List Str} {rows : List Row} {k : Nat} {l : List Str} (hn : ns.Nodup) (ha : Among ns rows) (hs : Srt l) (hp : l.Perm (ns.filter fun x => need (rows.drop (k + 1)) x)) : NeedAt rows k l :=
  ⟨hs, hp.symm.nodup (hn.sublist List.filter_sublist), fun x => by
    rw [hp.mem_iff, List.mem_filter]
    exact ⟨fun z => z.2, fun z => ⟨need_mem (ha.drop _) z, z⟩⟩⟩
end Fp
set_option maxHeartbeats 4000000
namespace L2
open PySem PySem.Spec PyProof.Rows
def rNil (K : PySem.W.Frag) (neg : Bool) : R2 := fun x y H Q =>
  ∃ a b xs, x = .ref a ∧ y = .ref b ∧ SqL K H a xs ∧ SqL K H b [] ∧ Q (.bl (if neg then !xs.isEmpty else xs.isEmpty)) H
section
variable {X : Cx}
theorem op_eqNil (hu : X.A.units < cLine) : OpR X (compareOp .Eq) (rNil X.K false) := by
  intro pins s σ H x y v u Q I rx ry h
  obtain ⟨a, b, xs, rfl, rfl, ha, hb, q⟩ := h
  cases rx; cases ry
  obtain ⟨its, r1, p1, z1⟩ := I.list ha
  obtain ⟨itb, r2, p2, z2⟩ := I.list hb
  have l1 := r1.length
  have l2 := r2.length
  cases xs with
  | nil =>
    have e1 : its = [] := List.eq_nil_of_length_eq_zero l1.symm
    have e2 : itb = [] := List.eq_nil_of_length_eq_zero l2.symm
    subst e1 e2
    exact SeqAt.eq_listAt (e := fun _ => true) p1.isList p2.isList rfl hu (fun j h1 _ => absurd h1 (Nat.not_lt_zero _)) ⟨.bl true, H, I, rfl, q⟩
  | cons x0 xr =>
    have hne : (its.toArray.size != itb.toArray.size) = true := by
      simp only [List.size_toArray, List.length_cons, List.length_nil] at l1 l2 ⊢
      rw [← l1, ← l2]; simp
    exact SeqAt.eq_list_lengthsAt p1.isList p2.isList hne hu ⟨.bl false, H, I, rfl, q⟩
end
section
variable {X : Cx}
def rSlS : V → Option Int → Option Int → Hp → VK → Prop := fun x lo hi H Q => ∃ z, x = .str z ∧ z.length ≤ sizeLine ∧ Q (.str (Txt.slice z lo hi)) H
theorem sl_str : SlR X rSlS := by
  intro pins s σ H x v vl vu lo hi sl Q I rx hs pl pu h
  obtain ⟨z, rfl, hz, q⟩ := h
  obtain ⟨t, rfl⟩ := rx
  refine ⟨"str", _, F.slot_str_getitem.lookup, typeIs_str s z t, ?_⟩
  obtain ⟨l, el⟩ : ∃ l : Option (Int × Tok), vl = partValue l ∧ lo = l.map (·.1) := by
    cases pl with
    | none => exact ⟨none, rfl, rfl⟩
    | int i t => exact ⟨some (i, t), rfl, rfl⟩
  obtain ⟨u, eu⟩ : ∃ l : Option (Int × Tok), vu = partValue l ∧ hi = l.map (·.1) := by
    cases pu with
    | none => exact ⟨none, rfl, rfl⟩
    | int i t => exact ⟨some (i, t), rfl, rfl⟩
  obtain ⟨rfl, rfl⟩ := el
  obtain ⟨rfl, rfl⟩ := eu
  refine wpAny_getItem_str_slice (l := l) (u := u) (st := none) ?_ rfl ?_
  · exact hs
  · unfold sliceMade
    unfold Txt.slice at q
    by_cases hc : ((Option.map (·.1) (none : Option (Int × Tok))).getD 1 == 1 && (slicePicked z l u none).length == z.length) = true
    · rw [if_pos hc]
      rw [if_pos (by simpa [slicePicked] using hc)] at q
      exact ⟨.str z, H, I, ⟨t, rfl⟩, q⟩
    · rw [if_neg hc]
      rw [if_neg (by simpa [slicePicked] using hc)] at q
      refine ⟨?_, .str _, H, I.tok _, ⟨_, rfl⟩, q⟩
      show ((slicePicked z l u none).filterMap (z.cps[·]?)).toArray.size ≤ sizeLine
      rw [List.size_toArray]
      refine Nat.le_trans (List.length_filterMap_le _ _) (Nat.le_trans ?_ hz)
      exact sliceIndices_le _ _ _
def rRepS : R2 := fun x y H Q => ∃ z n, x = .str z ∧ y = .int n ∧ 0 ≤ n ∧ n ≤ 1000 ∧ z.length ≤ 1000 ∧ Q (.str (Txt.mul z n)) H
theorem op_repS : OpR X (binaryOp .Mult) rRepS := by
  intro pins s σ H x y v u Q I rx ry h
  obtain ⟨z, n, rfl, rfl, h1, h2, h3, q⟩ := h
  obtain ⟨t, rfl⟩ := rx
  obtain ⟨t', rfl⟩ := ry
  exact SB.mul (mulOk_of 1000 1000 h3 (by omega) (by omega) (by decide) (by decide)) fun t' k => ⟨.str (Txt.mul z n), H, I.tok _, ⟨_, rfl⟩, q⟩
end
end L2
namespace L2
open PySem PySem.Spec PyProof.Rows
def clOf (cells : List (Str × Addr)) : List (Str × NameKind) → List (Str × Addr) → List (Str × Addr)
  | [], acc => acc
  | y :: r, acc => clOf cells r (if (y.2 == .free) = true then (y.1, (cells.lookup y.1).getD 0) :: acc else acc)
theorem forIn_pure_fold {α β : Type} {g : α → β → β} {f : α → β → Sem (ForInStep β)} : ∀ {l : List α} (c : β), (∀ x ∈ l, ∀ c, f x c = pure (.yield (g x c))) → forIn l c f = (pure (l.foldl (fun c x => g x c) c) : Sem β)
  | [], c, _ => rfl
  | x :: l, c, h => by
    rw [List.forIn_cons, h x (List.mem_cons_self ..), pure_bind]
    exact forIn_pure_fold (g x c) fun y hy => h y (List.mem_cons_of_mem _ hy)
theorem clOf_fold (cells : List (Str × Addr)) : ∀ (names : List (Str × NameKind)) (acc : List (Str × Addr)),
    names.foldl (fun acc (y : Str × NameKind) => if (y.2 == .free) = true then (y.1, (cells.lookup y.1).getD 0) :: acc else acc) acc = clOf cells names acc
  | [], _ => rfl
  | y :: r, acc => by rw [List.foldl_cons]; exact clOf_fold cells r _
theorem closure_is {scope : Scope} {env : Env} (h : ∀ y ∈ scope.names, y.2 = .free → ∃ c, env.cells.lookup y.1 = some c) : closureFor scope env = pure (clOf env.cells scope.names []) := by
  simp only [closureFor]
  rw [forIn_pure_fold (g := fun (y : Str × NameKind) acc => if (y.2 == .free) = true then (y.1, (env.cells.lookup y.1).getD 0) :: acc else acc) [] (fun x hx c => by
    obtain ⟨n, k⟩ := x
    by_cases hk : (k == NameKind.free) = true
    · obtain ⟨a, ha⟩ := h (n, k) hx (by simpa using hk)
      have ha' : env.cells.lookup n = some a := ha
      simp only [hk, if_true, cellOf, ha', Option.getD_some, pure_bind]
    · simp only [hk, if_false, Bool.false_eq_true])]
  rw [clOf_fold]
  rfl
theorem clOf_sub {cells : List (Str × Addr)} : ∀ {names : List (Str × NameKind)} {acc : List (Str × Addr)}, (∀ y ∈ names, y.2 = .free → ∃ c, cells.lookup y.1 = some c) → (∀ x c, acc.lookup x = some c → cells.lookup x = some c) →
    ∀ x c, (clOf cells names acc).lookup x = some c → cells.lookup x = some c
  | [], acc, _, ha, x, c, e => ha x c e
  | y :: r, acc, hn, ha, x, c, e => by
    refine clOf_sub (acc := if (y.2 == .free) = true then (y.1, (cells.lookup y.1).getD 0) :: acc else acc) (fun z hz => hn z (List.mem_cons_of_mem _ hz)) (fun x c e => ?_) x c e
    by_cases hk : (y.2 == NameKind.free) = true
    · rw [if_pos hk] at e
      obtain ⟨a, ha'⟩ := hn y (List.mem_cons_self ..) (by simpa using hk)
      rw [List.lookup_cons] at e
      cases hx : x == y.1 with
      | true =>
        rw [hx, ha'] at e
        have e1 : x = y.1 := by simpa using hx
        have e2 : a = c := by simpa using e
        rw [e1, ha', e2]
      | false => rw [hx] at e; exact ha x c e
    · rw [if_neg hk] at e; exact ha x c e
theorem clOf_mono {cells : List (Str × Addr)} : ∀ {names : List (Str × NameKind)} {acc : List (Str × Addr)} {x : Str}, (∃ c, acc.lookup x = some c) → ∃ c, (clOf cells names acc).lookup x = some c
  | [], _, _, h => h
  | y :: r, acc, x, h => by
    refine clOf_mono (names := r) (acc := if (y.2 == .free) = true then (y.1, (cells.lookup y.1).getD 0) :: acc else acc) ?_
    by_cases hk : (y.2 == NameKind.free) = true
    · rw [if_pos hk, List.lookup_cons]
      cases hx : x == y.1 with
      | true => exact ⟨_, rfl⟩
      | false => exact h
    · rw [if_neg hk]; exact h
theorem clOf_has {cells : List (Str × Addr)} : ∀ {names : List (Str × NameKind)} {acc : List (Str × Addr)} {x : Str}, (x, NameKind.free) ∈ names → ∃ c, (clOf cells names acc).lookup x = some c
  | [], _, _, h => nomatch h
  | y :: r, acc, x, h => by
    rcases List.mem_cons.mp h with e | h
    · subst e
      refine clOf_mono (names := r) ?_
      exact ⟨(cells.lookup x).getD 0, by rw [if_pos (by rfl), List.lookup_cons]; simp⟩
    · exact clOf_has (names := r) h
theorem relabel_kind {scope : Scope} {env : Env} (hc : ∀ y ∈ scope.names, y.2 ≠ .cell) {x : Str} {k : NameKind} (h : (relabel scope env).names.lookup x = some k) (hk : k = .cell ∨ k = .free) : (x, NameKind.free) ∈ scope.names := by
  have go : ∀ (names : List (Str × NameKind)), (∀ y ∈ names, y.2 ≠ .cell) →
      (names.map fun (y : Str × NameKind) => if (y.2 == NameKind.free && env.scope.kind == .function && env.kindOf y.1 == some .cell) = true then (y.1, NameKind.cell) else (y.1, y.2)).lookup x = some k → (x, NameKind.free) ∈ names := by
    intro names
    induction names with
    | nil => intro _ e; simp at e
    | cons y r ih =>
      intro hn e
      rw [List.map_cons] at e
      by_cases hb : (y.2 == NameKind.free && env.scope.kind == .function && env.kindOf y.1 == some .cell) = true
      · rw [if_pos hb, List.lookup_cons] at e
        cases hx : x == y.1 with
        | true =>
          have e1 : x = y.1 := by simpa using hx
          have e2 : y.2 = .free := by
            simp only [Bool.and_eq_true] at hb
            simpa using hb.1.1
          have : y = (x, NameKind.free) := by rw [e1, ← e2]
          rw [← this]; exact List.mem_cons_self ..
        | false => rw [hx] at e; exact List.mem_cons_of_mem _ (ih (fun z hz => hn z (List.mem_cons_of_mem _ hz)) e)
      · rw [if_neg hb, List.lookup_cons] at e
        cases hx : x == y.1 with
        | true =>
          rw [hx] at e
          have e1 : x = y.1 := by simpa using hx
          have e2 : y.2 = k := by simpa using e
          have e3 : y.2 = .free := by
            rcases hk with hk | hk
            · exact absurd (e2.trans hk) (hn y (List.mem_cons_self ..))
            · exact e2.trans hk
          have : y = (x, NameKind.free) := by rw [e1, ← e3]
          rw [← this]; exact List.mem_cons_self ..
        | false => rw [hx] at e; exact List.mem_cons_of_mem _ (ih (fun z hz => hn z (List.mem_cons_of_mem _ hz)) e)
  exact go scope.names hc h
def cxComp (X : Cx) (N' : List Str) (scope : Scope) (C : Addr) (s : Shared) (H : Hp) (fp : List Addr) : Cx where
  prog := X.prog
  w := X.w
  K := X.K
  mg := X.mg
  base := X.base
  A := X.A
  N := N'
  s₀ := s
  H₀ := H
  env := compEnvC scope (clOf X.env.cells scope.names []) C X.env
  outer := X.stack
  stack := X.stack
  ex := fp
  fn := fun _ => false
  calm := X.calm
  pn := []
  xe := fun _ _ => False
structure CompOk (X : Cx) (sc scope : Scope) (fv : List Str) (js : List Nat) (x : Str) : Prop where
  sce : X.env.scope = sc
  kind : scope.kind = .function
  nocell : ∀ y ∈ scope.names, y.2 ≠ .cell
  own : ∀ y ∈ scope.names, y.2 = .local → scope.names.lookup y.1 = some .local
  loc : scope.names.lookup x = some .local
  free1 : ∀ y ∈ scope.names, y.2 = .free → sc.names.lookup y.1 = some .cell
  fvs : ∀ y ∈ fv, (y, NameKind.free) ∈ scope.names
  fvl : ∀ y ∈ fv, scope.names.lookup y = some .free
  slots : js.map (fun j => X.N[j]?) = fv.map some
  nd : (fv ++ [x]).Nodup
def fvals (js : List Nat) (σ : St) : St := js.map fun j => (σ[j]?).join
def tTrue : TT := fun _ H Q => Q true H
def PIfs (X : Cx) (ifs : List Expr) (t : TT) : Prop :=
  ∀ (pins : List (Addr × Obj)) (s : Shared) (σ : St) (H : Hp) (Q : Bool → Hp → Prop), Inv X pins σ H s → t σ H Q →
    wpAny (model X.prog X.w) X.A (forIn ifs true fun c r => if r = true then do let ok ← isTrue c X.env (eval c X.env); pure (ForInStep.yield ok) else pure (ForInStep.yield r)) (TP X pins σ Q) X.xe s
theorem pifs_nil {X : Cx} : PIfs X [] tTrue := fun _ _ _ H _ I h => wpAny_tests_nil ⟨H, I, h⟩
theorem pifs_one {X : Cx} {c : Expr} {t : TT} (h : PT X c t) : PIfs X [c] t := fun pins s σ H Q I q => wpAny_tests_one (h pins s σ H Q I q)
def compRun (js : List Nat) (tt : TT) (te : TE) (J : It) (σ : St) (H1 : Hp) (Q : VK) : Prop :=
  ∀ D, H1 D = none → ∃ (n : Nat) (W : Nat → List V → Hp → Prop), W 0 [] (upd H1 D (.lst [])) ∧ ∀ i ys H, W i ys H → i ≤ n ∧
    ((J.stop i H ∧ Q (.ref D) H) ∨ (J.go i H ∧ ∀ x H', J.yld i H x H' → tt (fvals js σ ++ [some x]) H' fun c H2 =>
      if c = true then te (fvals js σ ++ [some x]) H2 fun y H3 => H3 D = some (.lst ys) ∧ ys.length < sizeLine ∧ W (i + 1) (ys ++ [y]) (upd H3 D (.lst (ys ++ [y])))
      else W (i + 1) ys H2))
def tComp (js : List Nat) (wi : TI) (tt : TT) (te : TE) : TE := fun σ H Q => wi σ H fun J H1 => compRun js tt te J σ H1 Q
theorem fvals_get {js : List Nat} {σ : St} {i : Nat} {v : V} (h : (fvals js σ)[i]? = some (some v)) : ∃ j : Nat, js[i]? = some j ∧ σ[j]? = some (some v) := by
  unfold fvals at h
  rw [List.getElem?_map] at h
  cases e : js[i]? with
  | none => rw [e] at h; cases h
  | some j =>
    rw [e] at h
    have h' : (σ[j]?).join = some v := Option.some.inj h
    refine ⟨j, rfl, ?_⟩
    cases q : σ[j]? with
    | none => rw [q] at h'; cases h'
    | some o =>
      rw [q] at h'
      have : o = some v := h'
      rw [this]
section
variable {X : Cx} {sc scope : Scope} {fv : List Str} {js : List Nat} {x : Str} {pins : List (Addr × Obj)} {σ : St} {H : Hp} {s : Shared}
theorem CompOk.free (O : CompOk X sc scope fv js x) : ∀ y ∈ scope.names, y.2 = .free → X.env.scope.names.lookup y.1 = some .cell := by rw [O.sce]; exact O.free1
theorem relabel_cell {env : Env} (hk : env.scope.kind = .function) : ∀ {names : List (Str × NameKind)} {y : Str}, names.lookup y = some .free → env.kindOf y = some .cell →
    (names.map fun (z : Str × NameKind) => if (z.2 == NameKind.free && env.scope.kind == .function && env.kindOf z.1 == some .cell) = true then (z.1, NameKind.cell) else (z.1, z.2)).lookup y = some .cell
  | [], _, h, _ => by simp at h
  | z :: r, y, h, hc => by
    rw [List.map_cons]
    rw [List.lookup_cons] at h
    cases hx : y == z.1 with
    | true =>
      rw [hx] at h
      have e1 : y = z.1 := by simpa using hx
      have e2 : z.2 = .free := by simpa using h
      have hb : (z.2 == NameKind.free && env.scope.kind == .function && env.kindOf z.1 == some .cell) = true := by
        rw [e2, hk, ← e1, hc]; rfl
      rw [if_pos hb, List.lookup_cons, hx]
    | false =>
      rw [hx] at h
      have ih := relabel_cell hk h hc
      by_cases hb : (z.2 == NameKind.free && env.scope.kind == .function && env.kindOf z.1 == some .cell) = true
      · rw [if_pos hb, List.lookup_cons, hx]; exact ih
      · rw [if_neg hb, List.lookup_cons, hx]; exact ih
theorem CompOk.fvk (O : CompOk X sc scope fv js x) (ok : X.Ok) : ∀ y ∈ fv, (relabel scope X.env).names.lookup y = some .cell := fun y hy =>
  relabel_cell ok.kind (O.fvl y hy) (O.free (y, .free) (O.fvs y hy) rfl)
theorem CompOk.len (O : CompOk X sc scope fv js x) : js.length = fv.length := by
  have := congrArg List.length O.slots
  simpa using this
theorem CompOk.cells (O : CompOk X sc scope fv js x) (ok : X.Ok) : ∀ y ∈ scope.names, y.2 = .free → ∃ c, X.env.cells.lookup y.1 = some c := fun y hy hk => ok.has y.1 (.inl (O.free y hy hk))
theorem CompOk.sub (O : CompOk X sc scope fv js x) (ok : X.Ok) : ∀ y c, (clOf X.env.cells scope.names []).lookup y = some c → X.env.cells.lookup y = some c :=
  clOf_sub (O.cells ok) fun y c e => by simp at e
theorem comp_in (O : CompOk X sc scope fv js x) (I : Inv X pins σ H s) {fp : List Addr} (hf : ∀ b ∈ fp, FpOk X pins H b) (hfo : ∀ b ∈ fp, ∃ o, s.heap.get? b = some o) {h' : Heap} {tk : Nat}
    (hns : ∃ m, h'.Ns s.heap.objs.size m) (hk : ∀ b o, s.heap.get? b = some o → h'.get? b = some o) :
    Inv (cxComp X (fv ++ [x]) scope s.heap.objs.size s H fp) [] (fvals js σ ++ [none]) H { s with heap := h', toks := tk } := by
  have fresh : H s.heap.objs.size = none := I.hok.fresh (Nat.le_refl _)
  have sub := O.sub I.ok
  have cellk : ∀ y c v, (clOf X.env.cells scope.names []).lookup y = some c → s.heap.IsCell c v → h'.IsCell c v := fun y c v _ ⟨o, ho, hd⟩ => ⟨o, hk c o ho, hd⟩
  refine ⟨⟨I.ok.mod, O.kind, I.ok.glob, I.ok.blt, Nat.le_refl _, fun y z c e1 e2 => I.ok.inj y z c (sub y c e1) (sub z c e2), fun y hy => ?_, (fun _ _ e => nomatch e), I.ok.hd, I.ok.frames, .inl rfl, fun b hb => ⟨?_, fun y c e z => ?_⟩, fun b o e => I.bs b o e, ?_, fun b o e hb => ?_, fun b hb hb2 => ?_, I.stack, I.stkFree⟩, rfl, I.bare, Un.kept hk, ?_, fun y c e => ?_, fresh, fun y c e => I.freeC y c (sub y c e), fun p hp => ?_, I.hok.kept hk, ?_⟩
  · have hy' : (relabel scope X.env).names.lookup y = some .cell ∨ (relabel scope X.env).names.lookup y = some .free := hy
    rcases hy' with e | e
    · exact clOf_has (relabel_kind O.nocell e (.inl rfl))
    · exact clOf_has (relabel_kind O.nocell e (.inr rfl))
  · obtain ⟨o, ho⟩ := hfo b hb
    exact Nat.ne_of_lt (Heap.lt_size ho)
  · exact (hf b hb).2.2.2.2.1 y c (sub y c e) z
  · exact Nat.le_trans I.ok.bsz I.sz
  · rcases (hf b hb).2.2.2.1 with z | z
    · exact I.ok.noex b o e z
    · exact absurd (Nat.lt_of_lt_of_le (Heap.lt_size (I.ok.bs b o e).1) z) (Nat.lt_irrefl _)
  · rcases List.mem_cons.mp (I.stkSub b hb2) with z | z
    · exact (hf b hb).2.1 z
    · exact (hf b hb).2.2.1 z
  · obtain ⟨m, hm⟩ := hns
    refine ⟨m, hm, fun i y v e1 e2 e3 => ?_⟩
    have hlen : (fvals js σ).length = fv.length := by unfold fvals; rw [List.length_map]; exact O.len
    by_cases hi : i < fv.length
    · have e1' : fv[i]? = some y := by
        have e1 : (fv ++ [x])[i]? = some y := e1
        rwa [List.getElem?_append_left hi] at e1
      rw [List.getElem?_append_left (by rw [hlen]; exact hi)] at e2
      obtain ⟨j, hj, hv⟩ := fvals_get e2
      have hN : X.N[j]? = some y := by
        have q := congrArg (fun l => l[i]?) O.slots
        simp only [List.getElem?_map, hj, e1', Option.map_some] at q
        exact Option.some.inj q
      have hfree := O.fvs y (List.mem_of_getElem? e1')
      have hcell : X.env.scope.names.lookup y = some .cell := O.free (y, .free) hfree rfl
      obtain ⟨m0, _, hl⟩ := I.loc
      obtain ⟨u, ru, lk⟩ := hl j y v hN hv (.inr (.inl hcell))
      obtain ⟨c, hc⟩ := clOf_has (cells := X.env.cells) (acc := []) hfree
      refine ⟨u, ru, .inr ⟨.inl (O.fvk I.ok y (List.mem_of_getElem? e1')), c, hc, ?_⟩⟩
      · rcases lk with ⟨k1, _⟩ | ⟨_, c', hc', hv'⟩
        · have k1' : X.env.scope.names.lookup y = some .local := k1
          rw [hcell] at k1'; cases k1'
        · have : c = c' := by
            have q := sub y c hc
            rw [hc'] at q; exact (Option.some.inj q).symm
          subst this
          exact cellk y c _ hc hv'
    · rw [List.getElem?_append_right (by rw [hlen]; exact Nat.le_of_not_lt hi)] at e2
      exfalso
      cases q : i - (fvals js σ).length with
      | zero => rw [q] at e2; simp at e2
      | succ k => rw [q] at e2; simp at e2
  · obtain ⟨v, hv⟩ := I.cell y c (sub y c e)
    exact ⟨v, cellk y c v e hv⟩
  · simp [cxComp] at hp
  · show (fvals js σ ++ [none]).length = (fv ++ [x]).length
    rw [List.length_append, List.length_append]
    unfold fvals
    rw [List.length_map, O.len]
    rfl
theorem comp_loop {prog : Program} {w : World} {A : Around} {R : Result → Shared → Prop} {elt target iter : Expr} {ifs : List Expr} {pos : Pos} {it acc : Value} {env : Env} {s : Shared} (J : Nat → Shared → Prop)
    (turn : ∀ n s, J n s → wpAny (model prog w) A (pyNext it)
      (fun r s₁ => (r = none ∧ R (.ok .next) s₁) ∨ ∃ v, r = some v ∧ wpAny (model prog w) A (letOwnedTupleGo target it v)
        (fun _ s₂ => wpAny (model prog w) A (assign target env v)
          (fun _ s₃ => wpAny (model prog w) A (forIn ifs true fun c r => if r = true then do let ok ← isTrue c env (eval c env); pure (ForInStep.yield ok) else pure (ForInStep.yield r))
            (fun ok s₄ => if ok = true then wpAny (model prog w) A (eval elt env)
                (fun y s₅ => wpAny (model prog w) A (call (.builtin "list.append") [acc, y]) (fun _ s₆ => ∃ m, m < n ∧ J m s₆) (fun _ _ => False) s₅) (fun _ _ => False) s₄
              else ∃ m, m < n ∧ J m s₄) (fun _ _ => False) s₃) (fun _ _ => False) s₂) (fun _ _ => False) s₁) (fun _ _ => False) s)
    (n : Nat) (h : J n s) : codeAny (model prog w) A (.compLoop (.ListComp elt [⟨target, iter, ifs, 0⟩] scope pos) 0 it acc env) R s := by
  refine codeAny_loop rfl J (fun n s hI => ?_) n h
  show wpAny _ A ((compTurn (.ListComp elt [⟨target, iter, ifs, 0⟩] scope pos) 0 it acc env).onRaise _) _ _ s
  refine wpAny_noted ?_
  have bad : ∀ {Z : Value → Shared → Prop} (e : Value) (s : Shared), (fun (_ : Value) (_ : Shared) => False) e s → Z e s := fun _ _ z => z.elim
  rw [compTurn_list]
  refine wpAny_bind (wpAny_standAt (wpAny_bind (wpAny_mono (turn n s hI) (fun r s₁ h₁ => ?_) bad)))
  rcases h₁ with ⟨rfl, h₁⟩ | ⟨v, rfl, h₁⟩
  · exact wpAny_pure h₁
  · refine wpAny_bind (wpAny_mono h₁ (fun _ s₂ h₂ => wpAny_bind (wpAny_mono h₂ (fun _ s₃ h₃ => wpAny_bind (wpAny_mono h₃ (fun ok s₄ h₄ => ?_) bad)) bad)) bad)
    cases ok with
    | false => exact wpAny_pure ⟨rfl, h₄⟩
    | true => exact wpAny_bind (wpAny_bind (wpAny_mono h₄ (fun y s₅ h₅ => wpAny_bind (wpAny_mono h₅ (fun _ s₆ h₆ => wpAny_pure (wpAny_pure ⟨rfl, h₆⟩)) bad)) bad))
variable {elt iter : Expr} {px pos : Pos} {ifs : List Expr} {tt : TT} {te : TE} {Q : VK} {J : It} {fp : List Addr} {it : Addr} {tn : Nat → Heap → Prop}
theorem comp_core (O : CompOk X sc scope fv js x) (hc : X.calm = true) (hT : ∀ C s H fp, PIfs (cxComp X (fv ++ [x]) scope C s H fp) ifs tt) (hE : ∀ C s H fp, PE (cxComp X (fv ++ [x]) scope C s H fp) elt te)
    (I : Inv X pins σ H s) (T : Turn X.prog X.w X.K (.Name x px) J fp it tn) (st : tn 0 s.heap) (hf : ∀ b ∈ fp, FpOk X pins H b) (hrun : compRun js tt te J σ H Q)
    {RR : Value → Addr → Result → Shared → Prop} (hRR : ∀ D C s' H', Inv X pins σ H' s' → FpOk X pins H' C → (∃ m, s'.heap.Ns C m) → Q (.ref D) H' → RR (.ref D) C (.ok .next) s') {E : Value → Shared → Prop} :
    wpAny (model X.prog X.w) X.A (newList []) (fun acc s₃ => wpAny (model X.prog X.w) X.A (newFunctionEnv scope X.env.globals (clOf X.env.cells scope.names []) [] X.env.qual none .none (some X.env)) (fun cenv s₄ =>
      codeAny (model X.prog X.w) X.A (.compStart (.ListComp elt [⟨.Name x px, iter, ifs, 0⟩] scope pos) 0 (.ref it) acc { cenv with scope := relabel scope X.env }) (RR acc cenv.locals) s₄) E s₃) E s := by
  have hD : H s.heap.objs.size = none := I.hok.fresh (Nat.le_refl _)
  obtain ⟨M, W, w0, turn⟩ := hrun s.heap.objs.size hD
  refine wpAny_newObj_type ?_
  have I3 : Inv X pins σ (upd H s.heap.objs.size (.lst [])) { s with heap := s.heap.push { cls := .type "list", data := .seq ([] : List Value).toArray } } := I.lnew (its := []) (t' := s.toks) .nil (Nat.zero_le _)
  refine wpAny_newFunctionEnv O.nocell (fun y hy => nomatch hy) (fun h₁ hns₁ hsb₁ => ?_) O.kind
  generalize eD : s.heap.objs.size = D at *
  generalize eH3 : upd H D (.lst []) = H3 at *
  generalize es3 : ({ s with heap := s.heap.push { cls := .type "list", data := .seq ([] : List Value).toArray } } : Shared) = s3 at *
  have hs3 : s3.heap = s.heap.push { cls := .type "list", data := .seq ([] : List Value).toArray } := by rw [← es3]
  have hlt : s.heap.objs.size < s3.heap.objs.size := by rw [hs3, Heap.size_push]; exact Nat.lt_succ_self _
  have old : ∀ b o, s.heap.get? b = some o → s3.heap.get? b = some o := fun b o e => by rw [hs3]; exact Heap.get?_push_of_some _ e
  have fpo : ∀ b ∈ fp, ∃ o, s.heap.get? b = some o := fun b hb => let ⟨o, e, _⟩ := T.obj 0 _ st b hb; ⟨o, e⟩
  have hf3 : ∀ b ∈ fp, FpOk X pins H3 b := fun b hb => ⟨by
    obtain ⟨o, e⟩ := fpo b hb
    rw [← eH3, upd_ne (by rw [← eD]; exact Nat.ne_of_lt (Heap.lt_size e))]
    exact (hf b hb).1, (hf b hb).2⟩
  have fpo3 : ∀ b ∈ fp, ∃ o, s3.heap.get? b = some o := fun b hb => let ⟨o, e⟩ := fpo b hb; ⟨o, old b o e⟩
  have up4 : ∀ b o, s3.heap.get? b = some o → h₁.get? b = some o := fun b o e => hsb₁.extBut b o (Nat.ne_of_lt (Heap.lt_size e)) (Heap.get?_push_of_some _ e)
  have I4 := comp_in O I3 hf3 fpo3 (h' := h₁) (tk := s3.toks + ([] : List (Str × Value)).length) ⟨_, hns₁⟩ up4
  generalize eX : cxComp X (fv ++ [x]) scope s3.heap.objs.size s3 H3 fp = X' at I4
  have hT' := hT s3.heap.objs.size s3 H3 fp
  have hE' := hE s3.heap.objs.size s3 H3 fp
  rw [eX] at hT' hE'
  have xp : X'.prog = X.prog := by rw [← eX]; rfl
  have xw : X'.w = X.w := by rw [← eX]; rfl
  have xK : X'.K = X.K := by rw [← eX]; rfl
  have xA : X'.A = X.A := by rw [← eX]; rfl
  have xN : X'.N = fv ++ [x] := by rw [← eX]; rfl
  have xc : X'.calm = true := by rw [← eX]; exact hc
  have xe : X'.xe = fun _ _ => False := by rw [← eX]; rfl
  have xloc : X'.env.locals = s3.heap.objs.size := by rw [← eX]; rfl
  have xl : X'.env.scope.names.lookup x = some .local := by rw [← eX]; exact lookup_relabel_local O.loc
  have xpn : X'.pn = [] := by rw [← eX]; rfl
  have xfs : X'.fs = frs X.stack := by rw [← eX]; rfl
  have xex : X'.ex = fp := by rw [← eX]; rfl
  have xcl : ∀ y c, X'.env.cells.lookup y = some c → X.env.cells.lookup y = some c := by rw [← eX]; exact O.sub I.ok
  have xs0 : X'.s₀ = s3 := by rw [← eX]; rfl
  have xH0 : X'.H₀ = H3 := by rw [← eX]; rfl
  have xenv : X'.env = compEnvC scope (clOf X.env.cells scope.names []) s3.heap.objs.size X.env := by rw [← eX]; rfl
  have stat : ∀ {H' : Hp}, (∀ b ∈ fp, H' b = none) → ∀ b ∈ fp, FpOk X' [] H' b := fun hn b hb => by
    obtain ⟨o, e⟩ := fpo3 b hb
    refine ⟨hn b hb, by rw [xloc]; exact Nat.ne_of_lt (Heap.lt_size e), fun z => ?_, .inl (by rw [xex]; exact hb), fun y c ec => (hf b hb).2.2.2.2.1 y c (xcl y c ec), fun p hp => ?_⟩
    · rw [xfs] at z
      rcases List.mem_cons.mp (I.stkSub b z) with q | q
      · exact (hf b hb).2.1 q
      · exact (hf b hb).2.2.1 q
    · rw [xpn] at hp; simp at hp
  have klen : (fvals js σ).length = fv.length := by unfold fvals; rw [List.length_map]; exact O.len
  have setlast : ∀ v : V, (fvals js σ ++ [none]).set fv.length (some v) = fvals js σ ++ [some v] := fun v => by
    rw [List.set_append_right _ _ (by rw [klen]; exact Nat.le_refl _), klen, Nat.sub_self]; rfl
  have forget : ∀ {pl : List (Addr × Obj)} {H' : Hp} {s' : Shared} {v : V}, Inv X' pl (fvals js σ ++ [some v]) H' s' → Inv X' pl (fvals js σ ++ [none]) H' s' := fun {pl H' s' v} Iv =>
    Iv.weak (by simp) fun i u e => by
      by_cases hi : i < (fvals js σ).length
      · rw [List.getElem?_append_left hi] at e ⊢; exact e
      · rw [List.getElem?_append_right (Nat.le_of_not_lt hi)] at e
        exfalso
        cases q : i - (fvals js σ).length with
        | zero => rw [q] at e; simp at e
        | succ k => rw [q] at e; simp at e
  have loop : codeAny (model X.prog X.w) X.A (.compLoop (.ListComp elt [⟨.Name x px, iter, ifs, 0⟩] scope pos) 0 (.ref it) (.ref D) X'.env) (RR (.ref D) s3.heap.objs.size) { s3 with heap := h₁, toks := s3.toks + ([] : List (Str × Value)).length } := by
    rw [← xp, ← xw, ← xA]
    refine comp_loop (fun n s' => ∃ i ys H', Inv X' [] (fvals js σ ++ [none]) H' s' ∧ tn i s'.heap ∧ (∀ b ∈ fp, H' b = none) ∧ W i ys H' ∧ n = M - i) ?_ M
      ⟨0, [], H3, I4, T.keep 0 _ _ st fun b _ o e => up4 b o (old b o e), fun b hb => (hf3 b hb).1, w0, rfl⟩
    rintro n s5 ⟨i, ys, H5, I5, st5, fr5, w5, rfl⟩
    have less : ∀ {ys' : List V} {H' : Hp}, W (i + 1) ys' H' → M - (i + 1) < M - i := fun {ys' H'} z => by
      have := (turn (i + 1) ys' H' z).1
      omega
    rcases (turn i ys H5 w5).2 with ⟨stop, q⟩ | ⟨go, step⟩
    · have dn := T.done X' xp xw xK xc i [] s5 _ H5 (fun _ _ => False) I5 (stat fr5) st5 stop
      rw [← xp, ← xw] at dn
      refine thn dn fun r s6 ⟨hr, I6⟩ => .inl ⟨hr, ?_⟩
      refine hRR D _ s6 H5 ?_ (I.fpOk (Nat.le_of_lt hlt) (by rw [← xloc]; exact I6.free)) (by rw [← xloc]; obtain ⟨m, hm, _⟩ := I6.loc; exact ⟨m, hm⟩) q
      have bs := I6.base
      rw [xfs, xex, xs0, xH0] at bs
      have os6 : s6.os = s3.os := by have := I6.os; rw [xs0] at this; exact this
      have ok6 : HOk X.prog X.w H5 s6.heap := by have := I6.hok; rw [xp, xw] at this; exact this
      exact I3.call' os6 bs ok6 I6.bare fun b hb => ⟨(hf b hb).2.2.2.1, (hf b hb).2.1, (hf b hb).2.2.2.2.1, (hf b hb).2.2.2.2.2⟩
    · have itm := T.item X' xp xw xK xc i [] s5 _ H5 (fun _ _ => False) I5 (stat fr5) st5 go
      rw [← xp, ← xw] at itm
      refine thn itm fun r s6 ⟨u, hr, h6⟩ => .inr ⟨u, hr, thn h6 fun _ s7 ⟨v, H7, I7, r7, y7, st7, fr7⟩ => ?_⟩
      have I7' := I7.pinned (stat fr7) (T.obj _ _ st7)
      have pg : PG X' (.Name x px) (gName fv.length) := pg_name (by rw [xN]; exact O.nd) (by rw [xN]; simp) (.inl xl) (.inr xl)
      have asg := pg _ s7 _ H7 v u (fun σ' H' => σ' = fvals js σ ++ [some v] ∧ H' = H7) I7' r7 ⟨setlast v, rfl⟩
      rw [xe] at asg
      refine thn asg fun _ s8 ⟨σ8, H8, I8, e8, e8'⟩ => ?_
      subst e8 e8'
      have tst := hT' _ s8 _ H8 _ I8 (step v H8 y7)
      rw [xe] at tst
      refine thn tst fun ok s9 ⟨H9, I9, q9⟩ => ?_
      have keepIt : ∀ {σ' : St} {H' : Hp} {s' : Shared}, Inv X' ([] ++ pinsAt fp s7.heap) σ' H' s' → tn (i + 1) s'.heap ∧ ∀ b ∈ fp, H' b = none := fun {σ' H' s'} Iv => by
        refine ⟨T.keep _ _ _ st7 fun b hb o e => (Iv.pin (b, o) (List.mem_append_right _ (List.mem_append_right _ (mem_pinsAt hb e)))).1, fun b hb => ?_⟩
        obtain ⟨o, e, _⟩ := T.obj _ _ st7 b hb
        exact (Iv.pin (b, o) (List.mem_append_right _ (List.mem_append_right _ (mem_pinsAt hb e)))).2.1
      cases ok with
      | false =>
        have w9 : W (i + 1) ys H9 := q9
        obtain ⟨t9, f9⟩ := keepIt I9
        exact ⟨_, less w9, i + 1, ys, H9, forget I9.unpinned, t9, f9, w9, rfl⟩
      | true =>
        have el := hE' _ s9 _ H9 _ I9 q9
        rw [xe] at el
        refine thn el fun yv s10 ⟨y, H10, I10, r10, hD10, hz10, w10⟩ => ?_
        have ap := mt_append (X := X') _ s10 _ H10 (.ref D) [y] (.ref D) [yv] (fun _ H' => H' = upd H10 D (.lst (ys ++ [y]))) I10 rfl (.cons r10 .nil) ⟨D, ys, y, rfl, rfl, hD10, hz10, rfl⟩
        rw [xe] at ap
        refine thn ap fun _ s11 ⟨_, H11, I11, _, e11⟩ => ?_
        subst e11
        obtain ⟨t11, f11⟩ := keepIt I11
        exact ⟨_, less w10, i + 1, ys ++ [y], _, forget I11.unpinned, t11, f11, w10, rfl⟩
  rw [xenv] at loop
  exact codeAny_compStart_list loop (T.self _ 0 _ _ _ (T.keep 0 _ _ st fun b _ o e => up4 b o (old b o e)) loop)
theorem pe_comp {wi : TI} (O : CompOk X sc scope fv js x) (hc : X.calm = true) (hi : PI X (.Name x px) iter wi) (hT : ∀ C s H fp, PIfs (cxComp X (fv ++ [x]) scope C s H fp) ifs tt) (hE : ∀ C s H fp, PE (cxComp X (fv ++ [x]) scope C s H fp) elt te)
    (hs : ∀ x, foldedSetIterable iter X.env x = pure x := by intro _; rfl) : PE X (.ListComp elt [⟨.Name x px, iter, ifs, 0⟩] scope pos) (tComp js wi tt te) := by
  intro pins s σ H Q I h
  rw [eval_ListComp]
  refine wpAny_comprehension_free (use := none) rfl hs (closure_is (O.cells I.ok)) O.kind O.own (thn (hi pins s σ H _ I h) fun v s1 h1 => thn h1 fun itv s2 h2 => ?_)
  obtain ⟨it, fp, tn, J, H2, e, I2, T, st2, f2, run⟩ := h2
  subst e
  refine comp_core (RR := fun acc C => compPost (model X.prog X.w) X.A X.xe none (EP X pins σ Q) acc C) O hc hT hE I2 T st2 f2 run ?_
  intro D C s' H' I' f' ns' q
  obtain ⟨m, hm⟩ := ns'
  refine ⟨m, hm, fun h' sb => ⟨.ref D, H', ?_, rfl, q⟩⟩
  exact I'.turned (t' := s'.toks) (fun b o hb e => (sb.2 b hb).trans e) f'.1 f'.2.1 f'.2.2.2.1 f'.2.2.2.2.1 f'.2.2.2.2.2
theorem ps_comp {wi : TI} {i : Nat} {y : Str} {py spos : Pos} (O : CompOk X sc scope fv js x) (hc : X.calm = true) (hN : X.N.Nodup) (hy : X.N[i]? = some y) (hl : X.env.scope.names.lookup y = some .local) (hi : PI X (.Name x px) iter wi)
    (hT : ∀ C s H fp, PIfs (cxComp X (fv ++ [x]) scope C s H fp) ifs tt) (hE : ∀ C s H fp, PE (cxComp X (fv ++ [x]) scope C s H fp) elt te)
    (hsw : swapsWith (.ListComp elt [⟨.Name x px, iter, ifs, 0⟩] scope pos) (some (.Name y py)) spos.line X.env = pure true) (hs : ∀ x, foldedSetIterable iter X.env x = pure x := by intro _; rfl) :
    PS X (.Assign [.Name y py] (.ListComp elt [⟨.Name x px, iter, ifs, 0⟩] scope pos) spos) (tAsg (tComp js wi tt te) (gName i)) := by
  intro pins s σ H D I h
  rw [exec_Assign_Name_used _ _ _ _ hsw]
  refine wpAny_bind (wpAny_standAt (wpAny_bind ?_))
  show wpAny _ X.A (do let _ ← comprehension (.ListComp elt [⟨.Name x px, iter, ifs, 0⟩] scope pos) scope X.env _ (newList []) false (eval iter X.env) (some (assign (.Name y py) X.env))) _ _ s
  refine wpAny_bind (wpAny_mono (wpAny_comprehension_free (use := some (assign (.Name y py) X.env)) (Q := fun _ s' => SP X pins D .next s') rfl hs (closure_is (O.cells I.ok)) O.kind O.own
    (thn (hi pins s σ H _ I h) fun v s1 h1 => thn h1 fun itv s2 h2 => ?_)) (fun _ s' hq => wpAny_pure (wpAny_pure hq)) fun _ _ e => e)
  obtain ⟨it, fp, tn, J, H2, e, I2, T, st2, f2, run⟩ := h2
  subst e
  refine comp_core (RR := fun acc C => compPost (model X.prog X.w) X.A X.xe (some (assign (.Name y py) X.env)) (fun _ s' => SP X pins D .next s') acc C) O hc hT hE I2 T st2 f2 run ?_
  intro L C s' H' I' f' ns' q
  obtain ⟨m, hm⟩ := ns'
  show wpAny _ X.A (assign (.Name y py) X.env (.ref L)) _ _ s'
  refine wpAny_assign_Name (store_ok2 I' hN hy (.inl hl) (v := .ref L) rfl (fun s'' I'' ⟨a, sb, ha⟩ => ?_) (.inr hl))
  have hCa : C ≠ a := by
    rcases ha with z | z
    · rw [z]; exact f'.2.1
    · exact fun e => f'.2.2.2.2.1 y a z e.symm
  refine ⟨m, hm.sameBut sb hCa, fun h3 sb3 => ?_⟩
  refine ⟨σ.set i (some (.ref L)), H', ?_, q⟩
  exact I''.turned (t' := s''.toks) (fun b o hb e => (sb3.2 b hb).trans e) f'.1 f'.2.1 f'.2.2.2.1 f'.2.2.2.2.1 f'.2.2.2.2.2
end
theorem comp_list {K : PySem.W.Frag} {a : Addr} {xs : List V} {js : List Nat} {tt : TT} {te : TE} {σ : St} {H : Hp} {Q : VK}
    (h : ∀ D, H D = none → ∃ Pv : Nat → List V → Hp → Prop, Pv 0 [] (upd H D (.lst [])) ∧ (∀ i ys H, Pv i ys H → i ≤ xs.length ∧ SqL K H a xs) ∧
      (∀ i x ys H, xs[i]? = some x → Pv i ys H → tt (fvals js σ ++ [some x]) H fun c H2 => if c = true then te (fvals js σ ++ [some x]) H2 fun y H3 => H3 D = some (.lst ys) ∧ ys.length < sizeLine ∧ Pv (i + 1) (ys ++ [y]) (upd H3 D (.lst (ys ++ [y]))) else Pv (i + 1) ys H2) ∧
      ∀ ys H, Pv xs.length ys H → Q (.ref D) H) : compRun js tt te (Itl K a) σ H Q := by
  intro D hD
  obtain ⟨Pv, h0, hl, hs, hd⟩ := h D hD
  refine ⟨xs.length, Pv, h0, fun i ys H p => ?_⟩
  obtain ⟨hi, q⟩ := hl i ys H p
  refine ⟨hi, ?_⟩
  by_cases hlt : i < xs.length
  · refine .inr ⟨⟨xs, xs[i], q, by simp [hlt]⟩, fun x H' y => ?_⟩
    obtain ⟨rfl, y⟩ := y
    exact hs i x ys _ (y xs q) p
  · have e : i = xs.length := by omega
    subst e
    exact .inl ⟨⟨xs, q, Nat.le_refl _⟩, hd ys H p⟩
theorem comp_range {lo : Int} {n : Nat} {js : List Nat} {tt : TT} {te : TE} {σ : St} {H : Hp} {Q : VK}
    (h : ∀ D, H D = none → ∃ Pv : Nat → List V → Hp → Prop, Pv 0 [] (upd H D (.lst [])) ∧ (∀ i ys H, Pv i ys H → i ≤ n) ∧
      (∀ i ys H, i < n → Pv i ys H → tt (fvals js σ ++ [some (.int (lo + i))]) H fun c H2 => if c = true then te (fvals js σ ++ [some (.int (lo + i))]) H2 fun y H3 => H3 D = some (.lst ys) ∧ ys.length < sizeLine ∧ Pv (i + 1) (ys ++ [y]) (upd H3 D (.lst (ys ++ [y]))) else Pv (i + 1) ys H2) ∧
      ∀ ys H, Pv n ys H → Q (.ref D) H) : compRun js tt te (Itr lo n) σ H Q := by
  intro D hD
  obtain ⟨Pv, h0, hl, hs, hd⟩ := h D hD
  refine ⟨n, Pv, h0, fun i ys H p => ⟨hl i ys H p, ?_⟩⟩
  by_cases hlt : i < n
  · refine .inr ⟨hlt, fun x H' y => ?_⟩
    obtain ⟨rfl, rfl⟩ := y
    exact hs i ys _ hlt p
  · have e : i = n := by have := hl i ys H p; omega
    subst e
    exact .inl ⟨Nat.le_refl _, hd ys H p⟩
end L2
namespace L2
open PySem PySem.Spec PyProof.Rows
def Itv (K : PySem.W.Frag) (a : Addr) (n : Nat) : It :=
  ⟨fun i H => i < n ∧ ∃ xs, SqL K H a xs ∧ xs.length = n, fun i H x H' => H' = H ∧ ∀ xs, SqL K H a xs → xs[n - 1 - i]? = some x, fun i H => i = n⟩
theorem turn_rev {P : Program} {w : World} {K : PySem.W.Frag} {tg : Expr} (a it : Addr) (n : Nat) : Turn P w K tg (Itv K a n) [it] it (fun i h => h.IsRevIter it a ((n : Int) - 1 - (i : Int))) where
  mem := List.mem_singleton.mpr rfl
  obj := fun i h st b hb => by
    rw [List.mem_singleton.mp hb]
    obtain ⟨o, e, c, d⟩ := st
    exact ⟨o, e, fun v z => by rw [d] at z; cases z⟩
  keep := fun i h h' st k => st.at fun o e => k it (List.mem_singleton.mpr rfl) o e
  item := by
    intro X hP hw hK hc i pins s σ H E I hf st hg
    subst hP hw hK
    obtain ⟨hi, xs, hq, hn⟩ := hg
    obtain ⟨its, rv, p, hz⟩ := I.list hq
    have hlt : n - 1 - i < xs.length := by omega
    obtain ⟨y, hy⟩ : ∃ y, xs[n - 1 - i]? = some y := ⟨_, List.getElem?_eq_getElem hlt⟩
    obtain ⟨u, hu, ru⟩ := rv.get hy
    obtain ⟨f0, f1, f2, f3, f4, f5⟩ := hf it (List.mem_singleton.mpr rfl)
    have e1 : (n : Int) - 1 - (i : Int) = ((n - 1 - i : Nat) : Int) := by omega
    have st' := st
    rw [e1] at st'
    refine wpAny_pyNext_rev_item st' p.isList (x := u) (by simpa using hu) fun h' st2 sb => ?_
    have e2 : ((n - 1 - i : Nat) : Int) - 1 = (n : Int) - 1 - ((i + 1 : Nat) : Int) := by omega
    rw [e2] at st2
    have I1 : Inv X pins σ H { s with heap := h' } := I.turned (t' := s.toks) (fun b o hb e => (sb.2 b hb).trans e) f0 f1 f3 f4 f5
    obtain ⟨o, e, c, d⟩ := id st2
    exact ⟨u, rfl, go_of (s := { s with heap := h' }) e c d (by decide) ⟨y, H, I1, ru, ⟨rfl, fun ys hy' => by rw [I.list_inj hy' hq]; exact hy⟩, st2, fun b hb => (hf b hb).1⟩⟩
  done := by
    intro X hP hw hK hc i pins s σ H E I hf st hg
    subst hP hw hK
    obtain ⟨f0, f1, f2, f3, f4, f5⟩ := hf it (List.mem_singleton.mpr rfl)
    have e1 : (n : Int) - 1 - (i : Int) = -1 := by have : i = n := hg; omega
    have st' := st
    rw [e1] at st'
    exact wpAny_pyNext_rev_end (I.ok.hd hc) st' fun h' eb => ⟨rfl, I.turned (t' := s.toks) (fun b o hb e => eb b o hb e) f0 f1 f3 f4 f5⟩
  self := fun _ _ _ _ _ st h => wpAny_pyIter_revIter st h
def iRev (K : PySem.W.Frag) (ta : TA) : TI := fun σ H R => ta σ H fun vs H1 => ∃ a xs, vs = [.ref a] ∧ SqL K H1 a xs ∧ R (Itv K a xs.length) H1
section
variable {X : Cx} {tg : Expr}
theorem pi_rev {e : Expr} {ta : TA} {p pos : Pos} (hg : Gl X "reversed") (hm : X.mg "reversed" = none) (ha : PA X [e] ta) (hs : starEach [e] X.env = [(false, eval e X.env)] := by rfl) : PI X tg (.Call (.Name "reversed" p) [e] [] pos) (iRev X.K ta) := by
  intro pins s σ H R I h
  refine Call_ (ld_blt I hg hm boot_reversed (PyProof.Rows.callWith_type1 (thn (ha pos pins s σ H _ I h) fun us s1 ⟨vs, H1, I1, r1, q1⟩ => ?_) hs rfl))
  obtain ⟨a, xs, rfl, hq, q⟩ := q1
  obtain ⟨u, rfl, ru⟩ := vals1 r1
  cases ru
  obtain ⟨its, rv, pl, hz⟩ := I1.list hq
  have hl := rv.length
  refine call_reversed_list pl.isList ?_
  have hit : (s1.heap.push (revObj a ((its.toArray.size : Int) - 1))).IsRevIter s1.heap.objs.size a ((its.toArray.size : Int) - 1) := ⟨_, Heap.get?_push_size _ rfl, rfl, rfl⟩
  refine wpAny_pyIter_revIter (s := { s1 with heap := s1.heap.push (revObj a ((its.toArray.size : Int) - 1)) }) hit ?_
  refine ⟨s1.heap.objs.size, [s1.heap.objs.size], _, _, H1, rfl, I1.kept (t' := s1.toks) fun b o e => Heap.get?_push_of_some _ e, turn_rev a _ xs.length, ?_, fun b hb => ?_, q⟩
  · have e1 : (xs.length : Int) - 1 - ((0 : Nat) : Int) = (its.toArray.size : Int) - 1 := by
      rw [List.size_toArray, ← hl]; omega
    show (s1.heap.push (revObj a ((its.toArray.size : Int) - 1))).IsRevIter s1.heap.objs.size a ((xs.length : Int) - 1 - ((0 : Nat) : Int))
    rw [e1]; exact hit
  · rw [List.mem_singleton.mp hb]
    exact I1.fpOk (Nat.le_refl _) (I1.hok.fresh (Nat.le_refl _))
end
theorem for_rev {K : PySem.W.Frag} {a : Addr} {xs : List V} {g : TG} {tb : TS} {D : Ends} {σ : St} {H : Hp} (Pv : Nat → St → Hp → Prop) (h0 : Pv 0 σ H) (hl : ∀ i σ H, i ≤ xs.length → Pv i σ H → SqL K H a xs)
    (hs : ∀ i x σ H, i < xs.length → xs[xs.length - 1 - i]? = some x → Pv i σ H → g x σ H fun σ2 H2 => tb { D with nx := Pv (i + 1), ct := Pv (i + 1), bk := D.nx } σ2 H2) (hd : ∀ σ H, Pv xs.length σ H → D.nx σ H) :
    ∃ W : Nat → Nat → St → Hp → Prop, (∃ m, W 0 m σ H) ∧ ∀ i m σ H, W i m σ H →
      ((Itv K a xs.length).stop i H ∧ D.nx σ H) ∨ ((Itv K a xs.length).go i H ∧ ∃ N : St → Hp → Prop, (∀ σ' H', N σ' H' → ∃ m', m' < m ∧ W (i + 1) m' σ' H') ∧ ∀ x H', (Itv K a xs.length).yld i H x H' → g x σ H' fun σ2 H2 => tb { D with nx := N, ct := N, bk := D.nx } σ2 H2) := by
  refine ⟨fun i m σ H => m = xs.length - i ∧ i ≤ xs.length ∧ Pv i σ H, ⟨xs.length, by simp, Nat.zero_le _, h0⟩, ?_⟩
  rintro i m σ H ⟨rfl, hi, p⟩
  have q := hl i σ H hi p
  by_cases hlt : i < xs.length
  · refine .inr ⟨⟨hlt, xs, q, rfl⟩, Pv (i + 1), fun σ' H' p' => ⟨xs.length - (i + 1), by omega, rfl, hlt, p'⟩, fun x H' y => ?_⟩
    obtain ⟨rfl, y⟩ := y
    exact hs i x σ _ hlt (y xs q) p
  · have e : i = xs.length := by omega
    subst e
    exact .inl ⟨rfl, hd σ H p⟩
def Ite (K : PySem.W.Frag) (a : Addr) : It :=
  ⟨fun i H => ∃ xs x, SqL K H a xs ∧ xs[i]? = some x, fun i H v H' => ∃ p y, H p = none ∧ v = .ref p ∧ H' = upd H p (.tup [.int i, y]) ∧ ∀ xs, SqL K H a xs → xs[i]? = some y, fun i H => ∃ xs, SqL K H a xs ∧ xs.length ≤ i⟩
theorem Inv.turned2 {X : Cx} {pins : List (Addr × Obj)} {σ : St} {H : Hp} {s : Shared} {e it p : Addr} {xs : List V} {its : List Value} {h' : Heap} {t' : Nat} (I : Inv X pins σ H s) (fe : FpOk X pins H e) (fi : FpOk X pins H it) (hp : s.heap.objs.size ≤ p)
    (k : ∀ b o, b ≠ e → b ≠ it → s.heap.get? b = some o → h'.get? b = some o) (ke : ∃ o, h'.get? e = some o) (ki : ∃ o, h'.get? it = some o) (ht : h'.get? p = some { cls := .type "tuple", data := .seq its.toArray }) (hv : Vals xs its) (hz : xs.length ≤ sizeLine) :
    Inv X pins σ (upd H p (.tup xs)) { s with heap := h', toks := t' } := by
  have hn : H p = none := I.hok.fresh hp
  have ne : ∀ b o, s.heap.get? b = some o → b ≠ p := fun b o q z => by subst z; exact absurd (Heap.lt_size q) (Nat.not_lt.mpr hp)
  have nt : ∀ b u, H b = some u → b ≠ e ∧ b ≠ it ∧ b ≠ p := fun b u q => ⟨ne_of_none q fe.1, ne_of_none q fi.1, ne_of_none q hn⟩
  refine I.step (g' := s.gens) (d' := s.drawn) (ch := [e, it]) (fun b hb => ?_) (fun b o _ _ hc q _ => k b o (fun z => hc (by simp [z])) (fun z => hc (by simp [z])) q)
    (fun b o _ _ hc q _ => ⟨o.slots, k b o (fun z => hc (by simp [z])) (fun z => hc (by simp [z])) q⟩) (fun b o _ q n => by rw [upd_ne (ne b o q)]; exact n)
    (fun b o hc q => ⟨o, k b o (fun z => hc (by simp [z])) (fun z => hc (by simp [z])) q⟩) (fun b ys q => by rw [upd_ne (nt b _ q).2.2]; exact q) (fun b o u q => by rw [upd_ne (nt b _ q).2.2]; exact q)
    (fun b ps q => ⟨#[], by rw [upd_ne (nt b _ q).2.2, q]; simp⟩) (fun m hm => ?_) (fun b u q => ?_) I.bare
  · rcases List.mem_cons.mp hb with z | z
    · rw [z]; exact ⟨fe.2.2.2.1, fe.2.1, fe.2.2.2.2.1, fe.2.2.2.2.2⟩
    · rw [List.mem_singleton.mp z]; exact ⟨fi.2.2.2.1, fi.2.1, fi.2.2.2.2.1, fi.2.2.2.2.2⟩
  · obtain ⟨o, es, ep, ho, r⟩ := hm
    exact ⟨o, es, ep, k _ o (Ne.symm fe.2.1) (Ne.symm fi.2.1) ho, r⟩
  · by_cases hb : b = p
    · subst hb
      rw [upd_same] at q; cases q
      exact ⟨hz, its, hv, _, ht, rfl, 0, rfl⟩
    · rw [upd_ne hb] at q
      refine (I.hok b u q).stay (fun c v hc z => k c v ?_ ?_ z) (fun c z => by rw [upd_ne (nt c _ z).2.2]; exact z) fun c ys z => by rw [upd_ne (nt c _ z).2.2]; exact z
      · rcases hc with z' | z'
        · rw [z']; exact (nt b u q).1
        · exact (nt c _ z').1
      · rcases hc with z' | z'
        · rw [z']; exact (nt b u q).2.1
        · exact (nt c _ z').2.1
theorem turn_enum {P : Program} {w : World} {K : PySem.W.Frag} {es : List Expr} {x1} {tp : Pos} (a e it : Addr) (hne : e ≠ it) : Turn P w K (.Tuple es x1 tp) (Ite K a) [e, it] e (fun i h => (∃ old, IsEnum h e it (i : Nat) old) ∧ h.IsListIter it a i) where
  mem := List.mem_cons_self ..
  obj := fun i h st b hb => by
    obtain ⟨⟨old, he⟩, o, ei, c, d⟩ := st
    rcases List.mem_cons.mp hb with z | z
    · rw [z]; exact ⟨_, he, fun v q => by cases q⟩
    · rw [List.mem_singleton.mp z]; exact ⟨o, ei, fun v q => by rw [d] at q; cases q⟩
  keep := fun i h h' st k => ⟨let ⟨old, he⟩ := st.1; ⟨old, k e (by simp) _ he⟩, st.2.at fun o q => k it (by simp) o q⟩
  item := by
    intro X hP hw hK hc i pins s σ H E I hf st hg
    subst hP hw hK
    obtain ⟨⟨old, he⟩, hit⟩ := st
    obtain ⟨xs, x, hq, hx⟩ := hg
    obtain ⟨its, rv, p, hz⟩ := I.list hq
    obtain ⟨u, hu, ru⟩ := rv.get hx
    have fe := hf e (by simp)
    have fi := hf it (by simp)
    refine wpAny_pyNext_enum_item he hit p.isList (x := u) (by simpa using hu) hne fun h1 heo hit1 ht1 hz1 hk1 => ?_
    refine ⟨_, rfl, ?_⟩
    have hle : e < s.heap.objs.size := Heap.lt_size he
    refine wpAny_letOwnedTupleGo_enum (s := { s with heap := h1, toks := s.toks + 1 }) heo fun h2 he2 sb2 => ?_
    have sb2 : Heap.SameBut e h1 h2 := sb2
    have ht2 : h2.get? s.heap.objs.size = some { cls := .type "tuple", data := .seq #[.int i s.toks, u] } := (sb2.2 _ (Nat.ne_of_gt hle)).trans ht1
    have hit2 : h2.IsListIter it a (i + 1) := hit1.at fun o q => (sb2.2 it (Ne.symm hne)).trans q
    have I2 : Inv X pins σ (upd H s.heap.objs.size (.tup [.int i, x])) { s with heap := h2, toks := s.toks + 1 } :=
      I.turned2 (its := [.int i s.toks, u]) fe fi (Nat.le_refl _) (fun b o h1' h2' q => (sb2.2 b h1').trans (hk1 b o h1' h2' q)) ⟨_, he2⟩ (let ⟨o, q, _⟩ := hit2; ⟨o, q⟩) ht2 (.cons ⟨_, rfl⟩ (.cons ru .nil)) (by show 2 ≤ sizeLine; decide)
    refine ⟨.ref s.heap.objs.size, _, I2, rfl, ⟨s.heap.objs.size, x, I.hok.fresh (Nat.le_refl _), rfl, rfl, fun ys hy => by rw [I.list_inj hy hq]; exact hx⟩, ⟨⟨u, ?_⟩, hit2⟩, fun b hb => ?_⟩
    · have : ((i + 1 : Nat) : Int) = (i : Int) + 1 := by omega
      show IsEnum h2 e it ((i + 1 : Nat) : Int) u
      rw [this]; exact he2
    · rw [upd_ne (fun z => ?_)]
      · exact (hf b hb).1
      · rcases List.mem_cons.mp hb with q | q
        · rw [q] at z; exact absurd (z ▸ hle) (Nat.lt_irrefl _)
        · rw [List.mem_singleton.mp q] at z
          obtain ⟨o, qo, _⟩ := hit
          exact absurd (z ▸ Heap.lt_size qo) (Nat.lt_irrefl _)
  done := by
    intro X hP hw hK hc i pins s σ H E I hf st hg
    subst hP hw hK
    obtain ⟨⟨old, he⟩, hit⟩ := st
    obtain ⟨xs, hq, hx⟩ := hg
    obtain ⟨its, rv, p, hz⟩ := I.list hq
    have hl := rv.length
    have fi := hf it (by simp)
    exact wpAny_pyNext_enum_end (I.ok.hd hc) he hit p.isList (by simp; omega) fun h' eb => ⟨rfl, I.turned (t' := s.toks) (fun b o hb q => eb b o hb q) fi.1 fi.2.1 fi.2.2.2.1 fi.2.2.2.2.1 fi.2.2.2.2.2⟩
  self := fun A i s Q E st h => let ⟨old, he⟩ := st.1; wpAny_pyIter_enum he h
def iEnum (K : PySem.W.Frag) (ta : TA) : TI := fun σ H R => ta σ H fun vs H1 => ∃ a xs, vs = [.ref a] ∧ SqL K H1 a xs ∧ R (Ite K a) H1
section
variable {X : Cx} {es : List Expr} {x1 : Nat} {tp : Pos}
theorem pi_enum {e : Expr} {ta : TA} {p pos : Pos} {x1} (hg : Gl X "enumerate") (hm : X.mg "enumerate" = none) (ha : PA X [e] ta) (hs : starEach [e] X.env = [(false, eval e X.env)] := by rfl) : PI X (.Tuple es x1 tp) (.Call (.Name "enumerate" p) [e] [] pos) (iEnum X.K ta) := by
  intro pins s σ H R I h
  refine Call_ (ld_blt I hg hm boot_enumerate (PyProof.Rows.callWith_type1 (thn (ha pos pins s σ H _ I h) fun us s1 ⟨vs, H1, I1, r1, q1⟩ => ?_) hs rfl))
  obtain ⟨a, xs, rfl, hq, q⟩ := q1
  obtain ⟨u, rfl, ru⟩ := vals1 r1
  cases ru
  obtain ⟨its, rv, pl, hz⟩ := I1.list hq
  refine call_enumerate_list pl.isList fun h' he hit hz' hk => ?_
  refine wpAny_pyIter_enum (s := { s1 with heap := h' }) he ?_
  refine ⟨s1.heap.objs.size + 1, [s1.heap.objs.size + 1, s1.heap.objs.size], _, _, H1, rfl, I1.kept (t' := s1.toks) hk, turn_enum a _ _ (Nat.succ_ne_self _), ⟨⟨_, he⟩, hit⟩, fun b hb => ?_, q⟩
  rcases List.mem_cons.mp hb with z | z
  · rw [z]; exact I1.fpOk (Nat.le_succ _) (I1.hok.fresh (Nat.le_succ _))
  · rw [List.mem_singleton.mp z]; exact I1.fpOk (Nat.le_refl _) (I1.hok.fresh (Nat.le_refl _))
end
theorem for_enum {K : PySem.W.Frag} {a : Addr} {xs : List V} {g : TG} {tb : TS} {D : Ends} {σ : St} {H : Hp} (Pv : Nat → St → Hp → Prop) (h0 : Pv 0 σ H) (hl : ∀ i σ H, i ≤ xs.length → Pv i σ H → SqL K H a xs)
    (hs : ∀ i x p σ H, xs[i]? = some x → H p = none → Pv i σ H → g (.ref p) σ (upd H p (.tup [.int i, x])) fun σ2 H2 => tb { D with nx := Pv (i + 1), ct := Pv (i + 1), bk := D.nx } σ2 H2) (hd : ∀ σ H, Pv xs.length σ H → D.nx σ H) :
    ∃ W : Nat → Nat → St → Hp → Prop, (∃ m, W 0 m σ H) ∧ ∀ i m σ H, W i m σ H →
      ((Ite K a).stop i H ∧ D.nx σ H) ∨ ((Ite K a).go i H ∧ ∃ N : St → Hp → Prop, (∀ σ' H', N σ' H' → ∃ m', m' < m ∧ W (i + 1) m' σ' H') ∧ ∀ x H', (Ite K a).yld i H x H' → g x σ H' fun σ2 H2 => tb { D with nx := N, ct := N, bk := D.nx } σ2 H2) := by
  refine ⟨fun i m σ H => m = xs.length - i ∧ i ≤ xs.length ∧ Pv i σ H, ⟨xs.length, by simp, Nat.zero_le _, h0⟩, ?_⟩
  rintro i m σ H ⟨rfl, hi, p⟩
  have q := hl i σ H hi p
  by_cases hlt : i < xs.length
  · refine .inr ⟨⟨xs, xs[i], q, by simp [hlt]⟩, Pv (i + 1), fun σ' H' p' => ⟨xs.length - (i + 1), by omega, rfl, hlt, p'⟩, fun x H' y => ?_⟩
    obtain ⟨t, v, hn, rfl, rfl, hy⟩ := y
    exact hs i v t σ H (hy xs q) hn p
  · have e : i = xs.length := by omega
    subst e
    exact .inl ⟨⟨xs, q, Nat.le_refl _⟩, hd σ H p⟩
theorem ObjOk.there {P : Program} {w : World} {H : Hp} {h : Heap} {a : Addr} {o : HO} (x : ObjOk P w H h a o) : ∃ ob, h.get? a = some ob := by
  cases o with
  | lst xs => obtain ⟨_, _, _, _, e⟩ := x; exact ⟨_, e⟩
  | tup xs => obtain ⟨_, _, _, ob, e, _⟩ := x; exact ⟨ob, e⟩
  | dK kvs => obtain ⟨_, _, _, _, o, _, _, e, _⟩ := x; exact ⟨o, e⟩
  | dT kvs => obtain ⟨_, _, _, _, o, _, _, e, _⟩ := x; exact ⟨o, e⟩
  | set S n => obtain ⟨o, _, _, _, e, _⟩ := x; exact ⟨o, e⟩
  | ins C dx fs => obtain ⟨_, _, _, e, _⟩ := x; exact ⟨_, e⟩
  | own y => exact x
  | xd fs => obtain ⟨_, ⟨o, _, _, e, _⟩, _⟩ := x; exact ⟨o, e⟩
  | rng lo hi => obtain ⟨_, _, _, e⟩ := x; exact ⟨_, e⟩
  | frz ob u => obtain ⟨e, _⟩ := x; exact ⟨_, e⟩
  | tbl ps => exact ⟨_, (show h.get? a = some _ from x)⟩
  | met f y => exact ⟨_, (show h.get? a = some _ from x)⟩
  | ext φ => obtain ⟨_, q, _⟩ := x; exact q
theorem HOk.none_of {P : Program} {w : World} {H : Hp} {h : Heap} {a : Addr} (x : HOk P w H h) (e : h.get? a = none) : H a = none := by
  cases q : H a with
  | none => rfl
  | some u =>
    obtain ⟨ob, z⟩ := (x a u q).there
    rw [e] at z; cases z
theorem Inv.laid2 {X : Cx} {pins : List (Addr × Obj)} {σ : St} {H : Hp} {s : Shared} {h' : Heap} {a : Addr} {o : HO} {t' : Nat} (I : Inv X pins σ H s) (k : ∀ b u, s.heap.get? b = some u → h'.get? b = some u) (hp : s.heap.get? a = none) (new : ObjOk X.prog X.w (upd H a o) h' a o) :
    Inv X pins σ (upd H a o) { s with heap := h', toks := t' } := by
  have hn : H a = none := I.hok.none_of hp
  have ne : ∀ b u, s.heap.get? b = some u → b ≠ a := fun b u q z => by rw [z, hp] at q; cases q
  refine I.un ⟨fun b u q _ _ _ => k b u q, fun b u q _ _ _ => ⟨u.slots, k b u q⟩, fun b u q n _ => by rw [upd_ne (ne b u q)]; exact n, fun b u q _ => ⟨u, k b u q⟩, fun b xs q => by rw [upd_ne (ne_of_none q hn)]; exact q, fun b u xs q => by rw [upd_ne (ne_of_none q hn)]; exact q, fun b ps q => ⟨#[], by rw [upd_ne (ne_of_none q hn), q]; simp⟩⟩ fun b u q => ?_
  by_cases hb : b = a
  · subst hb; rw [upd_same] at q; cases q; exact new
  · rw [upd_ne hb] at q
    exact (I.hok b u q).stay (fun c v _ z => k c v z) (fun c z => by rw [upd_ne (ne_of_none z hn)]; exact z) fun c xs z => by rw [upd_ne (ne_of_none z hn)]; exact z
theorem sortedS_srt : ∀ {l : List Str}, sortedS l = true → Fp.Srt l := by
  have up : ∀ (p : Str) (l : List Str), risingS p l = true → (∀ y ∈ l, Fp.sle p y) ∧ Fp.Srt l := by
    intro p l
    induction l generalizing p with
    | nil => intro _; exact ⟨(fun _ h => nomatch h), List.Pairwise.nil⟩
    | cons x r ih =>
      intro h
      have h : (!ltCps x.cps.toList p.cps.toList && risingS x r) = true := h
      rw [Bool.and_eq_true] at h
      obtain ⟨h1, h2⟩ := h
      obtain ⟨a, b⟩ := ih x h2
      have hpx : Fp.sle p x := by
        rw [ltCps_eq] at h1
        simpa using h1
      refine ⟨fun y hy => ?_, List.pairwise_cons.mpr ⟨a, b⟩⟩
      rcases List.mem_cons.mp hy with e | e
      · rw [e]; exact hpx
      · exact Fp.sle_trans hpx (a y e)
  intro l h
  cases l with
  | nil => exact List.Pairwise.nil
  | cons x r =>
    obtain ⟨a, b⟩ := up x r h
    exact List.pairwise_cons.mpr ⟨a, b⟩
theorem strsAre_of : ∀ {ss : List Str} {us : List Value}, Vals (ss.map V.str) us → StrsAre us ss
  | [], _, .nil => .nil
  | s :: r, _, .cons h t => by
    obtain ⟨tk, rfl⟩ := h
    exact .cons s tk (strsAre_of t)
theorem vals_strs : ∀ {ss : List Str} {us : List Value}, StrsAre us ss → Vals (ss.map V.str) us
  | _, _, .nil => .nil
  | _, _, .cons s tk t => .cons ⟨tk, rfl⟩ (vals_strs t)
section
variable {X : Cx}
def rSorted (K : PySem.W.Frag) : List V → Hp → VK → Prop := fun xs H Q => ∃ p ss, xs = [.ref p] ∧ SqL K H p (ss.map V.str) ∧ ss.length < 64 ∧
  ∀ l ss', H l = none → ss'.Perm ss → Fp.Srt ss' → Q (.ref l) (upd H l (.lst (ss'.map V.str)))
theorem call_sorted : CallR X (.builtin "sorted") (rSorted X.K) := by
  intro pins s σ H xs us Q I r h
  obtain ⟨p, ss, rfl, hq, h64, q⟩ := h
  obtain ⟨u, rfl, ru⟩ := vals1 r
  cases ru
  obtain ⟨its, rv, pl, hz⟩ := I.list hq
  have hl := rv.length
  rw [List.length_map] at hl hz
  refine sorted_strs pl.isList (strsAre_of rv) (by omega) fun out ss' hS hp hs => ?_
  obtain ⟨e, he⟩ := sortedAll_at s.heap its out
  have hlen := hp.length_eq
  refine ⟨.ref (s.heap.objs.size + 1), _, I.laid (a := s.heap.objs.size + 1) (o := .lst (ss'.map V.str)) (t' := s.toks) (fun b o hb => sortedAll_old hb) (Nat.le_succ _) ?_, rfl, q _ ss' (I.hok.fresh (Nat.le_succ _)) hp (sortedS_srt hs)⟩
  refine ⟨by rw [List.length_map]; omega, out.toList, e, vals_strs hS, ?_⟩
  simpa [seqObj] using he
def rSortedD : List V → Hp → VK → Prop := fun xs H Q => ∃ p kvs ss, xs = [.ref p] ∧ H p = some (.dK kvs) ∧ kvs.map (·.1) = ss.map (Sum.inr : Str → Key) ∧ ss.length < 64 ∧
  ∀ l ss', H l = none → ss'.Perm ss → Fp.Srt ss' → Q (.ref l) (upd H l (.lst (ss'.map V.str)))
theorem call_sortedD (hc : X.A.handled = none) : CallR X (.builtin "sorted") rSortedD := by
  intro pins s σ H xs us Q I r h
  obtain ⟨p, kvs, ss, rfl, hq, hk, h64, q⟩ := h
  obtain ⟨u, rfl, ru⟩ := vals1 r
  cases ru
  obtain ⟨z, hd, vs, rel, dd⟩ := dk_of I.hok hq
  obtain ⟨ep, hat⟩ := dd.dictAt
  have hl1 := rel.length
  have hl2 : kvs.length = ss.length := by have := congrArg List.length hk; simpa using this
  refine Calls.call_function_entry kind_sorted plain_sorted entry_sorted (args_sorted1 _) ?_
  unfold Builtin.«sorted»
  refine wpAny_bind (m := checkCount "sorted" 1 1 _) (wpAny_pure ?_)
  refine wpAny_bind (PySem.W.kdu_collect (A := X.A.in1) (PySem.W.kdl_dict (knd := mixKind X.prog X.w) (kvs := vs) (ep := ep) hd) hc hat (by omega) fun h' tk acc hk' hacc => ?_)
  have hal : acc.toList.length = vs.length := by rw [Array.length_toList]; exact hacc.1
  have hst : StrsAre acc.toList ss := by
    have keys : vs.map (·.1) = ss.map (Sum.inr : Str → Key) := by rw [← rel.keys]; exact hk
    have go : ∀ (l : List Value) (ss : List Str), l.length = ss.length → (∀ (j : Nat) (v : Value), l[j]? = some v → ∃ x, ss[j]? = some x ∧ ∃ t, v = Value.str x t) → StrsAre l ss := by
      intro l
      induction l with
      | nil => intro ss e _; cases ss with
        | nil => exact .nil
        | cons _ _ => simp at e
      | cons a l ih =>
        intro ss e h
        cases ss with
        | nil => simp at e
        | cons x r =>
          obtain ⟨y, hy, t, rfl⟩ := h 0 a rfl
          have : x = y := by simpa using hy
          subst this
          exact .cons x t (ih r (by simpa using e) fun j v hj => by simpa using h (j + 1) v (by simpa using hj))
    refine go _ _ (by omega) fun j v hj => ?_
    obtain ⟨k, xv, hx, hkv⟩ := hacc.2 j v (by rw [← Array.getElem?_toList]; exact hj)
    have e1 : (vs.map (·.1))[j]? = some k := by rw [List.getElem?_map, hx]; rfl
    rw [keys, List.getElem?_map] at e1
    cases e2 : ss[j]? with
    | none => rw [e2] at e1; cases e1
    | some x =>
      rw [e2] at e1
      have : Sum.inr x = k := Option.some.inj e1
      subst this
      refine ⟨x, rfl, ?_⟩
      have hkv' : keyIs (Sum.inr x) v = true := hkv
      rcases keyIs_shape hkv' with ⟨i, t, e, _⟩ | ⟨y, t, e, ev⟩
      · cases e
      · cases e; exact ⟨t, ev⟩
  refine wpAny_bind (wpAny_newList ?_ (by omega))
  have ho : (h'.push { cls := .type "list", data := .seq acc.toList.toArray }).get? h'.objs.size = some (seqObj "list" acc.toList.toArray 0) := Heap.get?_push_size _ rfl
  have hno : s.heap.get? h'.objs.size = none := by
    cases e : s.heap.get? h'.objs.size with
    | none => rfl
    | some o => exact absurd (Heap.lt_size (hk' _ _ e)) (Nat.lt_irrefl _)
  refine wpAny_bind (wpAny_holding (wpAny_call_entry slot_list_sort ⟨_, ho, rfl⟩ entry_list_sort (list_sort_treeK strKind_oneLt ho hst.keysOf (fun v₁ v₂ rest e => keyKind_strs (by rw [← e]; exact hst)) (by omega) fun st' hp hs => ⟨_, rfl, ?_⟩) (args_list_sort _)))
  obtain ⟨ss', h1, h2, h3⟩ := sorted_out_str hst hp hs
  refine wpAny_pure ⟨_, rfl, ?_⟩
  have hlen := h2.length_eq
  obtain ⟨e, he⟩ := sortedHeap_at (out := (arrOf st').map (·.2)) ho
  refine ⟨.ref h'.objs.size, _, I.laid2 (a := h'.objs.size) (o := .lst (ss'.map V.str)) (t' := tk) (fun b o hb => ?_) hno ?_, rfl, q _ ss' (I.hok.none_of hno) h2 (sortedS_srt h3)⟩
  · have hb' := hk' b o hb
    have hlt := Heap.lt_size hb'
    rw [sortedHeap_old (Nat.ne_of_lt hlt) (by rw [Heap.size_push]; exact Nat.lt_succ_of_lt hlt)]
    exact Heap.get?_push_of_some _ hb'
  · refine ⟨by rw [List.length_map]; omega, _, e, vals_strs h1, ?_⟩
    rw [Array.toArray_toList]
    exact he
def rIsin (K : PySem.W.Frag) : List V → Hp → VK → Prop := fun xs H Q => ∃ x T t b, xs = [x, .ty T] ∧ TyOf K H x t ∧ PySem.W.kitOne K t (.type T) = some b ∧ Q (.bl b) H
theorem call_isin : CallR X (.builtin "isinstance") (rIsin X.K) := by
  intro pins s σ H xs us Q I r h
  obtain ⟨x, T, t, b, rfl, ty, e, q⟩ := h
  obtain ⟨u, w', rfl, ru, rw'⟩ := vals2 r
  cases (show w' = Value.type T from rw')
  exact isinst_ok I ru ty e fun tk => ⟨.bl b, H, I.tok _, rfl, q⟩
theorem call_dictOf : CallR X (.type "dict") (fun xs H Q => ∃ a kvs, xs = [.ref a] ∧ H a = some (.dK kvs) ∧ ∀ p, H p = none → Q (.ref p) (upd H p (.dK kvs))) := by
  intro pins s σ H xs us Q I r h
  obtain ⟨a, kvs, rfl, ha, q⟩ := h
  obtain ⟨u, rfl, ru⟩ := vals1 r
  cases ru
  exact d_copyOf I (.inl ha) fun p s' hp I' => ⟨.ref p, _, I', rfl, q p hp⟩
end
end L2
namespace L2
open PySem PySem.Spec PyProof.Rows
def Lk (K : PySem.W.Frag) (f : Addr) (fd : FuncData) : Prop := ∃ oc od osl, K.lookup f = some ⟨oc, od, .func fd, osl⟩
theorem Fun.lk {K : PySem.W.Frag} {x q : Str} {st : Stmt} {f : Addr} {fd : FuncData} (F : Fun K x q st f fd) : Lk K f fd := by
  obtain ⟨oc, od, kV, doc, pm, an, cdv, ct, osl, e, l, _⟩ := F.ex
  exact ⟨oc, od, osl, l⟩
structure Fd (P : Program) (w : World) (K : PySem.W.Frag) (mg : Str → Option Value) (base : Heap) (k : Nat) (x : Str) (ps : List Str) (sp : Sp) : Prop where
  ex : ∃ f fd, FnOk P w K mg base CX0 k f fd ps sp ∧ mg x = some (.ref f) ∧ PySem.W.keepIn K (.ref f) = true ∧ Binds K fd ps [] ∧ Lk K f fd
section
variable {X : Cx} {k : Nat} {x : Str} {ps : List Str} {sp : Sp} {p pos : Pos} {e : Expr} {es : List Expr} {t : TA}
theorem pe_fd (D : Fd X.prog X.w X.K X.mg X.base k x ps sp) (hr : Room k X.A) (hg : Gl X x) (ha : PA X (e :: es) t) (hdb : (x == ("__debug__" : Str)) = false := by decide) (he : starEach (e :: es) X.env = (false, eval e X.env) :: starEach es X.env := by rfl) (hpl : (backTo pos (starEach es X.env)).any (·.1) = false := by rfl) :
    PE X (.Call (.Name x p) (e :: es) [] pos) (tCall sp [] E0 t) := by
  obtain ⟨f, fd, F, hm, hk, hb, _⟩ := D.ex
  exact pe_call F hr hg hm hk hb .nil pass0 ha hdb he hpl
end
theorem bt_int : bootBuiltins "int" = some (.type "int") := boot_int
theorem bt_str : bootBuiltins "str" = some (.type "str") := boot_str
theorem bt_list : bootBuiltins "list" = some (.type "list") := boot_list
theorem bt_tuple : bootBuiltins "tuple" = some (.type "tuple") := boot_tuple
theorem bt_bool : bootBuiltins "bool" = some (.type "bool") := boot_bool
theorem bt_dict : bootBuiltins "dict" = some (.type "dict") := boot_dict
theorem bt_sorted : bootBuiltins "sorted" = some (.builtin "sorted") := boot_sorted
theorem bt_isinstance : bootBuiltins "isinstance" = some (.builtin "isinstance") := by decide +kernel
theorem bt_min : bootBuiltins "min" = some (.builtin "min") := by decide +kernel
theorem bt_max : bootBuiltins "max" = some (.builtin "max") := by decide +kernel
structure Blt (mg : Str → Option Value) : Prop where
  len_ : mg "len" = none
  sorted_ : mg "sorted" = none
  isinstance_ : mg "isinstance" = none
  int_ : mg "int" = none
  str_ : mg "str" = none
  list_ : mg "list" = none
  tuple_ : mg "tuple" = none
  bool_ : mg "bool" = none
  dict_ : mg "dict" = none
  range_ : mg "range" = none
  enumerate_ : mg "enumerate" = none
  reversed_ : mg "reversed" = none
  min_ : mg "min" = none
  max_ : mg "max" = none
theorem itD {c A B : Prop} [Decidable c] (hc : c) (h : A) : if decide c = true then A else B := by rw [decide_eq_true hc]; exact h
theorem ifD {c A B : Prop} [Decidable c] (hc : ¬ c) (h : B) : if decide c = true then A else B := by rw [decide_eq_false hc]; exact h
theorem itN {c A B : Prop} [Decidable c] (hc : ¬ c) (h : A) : if (!decide c) = true then A else B := by rw [decide_eq_false hc]; exact h
theorem ifN {c A B : Prop} [Decidable c] (hc : c) (h : B) : if (!decide c) = true then A else B := by rw [decide_eq_true hc]; exact h
theorem itB {b : Bool} {A B : Prop} (hb : b = true) (h : A) : if b = true then A else B := by rw [hb]; exact h
theorem ifB {b : Bool} {A B : Prop} (hb : b = false) (h : B) : if b = true then A else B := by rw [hb]; exact h
theorem iteB {b : Bool} {A B : Prop} (h1 : b = true → A) (h2 : b = false → B) : if b = true then A else B := by
  cases b
  · exact h2 rfl
  · exact h1 rfl
theorem lk {l : List V} (n : Nat) (h : l.length = n := by rfl) (hn : n ≤ 1000 := by decide) : l.length ≤ sizeLine := by
  rw [h]; exact Nat.le_trans hn (by decide)
theorem Same.upd {H H' : Hp} {p : Addr} {o : HO} (e : Same H H') (hp : H p = none) : Same H (upd H' p o) := fun b u q => by
  rw [upd_ne (ne_of_none q hp)]; exact e b u q
theorem same_upd {H : Hp} {p : Addr} {o : HO} (hp : H p = none) : Same H (upd H p o) := (Same.refl H).upd hp
theorem Same.ne {H H' : Hp} (e : Same H H') {a b : Addr} {o : HO} (h : H a = some o) (hb : H' b = none) : a ≠ b := ne_of_none (e a o h) hb
end L2
namespace Fp
open PySem L2
def word : Kd → Str
  | .add => "add"
  | .sub => "sub"
  | .mul => "mul"
def rowV : Row → List V
  | .set n k => [.str "set", .str n, .int k]
  | .take n => [.str "take", .str n]
  | .op o n a b => [.str (word o), .str n, .str a, .str b]
  | .tell n => [.str "tell", .str n]
def RowAt (H : Hp) (v : V) (r : Row) : Prop := ∃ a, v = .ref a ∧ H a = some (.tup (rowV r))
abbrev RowsAt (H : Hp) (xs : List V) (rows : List Row) : Prop := Paired (RowAt H) xs rows
theorem RowAt.same {H H' : Hp} (e : Same H H') {v : V} {r : Row} (h : RowAt H v r) : RowAt H' v r := let ⟨a, x, y⟩ := h; ⟨a, x, e a _ y⟩
theorem RowsAt.same {H H' : Hp} (e : Same H H') {xs : List V} {rows : List Row} (h : RowsAt H xs rows) : RowsAt H' xs rows := Paired.mapP h fun _ _ q => q.same e
theorem paired_get {α β : Type} {F : α → β → Prop} : ∀ {l : List α} {m : List β} {i : Nat} {a : α}, Paired F l m → l[i]? = some a → ∃ b, m[i]? = some b ∧ F a b
  | _, _, _, _, .nil, e => by simp at e
  | _, _, 0, _, .cons r _, e => by simp at e; subst e; exact ⟨_, rfl, r⟩
  | _, _, i + 1, a, .cons _ t, e => by
    obtain ⟨b, h1, h2⟩ := paired_get (i := i) (a := a) t (by simpa using e)
    exact ⟨b, by simpa using h1, h2⟩
theorem paired_get' {α β : Type} {F : α → β → Prop} : ∀ {l : List α} {m : List β} {i : Nat} {b : β}, Paired F l m → m[i]? = some b → ∃ a, l[i]? = some a ∧ F a b
  | _, _, _, _, .nil, e => by simp at e
  | _, _, 0, _, .cons r _, e => by simp at e; subst e; exact ⟨_, rfl, r⟩
  | _, _, i + 1, a, .cons _ t, e => by
    obtain ⟨b, h1, h2⟩ := paired_get' (i := i) (b := a) t (by simpa using e)
    exact ⟨b, by simpa using h1, h2⟩
theorem paired_append {α β : Type} {F : α → β → Prop} : ∀ {l l' : List α} {m m' : List β}, Paired F l m → Paired F l' m' → Paired F (l ++ l') (m ++ m')
  | _, _, _, _, .nil, h => h
  | _, _, _, _, .cons r t, h => .cons r (paired_append t h)
theorem paired_drop {α β : Type} {F : α → β → Prop} : ∀ {l : List α} {m : List β} (n : Nat), Paired F l m → Paired F (l.drop n) (m.drop n)
  | _, _, 0, h => h
  | _, _, _ + 1, .nil => .nil
  | _, _, n + 1, .cons _ t => paired_drop n t
mutual
inductive Dt where
  | non | int (i : Int) | str (x : Str) | lst (l : Dl) | tup (l : Dl)
inductive Dl where
  | nil | cons (d : Dt) (l : Dl)
end
mutual
def Is (H : Hp) : Dt → V → Prop
  | .non, v => v = .non
  | .int i, v => v = .int i
  | .str x, v => v = .str x
  | .lst l, v => ∃ a xs, v = .ref a ∧ H a = some (.lst xs) ∧ Isl H l xs
  | .tup l, v => ∃ a xs, v = .ref a ∧ H a = some (.tup xs) ∧ Isl H l xs
def Isl (H : Hp) : Dl → List V → Prop
  | .nil, xs => xs = []
  | .cons d l, xs => ∃ x r, xs = x :: r ∧ Is H d x ∧ Isl H l r
end
mutual
theorem Is.same {H H' : Hp} (e : Same H H') : ∀ {d : Dt} {v : V}, Is H d v → Is H' d v
  | .non, _, h => h
  | .int _, _, h => h
  | .str _, _, h => h
  | .lst l, _, h => by
    simp only [Is] at h ⊢
    obtain ⟨a, xs, h1, h2, h3⟩ := h
    exact ⟨a, xs, h1, e a _ h2, Isl.same e h3⟩
  | .tup l, _, h => by
    simp only [Is] at h ⊢
    obtain ⟨a, xs, h1, h2, h3⟩ := h
    exact ⟨a, xs, h1, e a _ h2, Isl.same e h3⟩
theorem Isl.same {H H' : Hp} (e : Same H H') : ∀ {l : Dl} {xs : List V}, Isl H l xs → Isl H' l xs
  | .nil, _, h => h
  | .cons d l, _, h => by
    simp only [Isl] at h ⊢
    obtain ⟨x, r, h1, h2, h3⟩ := h
    exact ⟨x, r, h1, Is.same e h2, Isl.same e h3⟩
end
def Dl.of : List Dt → Dl
  | [] => .nil
  | d :: r => .cons d (Dl.of r)
def Dl.toList : Dl → List Dt
  | .nil => []
  | .cons d l => d :: l.toList
end Fp
namespace L2
open PySem PySem.Spec PyProof.Rows
structure Fly (P : Program) (w : World) (outer : List Env) (H : Hp) (s : Shared) (C x : Addr) (H' : Hp) (s' : Shared) : Prop where
  os : s'.os = s.os
  bare : AllBare s'.gens
  un : Un (frs outer) [] H H' s.heap s'.heap
  hok : HOk P w H' s'.heap
  fly : ∃ (B : Heap) (a0 : Value), Heap.FlyingW B outer x (.ref C) a0 s'.heap ∧ ∀ b o, s'.heap.get? b = some o → (H' b ≠ none ∨ ∃ o0, s.heap.get? b = some o0) → b ∉ frs outer → B.get? b = some o
section
variable {X : Cx} {pins : List (Addr × Obj)} {σ : St} {H : Hp} {s : Shared}
abbrev veMro : List Value := [.type "ValueError", .type "Exception", .type "BaseException", .type "object"]
abbrev OwnX (K : PySem.W.Frag) (C : Addr) : Prop := PySem.W.excIn K C veMro "ValueError.__new__" = true
end
section
variable {P : Program} {w : World} {K : PySem.W.Frag} {mg : Str → Option Value} {base : Heap} {N : List Str} {qual : Str} {scope : Scope} {f : Addr} {cd : Value} {A : Around} {outer : List Env} {s0 : Shared} {H0 : Hp} {E : XK}
end
structure FdC (CX : CXT) (P : Program) (w : World) (K : PySem.W.Frag) (mg : Str → Option Value) (base : Heap) (k : Nat) (x : Str) (ps : List Str) (sp : Sp) : Prop where
  ex : ∃ f fd, FnOk P w K mg base CX k f fd ps sp ∧ mg x = some (.ref f) ∧ PySem.W.keepIn K (.ref f) = true ∧ Binds K fd ps [] ∧ Lk K f fd
section
variable {X : Cx} {CX : CXT} {k : Nat} {x : Str} {ps : List Str} {sp : Sp} {E : XK} {p pos : Pos} {e : Expr} {es : List Expr} {t : TA}
end
section
variable {X : Cx} {pins : List (Addr × Obj)} {σ : St} {H : Hp} {s : Shared}
def matchIn (K : PySem.W.Frag) (C D : Addr) (b : Bool) : Bool :=
  PySem.W.instIn K (.ref D) (.type "tuple") == some false && ((PySem.W.clsIn K D).isSome && (PySem.W.subIn K (.ref D) (.type "BaseException") == some true && PySem.W.subIn K (.ref C) (.ref D) == some b))
end
end L2
namespace L2
open PySem PySem.Spec PyProof.Rows PySem.W Builtin.ObjectAttr Builtin.Getset_descriptor
section
variable {prog : Program} {w : World} {A : Around} {E : Value → Shared → Prop} {s : Shared} {K : PySem.W.Frag} {x C : Addr} {ox : Obj}
def excIsIn (K : PySem.W.Frag) (C : Addr) : Bool :=
  (clsIn K C).isSome && (subIn K (.ref C) (.type "object") == some true && (subIn K (.ref C) (.type "BaseException") == some true && (findIn K (.ref C) "__getattribute__" == some (some (.builtin "BaseException.__getattribute__")) &&
    (findIn K (.ref C) "__getattr__" == some none && findIn K (.ref C) "__class__" == some (some (.builtin "object.__class__"))))))
end
end L2
namespace L2
open PySem PySem.Spec PyProof.Rows
section
variable {X : Cx} {e : Expr} {es : List Expr} {te : TE} {t : TJ} {pos : Pos}
end
end L2
namespace Fp
open PySem L2
abbrev Kept := List (Key × Int)
def enc (m : Kept) : List (Key × V) := m.map fun p => (p.1, V.int p.2)
def getZ (m : Kept) (k : Key) : Option Int := (m.find? fun p => decide (p.1 = k)).map (·.2)
def putZ (m : Kept) (k : Key) (z : Int) : Kept := if (m.any fun p => decide (p.1 = k)) = true then m.map (fun p => if p.1 = k then (p.1, z) else p) else m ++ [(k, z)]
theorem enc_len (m : Kept) : (enc m).length = m.length := by simp [enc]
theorem enc_get (m : Kept) (k : Key) : valV (enc m) k = (getZ m k).map V.int := by
  unfold valV getZ enc
  rw [List.find?_map]
  rw [Option.map_map, Option.map_map]
  rfl
theorem enc_put (m : Kept) (k : Key) (z : Int) : putK (enc m) k (.int z) = enc (putZ m k z) := by
  have e : ((enc m).any fun kv => decide (kv.1 = k)) = m.any fun p => decide (p.1 = k) := by
    unfold enc
    rw [List.any_map]
    rfl
  unfold putK putZ
  rw [e]
  split
  · unfold enc
    rw [List.map_map, List.map_map]
    refine List.map_congr_left fun p _ => ?_
    show (if p.1 = k then (p.1, V.int z) else (p.1, V.int p.2)) = _
    by_cases h : p.1 = k
    · simp [h]
    · simp [h]
  · simp [enc]
theorem putZ_len (m : Kept) (k : Key) (z : Int) : (putZ m k z).length ≤ m.length + 1 := by
  unfold putZ
  split
  · rw [List.length_map]; omega
  · simp
theorem getZ_put (m : Kept) (k : Key) (z : Int) (j : Key) : getZ (putZ m k z) j = if j = k then some z else getZ m j := by
  unfold putZ
  split
  · rename_i hany
    have e : getZ (m.map fun p => if p.1 = k then (p.1, z) else p) j = (m.find? fun p => decide (p.1 = j)).map fun p => if p.1 = k then z else p.2 := by
      unfold getZ
      rw [List.find?_map, Option.map_map]
      have e1 : ((fun p : Key × Int => decide (p.1 = j)) ∘ fun p => if p.1 = k then (p.1, z) else p) = fun p => decide (p.1 = j) := by
        funext p
        show decide ((if p.1 = k then (p.1, z) else p).1 = j) = _
        by_cases h : p.1 = k
        · rw [if_pos h]
        · rw [if_neg h]
      rw [e1]
      congr 1
      funext p
      show (if p.1 = k then (p.1, z) else p).2 = _
      by_cases h : p.1 = k
      · rw [if_pos h, if_pos h]
      · rw [if_neg h, if_neg h]
    rw [e]
    by_cases h : j = k
    · subst h
      rw [if_pos rfl]
      cases hf : m.find? fun p => decide (p.1 = j) with
      | none =>
        obtain ⟨p, hp, hd⟩ := List.any_eq_true.mp hany
        exact absurd hd (List.find?_eq_none.mp hf p hp)
      | some p =>
        have hp := List.find?_some hf
        show some (if p.1 = j then z else p.2) = some z
        rw [if_pos (of_decide_eq_true hp)]
    · rw [if_neg h]
      unfold getZ
      cases hf : m.find? fun p => decide (p.1 = j) with
      | none => rfl
      | some p =>
        have hp0 := List.find?_some hf
        have hp : p.1 = j := of_decide_eq_true hp0
        show some (if p.1 = k then z else p.2) = some p.2
        rw [if_neg fun q => h (by rw [← hp, q])]
  · rename_i hany
    unfold getZ
    rw [List.find?_append]
    by_cases h : j = k
    · subst h
      rw [if_pos rfl]
      have hn : (m.find? fun p => decide (p.1 = j)) = none := by
        rw [List.find?_eq_none]
        intro p hp hd
        exact hany (List.any_eq_true.mpr ⟨p, hp, hd⟩)
      rw [hn]
      simp
    · rw [if_neg h]
      have hk : ¬ k = j := fun e => h e.symm
      cases hf : m.find? fun p => decide (p.1 = j) with
      | none => simp [hk]
      | some p => rfl
def reck : Kd → Int → Int → Int
  | .add, a, b => a + b
  | .sub, a, b => a - b
  | .mul, a, b => a * b
structure Done where
  m : Kept
  left : List Int
  told : List Int
inductive GRow where
  | set (k : Key) (z : Int)
  | take (k : Key)
  | op (o : Kd) (k a b : Key)
  | tell (k : Key)
def gr : Row → GRow
  | .set n k => .set (.inr n) k
  | .take n => .take (.inr n)
  | .op o n a b => .op o (.inr n) (.inr a) (.inr b)
  | .tell n => .tell (.inr n)
def growV : GRow → List V
  | .set k z => [.str "set", kV k, .int z]
  | .take k => [.str "take", kV k]
  | .op o k a b => [.str (word o), kV k, kV a, kV b]
  | .tell k => [.str "tell", kV k]
theorem grow_gr (r : Row) : growV (gr r) = rowV r := by cases r <;> rfl
def stepG (d : Done) : GRow → Option Done
  | .tell n => (getZ d.m n).map fun z => { d with told := d.told ++ [z] }
  | .take n => match d.left with
    | [] => none
    | z :: l => some { d with m := putZ d.m n z, left := l }
  | .set n k => some { d with m := putZ d.m n k }
  | .op o n x y => (getZ d.m x).bind fun a => (getZ d.m y).map fun b => { d with m := putZ d.m n (reck o a b) }
def stepN (d : Done) (r : Row) : Option Done := stepG d (gr r)
def runN : Done → List Row → Option Done
  | d, [] => some d
  | d, r :: t => (stepN d r).bind fun d' => runN d' t
theorem getZ_isSome_put (m : Kept) (k : Key) (z : Int) (j : Key) : (getZ (putZ m k z) j).isSome = (decide (j = k) || (getZ m j).isSome) := by
  rw [getZ_put]
  by_cases h : j = k
  · simp [h]
  · simp [h]
theorem runN_append (d : Done) (a b : List Row) : runN d (a ++ b) = (runN d a).bind fun d' => runN d' b := by
  induction a generalizing d with
  | nil => rfl
  | cons r t ih =>
    show (stepN d r).bind (fun d' => runN d' (t ++ b)) = ((stepN d r).bind fun d' => runN d' t).bind _
    cases stepN d r with
    | none => rfl
    | some d' => exact ih d'
theorem runN_snoc (d : Done) (a : List Row) (r : Row) : runN d (a ++ [r]) = (runN d a).bind fun d' => stepN d' r := by
  rw [runN_append]
  congr 1
  funext d'
  show (stepN d' r).bind (fun x => some x) = stepN d' r
  cases stepN d' r <;> rfl
def isTake : Row → Bool
  | .take _ => true
  | _ => false
theorem isSome_get {m : Kept} {k : Key} (h : (getZ m k).isSome = true) : ∃ z, getZ m k = some z := Option.isSome_iff_exists.mp h
structure Pre (ns : List Int) (pre : List Row) (d : Done) : Prop where
  left : d.left = ns.drop (pre.countP isTake)
  has : ∀ x, (∃ q ∈ pre, wr q = some x) → (getZ d.m (.inr x)).isSome = true
  ml : d.m.length ≤ pre.length
  tl : d.told.length ≤ pre.length
theorem pre_nil (ns : List Int) : Pre ns [] ⟨[], ns, []⟩ := ⟨rfl, fun x ⟨q, h, _⟩ => (nomatch h), Nat.le_refl _, Nat.le_refl _⟩
theorem pre_put {ns : List Int} {pre : List Row} {d : Done} {r : Row} {n : Str} {z : Int} {l : List Int} (h : Pre ns pre d) (hw : wr r = some n) (hl : l = ns.drop ((pre ++ [r]).countP isTake)) : Pre ns (pre ++ [r]) { d with m := putZ d.m (.inr n) z, left := l } := by
  refine ⟨hl, fun x ⟨q, hq, e⟩ => ?_, ?_, ?_⟩
  · show (getZ (putZ d.m (.inr n) z) (.inr x)).isSome = true
    rw [getZ_isSome_put]
    rcases List.mem_append.mp hq with hq | hq
    · rw [h.has x ⟨q, hq, e⟩, Bool.or_true]
    · rw [List.mem_singleton.mp hq, hw] at e
      cases e
      simp
  · have h1 := putZ_len d.m (.inr n) z
    have h2 := h.ml
    rw [List.length_append]
    show (putZ d.m (.inr n) z).length ≤ _
    simp only [List.length_cons, List.length_nil]
    omega
  · have h2 := h.tl
    rw [List.length_append]
    show d.told.length ≤ _
    omega
theorem pre_step {ns : List Int} {pre : List Row} {d : Done} {r : Row} (h : Pre ns pre d) (hu : ∀ x ∈ uses r, ∃ q ∈ pre, wr q = some x) :
    (∃ d', stepN d r = some d' ∧ Pre ns (pre ++ [r]) d') ∨ (stepN d r = none ∧ isTake r = true ∧ d.left = []) := by
  have same : isTake r = false → (pre ++ [r]).countP isTake = pre.countP isTake := fun e => by rw [List.countP_append]; simp [e]
  cases r with
  | tell n =>
    obtain ⟨z, hz⟩ := isSome_get (h.has n (hu n (List.mem_singleton.mpr rfl)))
    refine .inl ⟨{ d with told := d.told ++ [z] }, by show (getZ d.m (.inr n)).map _ = _; rw [hz]; rfl, ?_, fun x ⟨q, hq, e⟩ => ?_, ?_, ?_⟩
    · rw [same rfl]; exact h.left
    · rcases List.mem_append.mp hq with hq | hq
      · exact h.has x ⟨q, hq, e⟩
      · rw [List.mem_singleton.mp hq] at e; cases e
    · have := h.ml; rw [List.length_append]; show d.m.length ≤ _; omega
    · have := h.tl; show (d.told ++ [z]).length ≤ _; rw [List.length_append, List.length_append]; simp only [List.length_cons, List.length_nil]; omega
  | take n =>
    cases hl : d.left with
    | nil => exact .inr ⟨by show stepG d (.take _) = none; simp [stepG, hl], rfl, rfl⟩
    | cons z l =>
      refine .inl ⟨{ d with m := putZ d.m (.inr n) z, left := l }, by show stepG d (.take _) = _; simp [stepG, hl], pre_put h rfl ?_⟩
      have e : (pre ++ [Row.take n]).countP isTake = pre.countP isTake + 1 := by rw [List.countP_append]; rfl
      rw [e, ← List.drop_drop, ← h.left, hl]
      rfl
  | set n k => exact .inl ⟨_, rfl, pre_put (l := d.left) h rfl (by rw [same rfl]; exact h.left)⟩
  | op o n x y =>
    obtain ⟨a, ha⟩ := isSome_get (h.has x (hu x (List.mem_cons_self ..)))
    obtain ⟨b, hb⟩ := isSome_get (h.has y (hu y (List.mem_cons_of_mem _ (List.mem_singleton.mpr rfl))))
    exact .inl ⟨_, by show stepG d (.op ..) = some { d with m := putZ d.m (.inr n) (reck o a b), left := d.left }; simp [stepG, ha, hb], pre_put (l := d.left) h rfl (by rw [same rfl]; exact h.left)⟩
theorem run_pre {rows : List Row} (hv : Valid rows) (ns : List Int) : ∀ i, i ≤ rows.length → (∃ d, runN ⟨[], ns, []⟩ (rows.take i) = some d ∧ Pre ns (rows.take i) d) ∨ (runN ⟨[], ns, []⟩ (rows.take i) = none ∧ ns.length < (rows.take i).countP isTake) := by
  intro i
  induction i with
  | zero => intro _; exact .inl ⟨_, rfl, pre_nil ns⟩
  | succ i ih =>
    intro hi
    obtain ⟨r, hr⟩ : ∃ r, rows[i]? = some r := ⟨_, List.getElem?_eq_getElem (by omega)⟩
    have ht : rows.take (i + 1) = rows.take i ++ [r] := by rw [List.take_add_one, hr]; rfl
    rw [ht, runN_snoc]
    rcases ih (by omega) with ⟨d, hd, hp⟩ | ⟨hn, hc⟩
    · rw [hd]
      rcases pre_step hp (hv i r hr) with ⟨d', h1, h2⟩ | ⟨h1, h2, h3⟩
      · exact .inl ⟨d', h1, h2⟩
      · refine .inr ⟨h1, ?_⟩
        have e := hp.left
        rw [h3] at e
        have := List.drop_eq_nil_iff.mp e.symm
        rw [List.countP_append]
        simp [h2]
        omega
    · refine .inr ⟨by rw [hn]; rfl, ?_⟩
      rw [List.countP_append]
      omega
def Below (e : Nat) (z : Int) : Prop := z.natAbs < 2 ^ e
theorem below_mono {e f : Nat} {z : Int} (h : Below e z) (l : e ≤ f) : Below f z := Nat.lt_of_lt_of_le h (Nat.pow_le_pow_right (by decide) l)
theorem below_add {e : Nat} {a b : Int} (ha : Below e a) (hb : Below e b) : Below (e + 1) (a + b) := by
  unfold Below at *
  rw [Nat.pow_succ]
  omega
theorem below_sub {e : Nat} {a b : Int} (ha : Below e a) (hb : Below e b) : Below (e + 1) (a - b) := by
  unfold Below at *
  rw [Nat.pow_succ]
  omega
theorem below_mul {e f : Nat} {a b : Int} (ha : Below e a) (hb : Below f b) : Below (e + f) (a * b) := by
  unfold Below at *
  rw [Int.natAbs_mul, Nat.pow_add]
  exact Nat.mul_lt_mul'' ha hb
theorem below30 {z : Int} (h : z.natAbs < 10 ^ 30) : Below 100 z := Nat.lt_of_lt_of_le h (by decide)
def bits (i c : Nat) : Nat := (100 + i) * 2 ^ c
theorem bits_add (i c : Nat) : bits i c + 1 ≤ bits (i + 1) c := by
  unfold bits
  have : 1 ≤ 2 ^ c := Nat.one_le_two_pow
  have e : (100 + (i + 1)) * 2 ^ c = (100 + i) * 2 ^ c + 2 ^ c := by rw [show 100 + (i + 1) = (100 + i) + 1 from rfl, Nat.succ_mul]
  omega
theorem bits_mul (i c : Nat) : bits i c + bits i c ≤ bits (i + 1) (c + 1) := by
  unfold bits
  rw [Nat.pow_succ]
  have h : (100 + i) * (2 ^ c * 2) ≤ (100 + (i + 1)) * (2 ^ c * 2) := Nat.mul_le_mul_right _ (by omega)
  have e : (100 + i) * (2 ^ c * 2) = (100 + i) * 2 ^ c + (100 + i) * 2 ^ c := by rw [← Nat.mul_assoc]; omega
  omega
theorem bits_mono {i j c d : Nat} (h1 : i ≤ j) (h2 : c ≤ d) : bits i c ≤ bits j d := Nat.mul_le_mul (by omega) (Nat.pow_le_pow_right (by decide) h2)
def isMul : Row → Bool
  | .op .mul .. => true
  | _ => false
def Small (r : Row) : Prop := ∀ n k, r = .set n k → k.natAbs < 10 ^ 30
def Cost (mu : Int) (r : Row) (mu' : Int) : Prop := Small r ∧ mu ≤ mu' ∧ (isMul r = true → mu + 1 ≤ mu' ∧ mu' ≤ 5)
def CostO (mu : Int) (o : Kd) (mu' : Int) : Prop := mu ≤ mu' ∧ (o = .mul → mu + 1 ≤ mu' ∧ mu' ≤ 5)
def Numb (rows : List Row) (mu : Int) : Prop := (∀ r ∈ rows, Small r) ∧ 0 ≤ mu ∧ ((rows.countP isMul : Nat) : Int) ≤ mu ∧ rows.countP isMul ≤ 5
theorem numb_nil : Numb [] 0 := ⟨(fun _ h => nomatch h), by decide, by decide, by decide⟩
theorem numb_snoc {rows : List Row} {r : Row} {mu mu' : Int} (h : Numb rows mu) (c : Cost mu r mu') : Numb (rows ++ [r]) mu' := by
  obtain ⟨h1, h2, h3, h4⟩ := h
  obtain ⟨c1, c2, c3⟩ := c
  have e : (rows ++ [r]).countP isMul = rows.countP isMul + (if isMul r = true then 1 else 0) := by
    rw [List.countP_append, List.countP_cons, List.countP_nil, Nat.zero_add]
  refine ⟨fun q hq => ?_, by omega, ?_, ?_⟩
  · rcases List.mem_append.mp hq with z | z
    · exact h1 q z
    · rw [List.mem_singleton.mp z]; exact c1
  · rw [e]
    by_cases hm : isMul r = true
    · rw [if_pos hm]
      have := c3 hm
      omega
    · rw [if_neg hm]; omega
  · rw [e]
    by_cases hm : isMul r = true
    · rw [if_pos hm]
      have := c3 hm
      omega
    · rw [if_neg hm]; omega
theorem cost_set {mu : Int} {n : Str} {k : Int} (h : k.natAbs < 10 ^ 30) : Cost mu (.set n k) mu := ⟨fun _ _ e => by cases e; exact h, Int.le_refl _, (fun h => nomatch h)⟩
theorem cost_take {mu : Int} {n : Str} : Cost mu (.take n) mu := ⟨(fun _ _ e => nomatch e), Int.le_refl _, (fun h => nomatch h)⟩
theorem cost_tell {mu : Int} {n : Str} : Cost mu (.tell n) mu := ⟨(fun _ _ e => nomatch e), Int.le_refl _, (fun h => nomatch h)⟩
theorem cost_op {mu mu' : Int} {o : Kd} {n x y : Str} (h : CostO mu o mu') : Cost mu (.op o n x y) mu' := ⟨(fun _ _ e => nomatch e), h.1, fun z => h.2 (by cases o <;> first | rfl | exact absurd z (by simp [isMul]))⟩
def Bd (d : Done) (i c : Nat) : Prop := (∀ p ∈ d.m, Below (bits i c) p.2) ∧ (∀ z ∈ d.left, Below 100 z) ∧ ∀ z ∈ d.told, Below (bits i c) z
theorem getZ_mem {m : Kept} {k : Key} {z : Int} (h : getZ m k = some z) : ∃ p ∈ m, p.2 = z := by
  unfold getZ at h
  cases hf : m.find? fun p => decide (p.1 = k) with
  | none => rw [hf] at h; cases h
  | some p => rw [hf] at h; exact ⟨p, List.mem_of_find?_eq_some hf, Option.some.inj h⟩
theorem putZ_mem {m : Kept} {k : Key} {z : Int} {p : Key × Int} (h : p ∈ putZ m k z) : p.2 = z ∨ p ∈ m := by
  unfold putZ at h
  split at h
  · obtain ⟨q, hq, e⟩ := List.mem_map.mp h
    by_cases hk : q.1 = k
    · rw [if_pos hk] at e; subst e; exact .inl rfl
    · rw [if_neg hk] at e; subst e; exact .inr hq
  · rcases List.mem_append.mp h with q | q
    · exact .inr q
    · rw [List.mem_singleton.mp q]; exact .inl rfl
theorem Bd.get {d : Done} {i c : Nat} {k : Key} {z : Int} (b : Bd d i c) (h : getZ d.m k = some z) : Below (bits i c) z := by
  obtain ⟨p, hp, rfl⟩ := getZ_mem h
  exact b.1 p hp
theorem bits100 (i c : Nat) : 100 ≤ bits i c := by
  have h := bits_mono (Nat.zero_le i) (Nat.zero_le c)
  exact h
theorem Bd.put {d : Done} {i c i' c' : Nat} {k : Key} {z : Int} {l : List Int} (b : Bd d i c) (hi : i ≤ i') (hc : c ≤ c') (hz : Below (bits i' c') z) (hl : ∀ y ∈ l, y ∈ d.left) : Bd { d with m := putZ d.m k z, left := l } i' c' := by
  refine ⟨fun p hp => ?_, fun y hy => b.2.1 y (hl y hy), fun y hy => below_mono (b.2.2 y hy) (bits_mono hi hc)⟩
  rcases putZ_mem hp with e | e
  · rw [e]; exact hz
  · exact below_mono (b.1 p e) (bits_mono hi hc)
def isMulG : GRow → Bool
  | .op .mul .. => true
  | _ => false
def SmallG (r : GRow) : Prop := ∀ n k, r = .set n k → k.natAbs < 10 ^ 30
theorem isMul_gr (r : Row) : isMulG (gr r) = isMul r := by
  cases r with
  | op o n a b => cases o <;> rfl
  | _ => rfl
theorem small_gr {r : Row} (h : Small r) : SmallG (gr r) := fun n k e => by
  cases r with
  | set m z => cases e; exact h m k rfl
  | take m => cases e
  | op o m a b => cases e
  | tell m => cases e
theorem bd_stepG {d d' : Done} {r : GRow} {i c : Nat} (b : Bd d i c) (hs : SmallG r) (h : stepG d r = some d') : Bd d' (i + 1) (c + if isMulG r = true then 1 else 0) := by
  cases r with
  | tell n =>
    obtain ⟨z, hz, rfl⟩ := Option.map_eq_some_iff.mp h
    have up : bits i c ≤ bits (i + 1) (c + if isMulG (.tell n) = true then 1 else 0) := bits_mono (by omega) (Nat.le_add_right _ _)
    refine ⟨fun p hp => below_mono (b.1 p hp) up, b.2.1, fun y hy => ?_⟩
    rcases List.mem_append.mp hy with q | q
    · exact below_mono (b.2.2 y q) up
    · rw [List.mem_singleton.mp q]; exact below_mono (b.get hz) up
  | take n =>
    cases hl : d.left with
    | nil => rw [show stepG d (.take n) = none from by simp [stepG, hl]] at h; cases h
    | cons z l =>
      rw [show stepG d (.take n) = some { d with m := putZ d.m n z, left := l } from by simp [stepG, hl]] at h
      cases h
      exact b.put (by omega) (Nat.le_add_right _ _) (below_mono (b.2.1 z (by rw [hl]; exact .head _)) (bits100 _ _)) fun y hy => by rw [hl]; exact .tail _ hy
  | set n k =>
    cases h
    exact b.put (l := d.left) (by omega) (Nat.le_add_right _ _) (below_mono (below30 (hs n k rfl)) (bits100 _ _)) fun y hy => hy
  | op o n x y =>
    obtain ⟨p, hp, h⟩ := Option.bind_eq_some_iff.mp h
    obtain ⟨q, hq, rfl⟩ := Option.map_eq_some_iff.mp h
    have h1 := b.get hp
    have h2 := b.get hq
    refine b.put (l := d.left) (by omega) (Nat.le_add_right _ _) ?_ fun y hy => hy
    cases o with
    | add => exact below_mono (below_add h1 h2) (bits_add i c)
    | sub => exact below_mono (below_sub h1 h2) (bits_add i c)
    | mul => exact below_mono (below_mul h1 h2) (bits_mul i c)
theorem bd_step {d d' : Done} {r : Row} {i c : Nat} (b : Bd d i c) (hs : Small r) (h : stepN d r = some d') : Bd d' (i + 1) (c + if isMul r = true then 1 else 0) := by
  have q := bd_stepG b (small_gr hs) h
  rw [isMul_gr] at q
  exact q
theorem bd_run {d0 d : Done} {rows : List Row} (b : Bd d0 0 0) (hs : ∀ r ∈ rows, Small r) (h : runN d0 rows = some d) : Bd d rows.length (rows.countP isMul) := by
  have go : ∀ (l : List Row) (e d : Done) (i c : Nat), Bd e i c → (∀ r ∈ l, Small r) → runN e l = some d → Bd d (i + l.length) (c + l.countP isMul) := by
    intro l
    induction l with
    | nil => intro e d i c b _ h; cases h; exact b
    | cons r t ih =>
      intro e d i c b hs h
      obtain ⟨e', h1, h2⟩ := Option.bind_eq_some_iff.mp h
      have q := ih e' d (i + 1) _ (bd_step b (hs r (.head _)) h1) (fun r hr => hs r (.tail _ hr)) h2
      have e1 : i + 1 + t.length = i + (r :: t).length := by rw [List.length_cons]; omega
      have e2 : c + (if isMul r = true then 1 else 0) + t.countP isMul = c + (r :: t).countP isMul := by rw [List.countP_cons]; omega
      rw [e1, e2] at q
      exact q
  have q := go rows d0 d 0 0 b hs h
  rw [Nat.zero_add, Nat.zero_add] at q
  exact q
def CMulW (i j : Int) : Prop := Below 100000 i ∧ Below 100000 j
theorem intBits_below {z : Int} (h : Below 100000 z) : Builtin.Int.intBits z ≤ 2 ^ 20 := by
  unfold Builtin.Int.intBits
  split
  · exact Nat.zero_le _
  · rename_i hz
    have hz' : z.natAbs ≠ 0 := fun e => hz (by rw [Int.natAbs_eq_zero.mp e]; rfl)
    have := (Nat.log2_lt hz').mpr h
    have e : (2 : Nat) ^ 20 = 1048576 := by decide
    omega
end Fp
namespace L2
open PySem PySem.Spec PyProof.Rows
theorem ix_tupK {X : Cx} {K : PySem.W.Frag} (h : X.K = K := by rfl) : IxR X (rIxT K) := by subst h; exact ix_tup
theorem ix_listK {X : Cx} {K : PySem.W.Frag} (h : X.K = K := by rfl) : IxR X (rIxL K) := by subst h; exact ix_list
theorem op_mulW {X : Cx} : OpR X (binaryOp .Mult) (rI Fp.CMulW fun i j => .int (i * j)) := opI fun _ _ _ _ _ _ _ hc q => mul_int q (.of_bits (Fp.intBits_below hc.1) (Fp.intBits_below hc.2))
end L2
namespace Fp
open PySem L2
inductive PRow where
  | row (r : GRow)
  | shelve (s p : Key)
  | fetch (p s : Key)
def prowV : PRow → List V
  | .row r => growV r
  | .shelve s p => [.str "shelve", kV s, kV p]
  | .fetch p s => [.str "fetch", kV p, kV s]
def usesG : GRow → List Key
  | .set .. => []
  | .take _ => []
  | .op _ _ a b => [a, b]
  | .tell n => [n]
structure DoneP where
  d : Done
  shelf : Kept
def stepP (x : DoneP) : PRow → Option DoneP
  | .shelve s p => (getZ x.d.m p).map fun z => { x with shelf := putZ x.shelf s z }
  | .fetch p s => (getZ x.shelf s).map fun z => { x with d := { x.d with m := putZ x.d.m p z } }
  | .row r => (stepG x.d r).map fun d => { x with d := d }
def runP : DoneP → List PRow → Option DoneP
  | x, [] => some x
  | x, r :: t => (stepP x r).bind fun y => runP y t
theorem runP_append (x : DoneP) (a b : List PRow) : runP x (a ++ b) = (runP x a).bind fun y => runP y b := by
  induction a generalizing x with
  | nil => rfl
  | cons r t ih =>
    show (stepP x r).bind (fun y => runP y (t ++ b)) = ((stepP x r).bind fun y => runP y t).bind _
    cases stepP x r with
    | none => rfl
    | some y => exact ih y
theorem runP_snoc (x : DoneP) (a : List PRow) (r : PRow) : runP x (a ++ [r]) = (runP x a).bind fun y => stepP y r := by
  rw [runP_append]
  congr 1
  funext y
  show (stepP y r).bind (fun x => some x) = stepP y r
  cases stepP y r <;> rfl
theorem stepG_none {d : Done} {r : GRow} (h : stepG d r = none) : (∃ n, r = .take n ∧ d.left = []) ∨ ∃ k ∈ usesG r, getZ d.m k = none := by
  cases r with
  | set n k => cases h
  | take n =>
    cases hl : d.left with
    | nil => exact .inl ⟨n, rfl, rfl⟩
    | cons z l => rw [show stepG d (.take n) = some { d with m := putZ d.m n z, left := l } from by simp [stepG, hl]] at h; cases h
  | op o n a b =>
    refine .inr ?_
    cases ha : getZ d.m a with
    | none => exact ⟨a, List.mem_cons_self .., ha⟩
    | some x =>
      cases hb : getZ d.m b with
      | none => exact ⟨b, List.mem_cons_of_mem _ (List.mem_singleton.mpr rfl), hb⟩
      | some y => rw [show stepG d (.op o n a b) = some { d with m := putZ d.m n (reck o x y) } from by simp [stepG, ha, hb]] at h; cases h
  | tell n =>
    refine .inr ⟨n, List.mem_singleton.mpr rfl, ?_⟩
    cases hz : getZ d.m n with
    | none => rfl
    | some z => rw [show stepG d (.tell n) = some { d with told := d.told ++ [z] } from by simp [stepG, hz]] at h; cases h
theorem stepG_lack {d : Done} {r : GRow} {k : Key} (hk : k ∈ usesG r) (hz : getZ d.m k = none) : stepG d r = none := by
  cases r with
  | set n z => cases hk
  | take n => cases hk
  | op o n a b =>
    rcases List.mem_cons.mp hk with e | e
    · subst e; simp [stepG, hz]
    · have e := List.mem_singleton.mp e
      subst e
      cases ha : getZ d.m a <;> simp [stepG, hz, ha]
  | tell n =>
    have e := List.mem_singleton.mp hk
    subst e
    simp [stepG, hz]
theorem stepG_dry {d : Done} {n : Key} (h : d.left = []) : stepG d (.take n) = none := by simp [stepG, h]
def BdP (x : DoneP) (i c : Nat) : Prop := Bd x.d i c ∧ ∀ p ∈ x.shelf, Below (bits i c) p.2
def isMulP : PRow → Bool
  | .row r => isMulG r
  | _ => false
def SmallP : PRow → Prop
  | .row r => SmallG r
  | _ => True
theorem bd_stepP {x y : DoneP} {r : PRow} {i c : Nat} (b : BdP x i c) (hs : SmallP r) (h : stepP x r = some y) : BdP y (i + 1) (c + if isMulP r = true then 1 else 0) := by
  have up : bits i c ≤ bits (i + 1) (c + if isMulP r = true then 1 else 0) := bits_mono (by omega) (Nat.le_add_right _ _)
  cases r with
  | row r =>
    obtain ⟨d, hd, rfl⟩ := Option.map_eq_some_iff.mp h
    exact ⟨bd_stepG b.1 hs hd, fun p hp => below_mono (b.2 p hp) up⟩
  | shelve s p =>
    obtain ⟨z, hz, rfl⟩ := Option.map_eq_some_iff.mp h
    refine ⟨⟨fun q hq => below_mono (b.1.1 q hq) up, b.1.2.1, fun q hq => below_mono (b.1.2.2 q hq) up⟩, fun q hq => ?_⟩
    rcases putZ_mem hq with e | e
    · rw [e]; exact below_mono (b.1.get hz) up
    · exact below_mono (b.2 q e) up
  | fetch p s =>
    obtain ⟨z, hz, rfl⟩ := Option.map_eq_some_iff.mp h
    obtain ⟨q, hq, e⟩ := getZ_mem hz
    refine ⟨b.1.put (l := x.d.left) (by omega) (Nat.le_add_right _ _) (below_mono (by rw [← e]; exact b.2 q hq) up) fun y hy => hy, fun q hq => below_mono (b.2 q hq) up⟩
end Fp
namespace L2
open PySem PySem.Spec PyProof.Rows
end L2
namespace Fp
open PySem L2
inductive IRow where
  | set (p z : Int)
  | take (p : Int)
  | op (o : Kd) (p a b : Int)
  | tell (p : Int)
  | shelve (s p : Int)
  | fetch (p s : Int)
def toP : IRow → PRow
  | .set p z => .row (.set (.inl p) z)
  | .take p => .row (.take (.inl p))
  | .op o p a b => .row (.op o (.inl p) (.inl a) (.inl b))
  | .tell p => .row (.tell (.inl p))
  | .shelve s p => .shelve (.inl s) (.inl p)
  | .fetch p s => .fetch (.inl p) (.inl s)
def irowV (r : IRow) : List V := prowV (toP r)
def startP (ns : List Int) : DoneP := ⟨⟨[], ns, []⟩, []⟩
theorem bdp_start {ns : List Int} (h : ∀ z ∈ ns, Below 100 z) : BdP (startP ns) 0 0 := ⟨⟨(fun p hp => nomatch hp), h, (fun p hp => nomatch hp)⟩, (fun p hp => nomatch hp)⟩
theorem stepG_len {d e : Done} {g : GRow} (h : stepG d g = some e) : e.m.length ≤ d.m.length + 1 ∧ e.told.length ≤ d.told.length + 1 := by
  cases g with
  | tell n =>
    obtain ⟨z, _, rfl⟩ := Option.map_eq_some_iff.mp h
    refine ⟨Nat.le_succ _, ?_⟩
    show (d.told ++ [z]).length ≤ _
    simp
  | set n k =>
    cases h
    exact ⟨putZ_len d.m n k, Nat.le_succ _⟩
  | take n =>
    cases hl : d.left with
    | nil => rw [stepG_dry hl] at h; cases h
    | cons z l =>
      rw [show stepG d (.take n) = some { d with m := putZ d.m n z, left := l } from by simp [stepG, hl]] at h
      cases h
      exact ⟨putZ_len d.m n z, Nat.le_succ _⟩
  | op o n a b =>
    obtain ⟨p, _, h⟩ := Option.bind_eq_some_iff.mp h
    obtain ⟨q, _, rfl⟩ := Option.map_eq_some_iff.mp h
    exact ⟨putZ_len d.m n _, Nat.le_succ _⟩
theorem stepP_len {x y : DoneP} {r : PRow} (h : stepP x r = some y) : y.d.m.length ≤ x.d.m.length + 1 ∧ y.shelf.length ≤ x.shelf.length + 1 ∧ y.d.told.length ≤ x.d.told.length + 1 := by
  cases r with
  | shelve sp p =>
    obtain ⟨z, _, rfl⟩ := Option.map_eq_some_iff.mp h
    exact ⟨Nat.le_succ _, putZ_len x.shelf sp z, Nat.le_succ _⟩
  | fetch p sp =>
    obtain ⟨z, _, rfl⟩ := Option.map_eq_some_iff.mp h
    exact ⟨putZ_len x.d.m p z, Nat.le_succ _, Nat.le_succ _⟩
  | row g =>
    obtain ⟨d, hd, rfl⟩ := Option.map_eq_some_iff.mp h
    have q := stepG_len hd
    exact ⟨q.1, Nat.le_succ _, q.2⟩
end Fp
namespace L2
open PySem PySem.Spec PyProof.Rows
open PySem.W (envX kla_fn kla_obj tabObj CodeHd)
def cxLam (X : Cx) (p y : Str) (qual : Str) (scope : Scope) (f : Addr) (cd : Value) (cl : List (Str × Addr)) (s : Shared) (H : Hp) : Cx where
  prog := X.prog
  w := X.w
  K := X.K
  mg := X.mg
  base := X.base
  A := X.A.in1.deeper (envX qual scope s.heap.objs.size f cd cl)
  N := [p, y]
  s₀ := s
  H₀ := H
  env := envX qual scope s.heap.objs.size f cd cl
  outer := X.stack
  stack := envX qual scope s.heap.objs.size f cd cl :: X.stack
  ex := []
  fn := fun _ => false
  calm := true
  pn := []
  xe := fun _ _ => False
structure LamScope (p y : Str) (scope : Scope) : Prop where
  kind : scope.kind = .function
  co : scope.isCoroutine = false
  gen : scope.isGenerator = false
  par : scope.names.lookup p = some .local
  fre : scope.names.lookup y = some .free
  only : ∀ x ∈ scope.names, (x.2 = .free → x.1 = y) ∧ x.2 ≠ .cell
  ne : p ≠ y
section
variable {X : Cx} {pins : List (Addr × Obj)} {σ : St} {H : Hp} {s : Shared} {p y qual : Str} {scope : Scope} {f c : Addr} {cd : Value}
theorem lam_inv (S : LamScope p y scope) (I : Inv X pins σ H s) (hd : X.A.handled = none) {h₁ : Heap} {tk : Nat} {u ul : Value} {v vl : V} (hns : h₁.Ns s.heap.objs.size (fun x => [(p, u)].reverse.lookup x)) (hk : ∀ b o, s.heap.get? b = some o → h₁.get? b = some o)
    (rv : RelV v u) (rl : RelV vl ul) (hc : X.env.cells.lookup y = some c) (hcell : s.heap.IsCell c (some ul)) :
    Inv (cxLam X p y qual scope f cd [(y, c)] s H) [] [some v, some vl] H { s with heap := h₁, toks := tk } := by
  have e0 := I.env0
  have lk : ∀ x c', List.lookup x [(y, c)] = some c' → x = y ∧ c' = c := fun x c' h => by
    rw [List.lookup_cons] at h
    cases q : x == y with
    | true => rw [q] at h; cases h; exact ⟨eq_of_beq q, rfl⟩
    | false => rw [q] at h; cases h
  have noA : ∀ b : Addr, b ∉ (cxLam X p y qual scope f cd [(y, c)] s H).ex := fun b z => absurd (show b ∈ ([] : List Addr) from z) (by simp)
  obtain ⟨oc, hoc, hdc⟩ := hcell
  have hcell1 : h₁.IsCell c (some ul) := ⟨oc, hk c oc hoc, hdc⟩
  refine ⟨⟨e0.mod, S.kind, rfl, rfl, Nat.le_refl _, fun a b c' h1 h2 => ?_, fun a ha => ?_, fun a c' h _ => (Bool.noConfusion (show false = true from h)), fun _ => hd, Around.frames_deeper e0.in1.frames, .inr ⟨rfl, rfl⟩, fun b z => absurd z (noA b), e0.bs, e0.bsz, fun b _ _ => noA b, fun b z => absurd z (noA b), e0.funs, e0.frf⟩,
    rfl, I.bare, Un.kept hk, ⟨_, hns, fun i x w e1 e2 e3 => ?_⟩, fun x c' h => ?_, I.hok.fresh (Nat.le_refl _), fun x c' h => ?_, fun q hq => absurd (show q ∈ ([] : List (Addr × Obj)) from hq) (by simp), I.hok.kept hk, rfl⟩
  · rw [(lk a c' h1).1, (lk b c' h2).1]
  · have ha : scope.names.lookup a = some .cell ∨ scope.names.lookup a = some .free := ha
    rcases ha with ha | ha
    · exact absurd rfl (S.only _ (PySem.mem_of_lookup ha)).2
    · have : a = y := (S.only _ (PySem.mem_of_lookup ha)).1 rfl
      exact ⟨c, by rw [this]; show List.lookup y [(y, c)] = some c; simp⟩
  · have e1 : [p, y][i]? = some x := e1
    have e2 : ([some v, some vl] : St)[i]? = some (some w) := e2
    match i with
    | 0 =>
      cases e1
      cases e2
      exact ⟨u, rv, .inl ⟨S.par, by show List.lookup p [(p, u)] = some u; simp⟩⟩
    | 1 =>
      cases e1
      cases e2
      exact ⟨ul, rl, .inr ⟨.inr S.fre, c, by show List.lookup y [(y, c)] = some c; simp, hcell1⟩⟩
    | n + 2 => cases e1
  · obtain ⟨_, rfl⟩ := lk x c' h
    exact ⟨_, hcell1⟩
  · obtain ⟨_, rfl⟩ := lk x c' h
    exact I.freeC y _ hc
theorem lam_run {k : Nat} {name : Str} {params : Arguments} {body : Expr} {pm ctv : Value} {c' : Addr} {u ul : Value} {v vl : V} {te : TE} {Q : VK} (S : LamScope p y scope) (I : Inv X pins σ H s) (hr : Room (k + 2) X.A)
    (ho : s.heap.get? f = some (kla_obj name qual params body scope [(y, c)] pm c' ctv)) (hcd : s.heap.CodeRec (.ref c') qual) (hbind : ∀ u, bindArgs (kla_fn name qual params body scope [(y, c)] pm (.ref c') ctv) ⟨[u], []⟩ = pure [(p, u)])
    (rv : RelV v u) (rl : RelV vl ul) (hc : X.env.cells.lookup y = some c) (hcell : s.heap.IsCell c (some ul))
    (hbody : Room k (cxLam X p y qual scope f (.ref c') [(y, c)] s H).A → PE (cxLam X p y qual scope f (.ref c') [(y, c)] s H) body te) (h : te [some v, some vl] H Q) :
    wpAny (model X.prog X.w) X.A.in1 (call (.ref f) [u]) (EP X pins σ Q) (fun _ _ => False) s := by
  have hd : X.A.handled = none := hr.hd
  refine wpAny_call (PySem.W.kla_callFunE hr.in1.depth ho rfl S.co S.gen rfl hcd ?_)
  rw [hbind]
  refine wpAny_pure (wpAny_newFunctionEnv (fun x hx => (S.only x hx).2) (fun x hx => by rw [List.mem_singleton.mp hx]; exact S.par) (fun h₁ hns hsb => ⟨(I.nolimit).fresh _ hsb, ?_⟩) S.kind)
  have hk₁ : ∀ b o, s.heap.get? b = some o → h₁.get? b = some o := fun b o e => hsb.extBut b o (Nat.ne_of_lt (Heap.lt_size e)) (Heap.get?_push_of_some _ e)
  have J := lam_inv (qual := qual) (f := f) (cd := .ref c') S I hd (tk := s.toks + [(p, u)].length) hns hk₁ rv rl hc hcell
  refine PySem.W.kla_codeExpr (wpAny_mono (hbody (hr.in1.deeper _) [] _ _ H Q J h) (fun x s' hx => ?_) fun _ _ z => z.elim)
  obtain ⟨r, H', J', rr, q⟩ := hx
  exact I.after ⟨r, H', J'.os, J'.bare, J'.base, J'.hok, rr, q⟩
end
end L2
namespace L2
open PySem PySem.Spec PyProof.Rows
open PySem.W (envX kla_fn kla_obj tabObj CodeHd)
section
variable {X : Cx} {pins : List (Addr × Obj)} {σ : St} {H : Hp} {s : Shared}
theorem cmp_gt {A : Around} {P : Program} {w : World} {a b : Int} {ta tb : Tok} {Q : Value → Shared → Prop} {E : Value → Shared → Prop} {s : Shared} (h : Q (.bool (decide (a > b))) s) : wpAny (model P w) A (richCompare .Gt (.int a ta) (.int b tb)) Q E s :=
  CmpOf.ints_gt (prog := P) (w := w) (A := A) (P := fun i v => ∃ t, v = .int (if i = 0 then a else b) t) (fun i => if i = 0 then a else b) (fun i v h => h) 0 1 _ _ s Q E ⟨ta, rfl⟩ ⟨tb, rfl⟩ h
theorem Inv.unpin {q : Addr × Obj} (I : Inv X (pins ++ [q]) σ H s) : Inv X pins σ H s := I.pins_of fun p hp => I.pin p (List.mem_append_right _ (List.mem_append_left _ hp))
theorem Inv.pinOne {q : Addr × Obj} (I : Inv X pins σ H s) (h1 : s.heap.get? q.1 = some q.2) (h2 : H q.1 = none) (h3 : q.1 ≠ X.env.locals) (h4 : q.1 ∉ X.fs) (h5 : ∀ v, q.2.data ≠ .cell v) : Inv X (pins ++ [q]) σ H s :=
  I.pins_of fun p hp => by
    rcases List.mem_append.mp hp with z | z
    · exact I.pin p (List.mem_append_right _ z)
    · rw [List.mem_singleton.mp z]; exact ⟨h1, h2, h3, h4, h5⟩
structure Spare (X : Cx) (pins : List (Addr × Obj)) (a : Addr) : Prop where
  up : X.s₀.heap.objs.size ≤ a
  loc : a ≠ X.env.locals
  cell : ∀ x c, X.env.cells.lookup x = some c → c ≠ a
  pin : ∀ p ∈ X.pn ++ pins, p.1 ≠ a
  fs : a ∉ X.fs
theorem Spare.more {a : Addr} {q : Addr × Obj} (h : Spare X pins a) (hq : q.1 ≠ a) : Spare X (pins ++ [q]) a := ⟨h.up, h.loc, h.cell, fun p hp => by
  rcases List.mem_append.mp hp with z | z
  · exact h.pin p (List.mem_append_left _ z)
  · rcases List.mem_append.mp z with z | z
    · exact h.pin p (List.mem_append_right _ z)
    · rw [List.mem_singleton.mp z]; exact hq, h.fs⟩
theorem spare_new (I : Inv X pins σ H s) {a : Addr} (ha : s.heap.objs.size ≤ a) : Spare X pins a := by
  refine ⟨Nat.le_trans I.sz ha, Nat.ne_of_gt (Nat.lt_of_lt_of_le I.lt ha), fun x c e => ?_, fun p hp => ?_, fun z => ?_⟩
  · obtain ⟨v, o, ho, _⟩ := I.cell x c e
    exact Nat.ne_of_lt (Nat.lt_of_lt_of_le (Heap.lt_size ho) ha)
  · exact Nat.ne_of_lt (Nat.lt_of_lt_of_le (Heap.lt_size (I.pin p hp).1) ha)
  · obtain ⟨_, o, ho, _⟩ := I.ok.funs.mem z
    exact absurd (Heap.lt_size ho) (Nat.not_lt.mpr (Nat.le_trans I.sz ha))
theorem Inv.turn {q : Addr × Obj} {o' : Obj} {h' : Heap} {t' : Nat} (I : Inv X (pins ++ [q]) σ H s) (hs : Spare X pins q.1) (k : ∀ b o, b ≠ q.1 → s.heap.get? b = some o → h'.get? b = some o) (ho : h'.get? q.1 = some o') (hc : ∀ v, o'.data ≠ .cell v) :
    Inv X (pins ++ [(q.1, o')]) σ H { s with heap := h', toks := t' } := by
  obtain ⟨_, n, _, _, _⟩ := I.pin q (List.mem_append_right _ (List.mem_append_right _ (List.mem_singleton.mpr rfl)))
  exact (I.unpin.turned (t' := t') k n hs.loc (.inr hs.up) hs.cell hs.pin).pinOne ho n hs.loc hs.fs hc
def FirstMax {α : Type} (κ : α → Int) (xs : List α) (i : Nat) (v : α) : Prop := xs[i]? = some v ∧ ∀ j y, xs[j]? = some y → κ y ≤ κ v ∧ (j < i → κ y < κ v)
theorem max_loop {l q S it : Addr} {xs : List V} (κ : V → Int) {R : Result → Shared → Prop} (hh : X.A.handled = none) (hl : H l = some (.lst xs)) (hSI : S ≠ it) (sS : Spare X pins S) (sI : Spare X pins it)
    (turn : ∀ (i : Nat) (x : V) (u : Value) (pins' : List (Addr × Obj)) (s1 : Shared) (H1 : Hp), xs[i]? = some x → RelV x u → Same H H1 → (∀ p ∈ pins, p ∈ pins') → Inv X pins' σ H1 s1 →
      wpAny (model X.prog X.w) X.A.in1 (call (.ref q) [u]) (EP X pins' σ fun v H2 => v = .int (κ x) ∧ Same H1 H2) (fun _ _ => False) s1)
    (hR : ∀ (i : Nat) (x : V) (u : Value) (s1 : Shared) (H1 : Hp), FirstMax κ xs i x → RelV x u → Same H H1 → Inv X pins σ H1 s1 → R (.ok (.ret u)) s1) :
    ∀ (r j i : Nat) (s1 : Shared) (H1 : Hp) (x : V) (vb : Value) (kb : Int) (tb : Tok) (c : Nat) (oI : Obj), xs.length - (j + 1) = r → j + 1 ≤ xs.length → Same H H1 →
      Inv X ((pins ++ [(it, oI)]) ++ [(S, seqObj "list" #[vb, .int kb tb] c)]) σ H1 s1 → s1.heap.IsListIter it l (j + 1) → xs[i]? = some x → RelV x vb → kb = κ x → i ≤ j → (∀ j' y, j' ≤ j → xs[j']? = some y → κ y ≤ κ x ∧ (j' < i → κ y < κ x)) →
      codeAny (model X.prog X.w) X.A (.builtin "max.loop" ⟨[.ref it, .ref q, .ref S], []⟩) R s1 := by
  have hname : (toString "max" ++ toString ".loop" : String) = "max.loop" := by decide
  intro r
  induction r with
  | zero =>
    intro j i s1 H1 x vb kb tb c oI hr hj sm I hit hx rx ekb hij hmx
    have hin : j + 1 = xs.length := by omega
    have nS := I.pin (S, seqObj "list" #[vb, .int kb tb] c) (List.mem_append_right _ (List.mem_append_right _ (.head _)))
    have nI := I.pin (it, oI) (List.mem_append_right _ (List.mem_append_left _ (List.mem_append_right _ (.head _))))
    have hl1 := sm l _ hl
    obtain ⟨_, its, n, rv, hlo⟩ := I.hok l _ hl1
    have hlI : l ≠ it := fun e => by rw [e, nI.2.1] at hl1; cases hl1
    have W := Walks.list (prog := X.prog) (w := X.w) (A := X.A.in1) hh it l hlI its.toArray
    have hsz : its.toArray.size = xs.length := by rw [List.size_toArray, ← rv.length]
    refine codeAny_builtin PySem.F.entry_max_loop ?_
    rw [Around.under_plainId PySem.F.plain_max_loop _]
    show wpAny _ X.A.in1 (seqItems? (.ref S) >>= _) _ _ _
    refine wpAny_bind (wpAny_seqItems nS.1 rfl ?_)
    show wpAny _ X.A.in1 (tryCatch (pyNext (.ref it)) _ >>= _) _ _ _
    refine wpAny_bind (wpAny_tryCatch (W.done _ _ _ ⟨by rw [hsz, ← hin]; exact hit, ⟨_, hlo, rfl, n, rfl⟩⟩ fun h' tk' hk' => ?_))
    have hk2 : ∀ b o, b ≠ it → s1.heap.get? b = some o → h'.get? b = some o := fun b o hb e => hk' b o (by simpa using hb) e
    have I1 : Inv X pins σ H1 { s1 with heap := h', toks := tk' } := I.unpin.unpin.turned (t' := tk') hk2 nI.2.1 sI.loc (.inr sI.up) sI.cell sI.pin
    have hS' := hk2 S _ hSI nS.1
    have e1 := Heap.SameBut.update h' S (Obj.mapSeq fun _ => (#[] : Array Value))
    show wpAny _ X.A.in1 (updateSeq S (fun _ => #[]) >>= _) _ _ _
    refine wpAny_bind ?_
    refine wpAny_updateSeq hS' rfl (wpAny_bind (wpAny_letGo (wpAny_pure ?_)))
    exact hR i x vb _ H1 ⟨hx, fun j' y e => hmx j' y (by have := (List.getElem?_eq_some_iff.mp e).1; omega) e⟩ rx sm (I1.turned (t' := tk') (fun b o hb e => (e1.2 b hb).trans e) nS.2.1 sS.loc (.inr sS.up) sS.cell sS.pin)
  | succ r ih =>
    intro j i s1 H1 x vb kb tb c oI hr hj sm I hit hx rx ekb hij hmx
    have hlt : j + 1 < xs.length := by omega
    have nS := I.pin (S, seqObj "list" #[vb, .int kb tb] c) (List.mem_append_right _ (List.mem_append_right _ (.head _)))
    have nI := I.pin (it, oI) (List.mem_append_right _ (List.mem_append_left _ (List.mem_append_right _ (.head _))))
    have hl1 := sm l _ hl
    obtain ⟨_, its, n, rv, hlo⟩ := I.hok l _ hl1
    have hlI : l ≠ it := fun e => by rw [e, nI.2.1] at hl1; cases hl1
    have W := Walks.list (prog := X.prog) (w := X.w) (A := X.A.in1) hh it l hlI its.toArray
    have hsz : its.toArray.size = xs.length := by rw [List.size_toArray, ← rv.length]
    refine codeAny_builtin PySem.F.entry_max_loop ?_
    rw [Around.under_plainId PySem.F.plain_max_loop _]
    show wpAny _ X.A.in1 (seqItems? (.ref S) >>= _) _ _ _
    refine wpAny_bind (wpAny_seqItems nS.1 rfl ?_)
    show wpAny _ X.A.in1 (tryCatch (pyNext (.ref it)) _ >>= _) _ _ _
    refine wpAny_bind (wpAny_tryCatch (W.item (j + 1) _ _ _ (by rw [hsz]; exact hlt) ⟨hit, ⟨_, hlo, rfl, n, rfl⟩⟩ fun v h' tk' hP hst' hk' => ?_))
    have hv : its[j + 1]? = some v := by simpa using hP
    obtain ⟨y, hy⟩ : ∃ y, xs[j + 1]? = some y := ⟨_, List.getElem?_eq_getElem hlt⟩
    have ry : RelV y v := by
      obtain ⟨u, hu, rr⟩ := rv.get hy
      rw [hv] at hu
      cases hu
      exact rr
    obtain ⟨oI', hoI', hoc, hod⟩ := id hst'.1
    have hk2 : ∀ b o, b ≠ it → s1.heap.get? b = some o → h'.get? b = some o := fun b o hb e => hk' b o (by simpa using hb) e
    have ncI : ∀ z, oI'.data ≠ .cell z := fun z e => by rw [hod] at e; cases e
    have ncS : ∀ (a : Array Value) (c : Nat) z, (seqObj "list" a c).data ≠ .cell z := fun a c z e => nomatch e
    have I1 : Inv X ((pins ++ [(it, oI')]) ++ [(S, seqObj "list" #[vb, .int kb tb] c)]) σ H1 { s1 with heap := h', toks := tk' } :=
      (I.unpin.turn sI hk2 hoI' ncI).pinOne (hk2 S _ hSI nS.1) nS.2.1 sS.loc sS.fs (ncS _ _)
    show wpAny _ X.A.in1 (tryCatch (holding [v] (call (.ref q) [v])) _ >>= _) _ _ _
    refine wpAny_bind (wpAny_tryCatch (wpAny_holding (wpAny_mono (turn (j + 1) y v _ _ H1 hy ry sm (fun p hp => List.mem_append_left _ (List.mem_append_left _ hp)) I1) (fun z s'' he => ?_) fun _ _ hF => hF.elim)))
    obtain ⟨vk, H2, I2, rk, rfl, sm2⟩ := he
    obtain ⟨t2, rfl⟩ := (show ∃ t, z = Value.int (κ y) t from rk)
    generalize hk' : κ y = k at *
    have nS2 := I2.pin (S, seqObj "list" #[vb, .int kb tb] c) (List.mem_append_right _ (List.mem_append_right _ (.head _)))
    have nI2 := I2.pin (it, oI') (List.mem_append_right _ (List.mem_append_left _ (List.mem_append_right _ (.head _))))
    have hit2 : s''.heap.IsListIter it l (j + 1 + 1) := ⟨oI', nI2.1, hoc, hod⟩
    show wpAny _ X.A.in1 (tryCatch (holding [v, .int k t2] (richCompare .Gt (.int k t2) (.int kb tb) >>= _)) _ >>= _) _ _ _
    refine wpAny_bind (wpAny_tryCatch (wpAny_holding (wpAny_bind (cmp_gt ?_))))
    refine wpAny_bind (wpAny_holding (wpAny_truthy_bool ?_))
    refine wpAny_bind (wpAny_letGo (wpAny_pure ?_))
    by_cases hb' : k > kb
    · have e1 := Heap.SameBut.update s''.heap S (Obj.mapSeq fun _ => #[v, .int k t2])
      obtain ⟨c2, hc2⟩ : ∃ c2, (s''.heap.update S (Obj.mapSeq fun _ => #[v, .int k t2])).get? S = some (seqObj "list" #[v, .int k t2] c2) := ⟨_, get?_update_seq nS2.1 fun _ => #[v, .int k t2]⟩
      simp only [hb', decide_true, if_true]
      refine wpAny_bind ?_
      refine wpAny_updateSeq nS2.1 rfl (wpAny_bind (wpAny_letGo ?_))
      rw [hname]
      refine wpAny_pure ⟨plainId_quiet PySem.F.plain_max_loop _, ih (j + 1) (j + 1) _ H2 y v k t2 c2 oI' (by omega) hlt (sm.trans sm2) ?_ ⟨oI', (e1.2 it hSI.symm).trans nI2.1, hoc, hod⟩ hy ry hk'.symm (Nat.le_refl _) ?_⟩
      rotate_left
      · intro j' y' h1 h2
        by_cases e : j' = j + 1
        · rw [e, hy] at h2; cases h2; exact ⟨Int.le_refl _, fun z => by omega⟩
        · have := hmx j' y' (by omega) h2
          omega
      exact I2.turn (t' := s''.toks) (sS.more hSI.symm) (fun b o hb e => (e1.2 b hb).trans e) hc2 (ncS _ _)
    · simp only [hb', decide_false, Bool.false_eq_true, if_false]
      refine wpAny_bind (wpAny_letGo ?_)
      rw [hname]
      exact wpAny_pure ⟨plainId_quiet PySem.F.plain_max_loop _, ih (j + 1) i _ H2 x vb kb tb c oI' (by omega) hlt (sm.trans sm2) I2 hit2 hx rx ekb (by omega) fun j' y' h1 h2 => by
        by_cases e : j' = j + 1
        · rw [e, hy] at h2; cases h2; exact ⟨by omega, fun z => by omega⟩
        · exact hmx j' y' (by omega) h2⟩
theorem max_key {l q : Addr} {xs : List V} (κ : V → Int) {Q : VK} (hh : X.A.handled = none) (I : Inv X pins σ H s) (hl : H l = some (.lst xs)) (hne : 0 < xs.length)
    (turn : ∀ (i : Nat) (x : V) (u : Value) (pins' : List (Addr × Obj)) (s1 : Shared) (H1 : Hp), xs[i]? = some x → RelV x u → Same H H1 → (∀ p ∈ pins, p ∈ pins') → Inv X pins' σ H1 s1 →
      wpAny (model X.prog X.w) X.A.in1 (call (.ref q) [u]) (EP X pins' σ fun v H2 => v = .int (κ x) ∧ Same H1 H2) (fun _ _ => False) s1)
    (hQ : ∀ (i : Nat) (x : V) (H1 : Hp), FirstMax κ xs i x → Same H H1 → Q x H1) :
    wpAny (model X.prog X.w) X.A (call (.builtin "max") [.ref l] [(Str.ofString "key", .ref q)]) (EP X pins σ Q) X.xe s := by
  have hname : (toString "max" ++ toString ".loop" : String) = "max.loop" := by decide
  obtain ⟨_, its, n, rv, hlo⟩ := I.hok l _ hl
  have hls : s.heap.IsList l its.toArray := ⟨_, hlo, rfl, n, rfl⟩
  have hll : l < s.heap.objs.size := Heap.lt_size hlo
  refine kmk_tree PySem.F.kind_max PySem.F.plain_max PySem.F.entry_max (by unfold argsOk; kernel_rfl) ?_
  show wpAny _ X.A.in1 (Builtin.Builtins.bindParams "max" ["key", "default"] 0 ⟨[], [(Str.ofString "key", .ref q)]⟩ >>= _) _ _ s
  refine wpAny_bind (wpAny_of_eq (show Builtin.Builtins.bindParams "max" ["key", "default"] 0 ⟨[], [(Str.ofString "key", .ref q)]⟩ = pure [some (.ref q), none] from rfl) ?_)
  refine wpAny_bind (wpAny_pure ?_)
  refine wpAny_bind (wpAny_pyIter_list hls ?_)
  refine wpAny_bind (wpAny_newList ?_ (Nat.zero_le _))
  rw [hname]
  refine wpAny_pure ⟨plainId_quiet PySem.F.plain_max_loop _, ?_⟩
  have hS : (s.heap.push { cls := .type "list_iterator", data := .fields #[.ref l, .int 0 0] }).objs.size = s.heap.objs.size + 1 := size_push' ..
  have gI : ((s.heap.push { cls := .type "list_iterator", data := .fields #[.ref l, .int 0 0] }).push (seqObj "list" #[] 0)).get? s.heap.objs.size = some { cls := .type "list_iterator", data := .fields #[.ref l, .int 0 0] } :=
    Heap.get?_push_of_some _ (Heap.get?_push_size _ rfl)
  have gS : ((s.heap.push { cls := .type "list_iterator", data := .fields #[.ref l, .int 0 0] }).push (seqObj "list" #[] 0)).get? (s.heap.push { cls := .type "list_iterator", data := .fields #[.ref l, .int 0 0] }).objs.size = some (seqObj "list" #[] 0) := Heap.get?_push_size _ rfl
  have kp : ∀ b o, s.heap.get? b = some o → ((s.heap.push { cls := .type "list_iterator", data := .fields #[.ref l, .int 0 0] }).push (seqObj "list" #[] 0)).get? b = some o := fun b o e => Heap.get?_push_of_some _ (Heap.get?_push_of_some _ e)
  have hSI : (s.heap.push { cls := .type "list_iterator", data := .fields #[.ref l, .int 0 0] }).objs.size ≠ s.heap.objs.size := by rw [hS]; exact Nat.ne_of_gt (Nat.lt_succ_self _)
  have sI : Spare X pins s.heap.objs.size := spare_new I (Nat.le_refl _)
  have sS : Spare X pins (s.heap.push { cls := .type "list_iterator", data := .fields #[.ref l, .int 0 0] }).objs.size := spare_new I (by rw [hS]; exact Nat.le_succ _)
  have fI : H s.heap.objs.size = none := I.hok.fresh (Nat.le_refl _)
  have fS : H (s.heap.push { cls := .type "list_iterator", data := .fields #[.ref l, .int 0 0] }).objs.size = none := I.hok.fresh (by rw [hS]; exact Nat.le_succ _)
  have ncS : ∀ (a : Array Value) (c : Nat) z, (seqObj "list" a c).data ≠ .cell z := fun a c z e => nomatch e
  generalize (s.heap.push { cls := .type "list_iterator", data := .fields #[.ref l, .int 0 0] }).objs.size = S at gS hSI sS fS
  generalize hh2 : (s.heap.push { cls := .type "list_iterator", data := .fields #[.ref l, .int 0 0] }).push (seqObj "list" #[] 0) = h2 at gI gS kp
  have hlI : l ≠ s.heap.objs.size := Nat.ne_of_lt hll
  generalize s.heap.objs.size = it at gI hSI sI fI hlI
  have I0 : Inv X ((pins ++ [(it, { cls := .type "list_iterator", data := .fields #[.ref l, .int 0 0] })]) ++ [(S, seqObj "list" #[] 0)]) σ H { s with heap := h2 } :=
    ((I.kept (t' := s.toks) kp).pinOne gI fI sI.loc sI.fs (by intro z e; cases e)).pinOne gS fS sS.loc sS.fs (ncS _ _)
  have W := Walks.list (prog := X.prog) (w := X.w) (A := X.A.in1) hh it l hlI its.toArray
  have hsz : its.toArray.size = xs.length := by rw [List.size_toArray, ← rv.length]
  refine codeAny_builtin PySem.F.entry_max_loop ?_
  rw [Around.under_plainId PySem.F.plain_max_loop _]
  show wpAny _ X.A.in1 (seqItems? (.ref S) >>= _) _ _ _
  refine wpAny_bind (wpAny_seqItems gS rfl ?_)
  show wpAny _ X.A.in1 (tryCatch (pyNext (.ref it)) _ >>= _) _ _ _
  refine wpAny_bind (wpAny_tryCatch (W.item 0 _ _ _ (by rw [hsz]; exact hne) ⟨⟨_, gI, rfl, rfl⟩, ⟨_, kp _ _ hlo, rfl, n, rfl⟩⟩ fun v h' tk' hP hst' hk' => ?_))
  have hv : its[0]? = some v := by simpa using hP
  obtain ⟨y, hy⟩ : ∃ y, xs[0]? = some y := ⟨_, List.getElem?_eq_getElem hne⟩
  have ry : RelV y v := by
    obtain ⟨u, hu, rr⟩ := rv.get hy
    rw [hv] at hu
    cases hu
    exact rr
  obtain ⟨oI', hoI', hoc, hod⟩ := id hst'.1
  have hk2 : ∀ b o, b ≠ it → h2.get? b = some o → h'.get? b = some o := fun b o hb e => hk' b o (by simpa using hb) e
  have ncI : ∀ z, oI'.data ≠ .cell z := fun z e => by rw [hod] at e; cases e
  have I1 : Inv X ((pins ++ [(it, oI')]) ++ [(S, seqObj "list" #[] 0)]) σ H { s with heap := h', toks := tk' } :=
    (I0.unpin.turn (t' := tk') sI hk2 hoI' ncI).pinOne (hk2 S _ hSI gS) fS sS.loc sS.fs (ncS _ _)
  show wpAny _ X.A.in1 (tryCatch (holding [v] (call (.ref q) [v])) _ >>= _) _ _ _
  refine wpAny_bind (wpAny_tryCatch (wpAny_holding (wpAny_mono (turn 0 y v _ _ H hy ry (Same.refl _) (fun p hp => List.mem_append_left _ (List.mem_append_left _ hp)) I1) (fun z s'' he => ?_) fun _ _ hF => hF.elim)))
  obtain ⟨vk, H2, I2, rk, rfl, sm2⟩ := he
  obtain ⟨t2, rfl⟩ := (show ∃ t, z = Value.int (κ y) t from rk)
  generalize hk' : κ y = k at *
  have nS2 := I2.pin (S, seqObj "list" #[] 0) (List.mem_append_right _ (List.mem_append_right _ (.head _)))
  have nI2 := I2.pin (it, oI') (List.mem_append_right _ (List.mem_append_left _ (List.mem_append_right _ (.head _))))
  have e1 := Heap.SameBut.update s''.heap S (Obj.mapSeq fun _ => #[v, .int k t2])
  obtain ⟨c2, hc2⟩ : ∃ c2, (s''.heap.update S (Obj.mapSeq fun _ => #[v, .int k t2])).get? S = some (seqObj "list" #[v, .int k t2] c2) := ⟨_, get?_update_seq nS2.1 fun _ => #[v, .int k t2]⟩
  show wpAny _ X.A.in1 (updateSeq S (fun _ => #[v, .int k t2]) >>= _) _ _ _
  refine wpAny_bind ?_
  refine wpAny_updateSeq nS2.1 rfl ?_
  rw [hname]
  refine wpAny_pure ⟨plainId_quiet PySem.F.plain_max_loop _, max_loop κ hh hl hSI sS sI turn (fun i x u s1 H1 hx rx sm J => ⟨x, H1, J, rx, hQ i x H1 hx sm⟩) _ 0 0 _ H2 y v k t2 c2 oI' rfl hne sm2 ?_ ⟨oI', (e1.2 it hSI.symm).trans nI2.1, hoc, hod⟩ hy ry hk'.symm (Nat.le_refl _) ?_⟩
  rotate_left
  · intro j' y' h1 h2
    obtain rfl : j' = 0 := by omega
    rw [hy] at h2; cases h2; exact ⟨Int.le_refl _, fun z => by omega⟩
  exact I2.turn (t' := s''.toks) (sS.more hSI.symm) (fun b o hb e => (e1.2 b hb).trans e) hc2 (ncS _ _)
end
end L2
namespace L2
open PySem PySem.Spec PyProof.Rows
open PySem.W (envX kla_fn kla_obj tabObj CodeHd)
def codeO (c : Addr) (qual : Str) : HO := .ext fun h => h.CodeRec (.ref c) qual
def TabAt (H : Hp) (P : Addr) (lpos : Pos) (qual : Str) : Prop := H P = some (.tbl #[]) ∨ ∃ c', c' ≠ P ∧ H P = some (.tbl #[rawInt lpos.line, rawInt lpos.col, .ref c']) ∧ H c' = some (codeO c' qual)
def SameP (P : Addr) (H H' : Hp) : Prop := ∀ b o, b ≠ P → H b = some o → H' b = some o
theorem Same.p {P : Addr} {H H' : Hp} (h : Same H H') : SameP P H H' := fun b o _ e => h b o e
theorem SameP.trans {P : Addr} {H H1 H2 : Hp} (a : SameP P H H1) (b : SameP P H1 H2) : SameP P H H2 := fun c o n e => b c o n (a c o n e)
theorem codeRec_ext {c : Addr} {qual : Str} {h1 h2 : Heap} (x : h1.CodeRec (.ref c) qual) (k : ∀ o, h1.get? c = some o → h2.get? c = some o) : h2.CodeRec (.ref c) qual := by
  obtain ⟨c2, o, vs, t, e, ho, hd, hv⟩ := x
  cases e
  exact ⟨c, o, vs, t, rfl, k o ho, hd, hv⟩
theorem tab_same {H H' : Hp} {P : Addr} {lpos : Pos} {qual : Str} (h : TabAt H P lpos qual) (s : Same H H') : TabAt H' P lpos qual := by
  rcases h with h | ⟨c', n, h1, h2⟩
  · exact .inl (s P _ h)
  · exact .inr ⟨c', n, s P _ h1, s c' _ h2⟩
section
variable {X : Cx} {pins : List (Addr × Obj)} {σ : St} {H : Hp} {s : Shared}
theorem make_lam {params : Arguments} {body : Expr} {scope : Scope} {lpos : Pos} {P cc : Addr} {clos : List (Str × Addr)} {Q : Value → Shared → Prop} (I : Inv X pins σ H s) (hdef : defaultsOf params X.env = ([], [])) (hcl : closureFor scope X.env = pure clos) (hcode : X.env.code = .ref cc)
    (C : CodeHd X.base cc P) (hbm : ∃ bm ob, X.mg "__builtins__" = some (.ref bm) ∧ bm ≠ builtinsNs ∧ X.base.get? bm = some ob ∧ ob.cls = .type "module" ∧ ob.dict = some builtinsNs ∧ ob.data = .plain) (hT : TabAt H P lpos (X.env.qual ++ "<lambda>"))
    (h : ∀ (f c' : Addr) (ctv : Value) (s' : Shared) (H' : Hp), SameP P H H' → TabAt H' P lpos (X.env.qual ++ "<lambda>") → (∀ b o, s.heap.get? b = some o → H b = none → s'.heap.get? b = some o) →
      Inv X (pins ++ [(f, kla_obj "<lambda>" (X.env.qual ++ "<lambda>") params body scope clos ((X.mg "__name__").getD .none) c' ctv)]) σ H' s' → H' c' = some (codeO c' (X.env.qual ++ "<lambda>")) → Q (.ref f) s') :
    wpAny (model X.prog X.w) X.A (eval (.Lambda params body scope lpos) X.env) Q X.xe s := by
  obtain ⟨bm, ob, b1, b2, b3, b4, b5, b6⟩ := hbm
  have hgs : s.heap.Ns mainGlobals X.mg := I.ok.mod.glob.keeps I.bk
  have Cs : CodeHd s.heap cc P := C.keeps I.bk
  have hglob : X.env.globals = mainGlobals := I.ok.glob
  have nP : ∀ ps, H P = some (.tbl ps) → s.heap.get? P = some (tabObj ps) := fun ps e => I.hok P _ e
  have neP : ∀ {ps}, H P = some (.tbl ps) → ∀ b o, s.heap.get? b = some o → H b = none → b ≠ P := fun {ps} e b o _ n q => by rw [q, e] at n; cases n
  have hgP : ∀ {ps}, H P = some (.tbl ps) → mainGlobals ≠ P := fun {ps} e q => by
    obtain ⟨o, es, ep, ho, hd, _⟩ := hgs
    rw [q, nP ps e] at ho; cases ho; cases hd
  have hbP : ∀ {ps}, H P = some (.tbl ps) → bm ≠ P := fun {ps} e q => by
    have ho := I.bk _ _ b3
    rw [q, nP ps e] at ho; cases ho; cases b4
  have hbG : bm ≠ mainGlobals := fun q => by
    obtain ⟨o, es, ep, e, hd, _⟩ := I.ok.mod.glob
    rw [q, e] at b3; cases b3; rw [hd] at b6; cases b6
  have ncF : ∀ c' ctv z, (kla_obj "<lambda>" (X.env.qual ++ "<lambda>") params body scope clos ((X.mg "__name__").getD .none) c' ctv).data ≠ .cell z := fun _ _ z e => nomatch e
  refine PySem.W.kla_eval hdef ?_
  rcases hT with hT | ⟨c', hcP, hT, hc'⟩
  · refine PySem.W.kla_makeFunction (mg := X.mg) hcl hglob hgs hcode Cs (nP _ hT) True.intro rfl (hgP hT) ⟨bm, ob, b1, b2, hbG, hbP hT, I.bk _ _ b3, b4, b5, b6⟩ fun c' ctv h' tk hx hge hlt hrec htb => ?_
    have hcP : c' ≠ P := fun q => by
      rw [q] at hge
      exact absurd (Heap.lt_size (nP _ hT)) (Nat.not_lt.mpr hge)
    have hcn : H c' = none := I.hok.fresh hge
    have sm : SameP P H (upd (upd H P (.tbl #[rawInt lpos.line, rawInt lpos.col, .ref c'])) c' (codeO c' (X.env.qual ++ "<lambda>"))) := fun b o hb e => by
      rw [upd_ne (ne_of_none e hcn), upd_ne hb]; exact e
    have hPn : (upd (upd H P (.tbl #[rawInt lpos.line, rawInt lpos.col, .ref c'])) c' (codeO c' (X.env.qual ++ "<lambda>"))) P = some (.tbl #[rawInt lpos.line, rawInt lpos.col, .ref c']) := by rw [upd_ne hcP.symm, upd_same]
    have hcn2 : (upd (upd H P (.tbl #[rawInt lpos.line, rawInt lpos.col, .ref c'])) c' (codeO c' (X.env.qual ++ "<lambda>"))) c' = some (codeO c' (X.env.qual ++ "<lambda>")) := upd_same
    have frn : ∀ b, H b = none → b ≠ c' → (upd (upd H P (.tbl #[rawInt lpos.line, rawInt lpos.col, .ref c'])) c' (codeO c' (X.env.qual ++ "<lambda>"))) b = none := fun b n hb => by
      rw [upd_ne hb, upd_ne (fun q => by rw [q, hT] at n; cases n)]; exact n
    generalize upd (upd H P (.tbl #[rawInt lpos.line, rawInt lpos.col, .ref c'])) c' (codeO c' (X.env.qual ++ "<lambda>")) = H' at sm hPn hcn2 frn
    have hlc : ∀ b o, s.heap.get? b = some o → b ≠ c' := fun b o e q => by
      rw [← q] at hge
      exact absurd (Heap.lt_size e) (Nat.not_lt.mpr hge)
    have htb' : h'.get? P = some (tabObj #[rawInt lpos.line, rawInt lpos.col, .ref c']) := by simpa using htb
    have I1 : Inv X pins σ H' { s with heap := h', toks := tk } := I.un (t' := tk) ⟨fun b o e n _ _ => hx b o (neP hT b o e n) e, fun b o e n _ _ => ⟨o.slots, hx b o (neP hT b o e n) e⟩, fun b o e n _ => frn b n (hlc b o e), fun b o e _ => ?_, fun b xs e => sm b _ (fun q => by rw [q, hT] at e; cases e) e, fun b o u e => sm b _ (fun q => by rw [q, hT] at e; cases e) e, fun b ps e => ?_⟩ fun b u e => ?_
    · have hfs : h'.objs.size < (h'.push (kla_obj "<lambda>" (X.env.qual ++ "<lambda>") params body scope clos ((X.mg "__name__").getD .none) c' ctv)).objs.size := by rw [Heap.size_push]; omega
      have I2 : Inv X pins σ H' { s with heap := h'.push (kla_obj "<lambda>" (X.env.qual ++ "<lambda>") params body scope clos ((X.mg "__name__").getD .none) c' ctv), toks := tk } := I1.kept (t' := tk) fun b o e => Heap.get?_push_of_some _ e
      have sp : Spare X pins h'.objs.size := spare_new I1 (Nat.le_refl _)
      exact h h'.objs.size c' ctv _ H' sm (.inr ⟨c', hcP, hPn, hcn2⟩) (fun b o e n => Heap.get?_push_of_some _ (hx b o (neP hT b o e n) e)) (I2.pinOne (Heap.get?_push_size _ rfl) (I1.hok.fresh (Nat.le_refl _)) sp.loc sp.fs (ncF _ _)) hcn2
    · by_cases hb : b = P
      · exact ⟨_, by rw [hb]; exact htb'⟩
      · exact ⟨o, hx b o hb e⟩
    · by_cases hb : b = P
      · subst hb
        rw [hT] at e
        cases e
        exact ⟨#[rawInt lpos.line, rawInt lpos.col, .ref c'], by rw [hPn]; simp⟩
      · exact ⟨#[], by rw [sm b _ hb e]; simp⟩
    · by_cases hb : b = P
      · subst hb
        rw [hPn] at e
        cases e
        exact htb'
      · by_cases hbc : b = c'
        · subst hbc
          rw [hcn2] at e
          cases e
          obtain ⟨c2, o, vs, t, e2, ho, hd, hv⟩ := id hrec
          cases e2
          exact ⟨hrec, ⟨o, ho⟩, fun h1 h2 x k => codeRec_ext x k⟩
        · have e1 : H b = some u := by
            cases q : H b with
            | none => rw [frn b q hbc] at e; cases e
            | some v => rw [sm b v hb q] at e; exact e
          refine (I.hok b u e1).stay (fun c v hc q => hx c v ?_ q) (fun c q => sm c _ (fun z => by rw [z, hT] at q; cases q) q) fun c xs q => sm c _ (fun z => by rw [z, hT] at q; cases q) q
          rcases hc with rfl | hc
          · exact hb
          · exact fun z => by rw [z, hT] at hc; cases hc
  · have hrec : s.heap.CodeRec (.ref c') (X.env.qual ++ "<lambda>") := (I.hok c' _ hc').1
    have trip : TriplesOk (#[rawInt lpos.line, rawInt lpos.col, .ref c'] : Array Value).toList := by simp [TriplesOk, rawInt]
    have among : codeAmong lpos (#[rawInt lpos.line, rawInt lpos.col, .ref c'] : Array Value).toList = some (.ref c') := by simp [codeAmong, rawInt]
    refine PySem.W.kla_makeFunctionHit (mg := X.mg) (cv := .ref c') hcl hglob hgs hcode Cs (nP _ hT) trip among ⟨bm, ob, b1, b2, hbG, hbP hT, I.bk _ _ b3, b4, b5, b6⟩ fun ctv h' tk hk hsz => ?_
    have I1 : Inv X pins σ H { s with heap := h', toks := tk } := I.kept (t' := tk) hk
    have I2 : Inv X pins σ H { s with heap := h'.push (kla_obj "<lambda>" (X.env.qual ++ "<lambda>") params body scope clos ((X.mg "__name__").getD .none) c' ctv), toks := tk } := I1.kept (t' := tk) fun b o e => Heap.get?_push_of_some _ e
    have sp : Spare X pins h'.objs.size := spare_new I1 (Nat.le_refl _)
    exact h h'.objs.size c' ctv _ H (fun b o _ e => e) (.inr ⟨c', hcP, hT, hc'⟩) (fun b o e n => Heap.get?_push_of_some _ (hk b o e)) (I2.pinOne (Heap.get?_push_size _ rfl) (I1.hok.fresh (Nat.le_refl _)) sp.loc sp.fs (ncF _ _)) hc'
end
end L2
namespace Fp
open PySem L2
variable {c : List Row}
theorem nodup_sub {α : Type} [DecidableEq α] : ∀ {l m : List α}, l.Nodup → (∀ x ∈ l, x ∈ m) → l.length ≤ m.length
  | [], _, _, _ => Nat.zero_le _
  | a :: l, m, h, k => by
    obtain ⟨h1, h2⟩ := List.nodup_cons.mp h
    have ha : a ∈ m := k a (List.mem_cons_self ..)
    have q := nodup_sub (m := m.erase a) h2 fun x hx => (List.mem_erase_of_ne (fun e => h1 (by rw [← e]; exact hx))).mpr (k x (List.mem_cons_of_mem _ hx))
    rw [List.length_erase_of_mem ha] at q
    have : 0 < m.length := List.length_pos_of_mem ha
    rw [List.length_cons]
    omega
def keysZ (m : Kept) : List Key := m.map (·.1)
def vals (m : Kept) : List Int := m.map (·.2)
def dropZ (m : Kept) (k : Key) : Kept := m.filter fun p => decide (p.1 ≠ k)
theorem getZ_nil (k : Key) : getZ [] k = none := rfl
theorem getZ_cons (p : Key × Int) (m : Kept) (k : Key) : getZ (p :: m) k = if p.1 = k then some p.2 else getZ m k := by
  unfold getZ
  rw [List.find?_cons]
  by_cases h : p.1 = k <;> simp [h]
theorem getZ_pair {m : Kept} {k : Key} {z : Int} (h : getZ m k = some z) : (k, z) ∈ m := by
  induction m with
  | nil => cases h
  | cons p m ih =>
    rw [getZ_cons] at h
    by_cases hk : p.1 = k
    · rw [if_pos hk] at h
      have : p = (k, z) := by rw [← hk, ← Option.some.inj h]
      rw [this]; exact List.mem_cons_self ..
    · rw [if_neg hk] at h
      exact List.mem_cons_of_mem _ (ih h)
theorem getZ_of {m : Kept} {k : Key} {z : Int} (hn : (keysZ m).Nodup) (h : (k, z) ∈ m) : getZ m k = some z := by
  induction m with
  | nil => cases h
  | cons p m ih =>
    rw [getZ_cons]
    obtain ⟨h1, h2⟩ := List.nodup_cons.mp (show (p.1 :: keysZ m).Nodup from hn)
    rcases List.mem_cons.mp h with e | e
    · rw [← e, if_pos rfl]
    · rw [if_neg]
      · exact ih h2 e
      · intro q
        refine h1 ?_
        rw [q]
        exact List.mem_map.mpr ⟨_, e, rfl⟩
theorem getZ_key {m : Kept} {k : Key} (h : k ∈ keysZ m) : (getZ m k).isSome = true := by
  induction m with
  | nil => cases h
  | cons p m ih =>
    rw [getZ_cons]
    by_cases hk : p.1 = k
    · rw [if_pos hk]; rfl
    · rw [if_neg hk]
      rcases List.mem_cons.mp (show k ∈ p.1 :: keysZ m from h) with e | e
      · exact absurd e.symm hk
      · exact ih e
theorem mem_vals {m : Kept} (hn : (keysZ m).Nodup) {z : Int} : z ∈ vals m ↔ ∃ k, getZ m k = some z := by
  constructor
  · intro h
    obtain ⟨p, hp, rfl⟩ := List.mem_map.mp h
    exact ⟨p.1, getZ_of hn hp⟩
  · rintro ⟨k, h⟩
    exact List.mem_map.mpr ⟨_, getZ_pair h, rfl⟩
theorem getZ_drop (m : Kept) (k j : Key) : getZ (dropZ m k) j = if j = k then none else getZ m j := by
  induction m with
  | nil => rw [show dropZ [] k = [] from rfl, getZ_nil]; split <;> rfl
  | cons p m ih =>
    unfold dropZ
    rw [List.filter_cons]
    by_cases h : p.1 = k
    · rw [if_neg (by simp [h])]
      rw [show List.filter (fun p => decide (p.1 ≠ k)) m = dropZ m k from rfl, ih, getZ_cons]
      by_cases hj : j = k
      · rw [if_pos hj, if_pos hj]
      · rw [if_neg hj, if_neg hj, if_neg (fun q => hj (by rw [← q, h]))]
    · rw [if_pos (by simp [h]), getZ_cons]
      rw [show List.filter (fun p => decide (p.1 ≠ k)) m = dropZ m k from rfl, ih, getZ_cons]
      by_cases hp : p.1 = j
      · rw [if_pos hp, if_pos hp, if_neg (fun q => h (by rw [hp, q]))]
      · rw [if_neg hp, if_neg hp]
theorem keys_drop {m : Kept} {k : Key} (h : (keysZ m).Nodup) : (keysZ (dropZ m k)).Nodup := h.sublist ((List.filter_sublist (l := m)).map _)
theorem putZ_new {m : Kept} {k : Key} {z : Int} (h : getZ m k = none) : putZ m k z = m ++ [(k, z)] := by
  unfold putZ
  rw [if_neg]
  intro q
  obtain ⟨p, hp, e⟩ := List.any_eq_true.mp q
  have : k ∈ keysZ m := List.mem_map.mpr ⟨p, hp, of_decide_eq_true e⟩
  have := getZ_key this
  rw [h] at this
  cases this
theorem keys_put {m : Kept} {k : Key} {z : Int} (h : (keysZ m).Nodup) : (keysZ (putZ m k z)).Nodup := by
  by_cases hk : getZ m k = none
  · rw [putZ_new hk]
    unfold keysZ
    rw [List.map_append]
    refine List.nodup_append.mpr ⟨h, by simp, fun a ha b hb => ?_⟩
    simp only [List.map_cons, List.map_nil, List.mem_singleton] at hb
    rw [hb]
    rintro rfl
    have := getZ_key ha
    rw [hk] at this
    cases this
  · have e : keysZ (putZ m k z) = keysZ m := by
      unfold putZ
      have hany : (m.any fun p => decide (p.1 = k)) = true := by
        cases q : getZ m k with
        | none => exact absurd q hk
        | some y => exact List.any_eq_true.mpr ⟨_, getZ_pair q, by simp⟩
      rw [if_pos hany]
      unfold keysZ
      rw [List.map_map]
      refine List.map_congr_left fun p _ => ?_
      show (if p.1 = k then (p.1, z) else p).1 = p.1
      split <;> rfl
    rw [e]
    exact h
def Low (vs : List Int) (z : Int) : Prop := 0 ≤ z ∧ ¬ z ∈ vs ∧ ∀ y, 0 ≤ y → y < z → y ∈ vs
structure Rm where
  place : Kept
  spot : Kept
  made : List IRow
structure Apart (m : Kept) (live : List Str) : Prop where
  nd : (keysZ m).Nodup
  nm : ∀ k z, getZ m k = some z → ∃ x ∈ live, k = .inr x
  inj : ∀ j k z, getZ m j = some z → getZ m k = some z → j = k
  pos : ∀ k z, getZ m k = some z → 0 ≤ z
structure Good (n : Int) (live : List Str) (R : Rm) : Prop where
  pl : Apart R.place live
  sp : Apart R.spot live
  lt : ∀ k z, getZ R.place k = some z → z < n
  all : ∀ x ∈ live, (∃ z, getZ R.place (.inr x) = some z) ∨ ∃ z, getZ R.spot (.inr x) = some z
theorem apart_nil (live : List Str) : Apart [] live := ⟨List.nodup_nil, (fun _ _ h => nomatch h), (fun _ _ _ h => nomatch h), (fun _ _ h => nomatch h)⟩
theorem good_nil (n : Int) : Good n [] ⟨[], [], []⟩ := ⟨apart_nil _, apart_nil _, (fun _ _ h => nomatch h), (fun _ h => nomatch h)⟩
theorem Apart.put {m : Kept} {live : List Str} {x : Str} {z : Int} (h : Apart m live) (hx : x ∈ live) (hn : getZ m (.inr x) = none) (hz : Low (vals m) z) : Apart (putZ m (.inr x) z) live := by
  have no : ∀ k, getZ m k ≠ some z := fun k e => hz.2.1 ((mem_vals h.nd).mpr ⟨k, e⟩)
  refine ⟨keys_put h.nd, fun k y e => ?_, fun j k y e1 e2 => ?_, fun k y e => ?_⟩
  · rw [getZ_put] at e
    by_cases hk : k = .inr x
    · exact ⟨x, hx, hk⟩
    · rw [if_neg hk] at e; exact h.nm k y e
  · rw [getZ_put] at e1 e2
    by_cases hj : j = .inr x
    · by_cases hk : k = .inr x
      · rw [hj, hk]
      · rw [if_pos hj] at e1
        rw [if_neg hk] at e2
        cases e1
        exact absurd e2 (no k)
    · rw [if_neg hj] at e1
      by_cases hk : k = .inr x
      · rw [if_pos hk] at e2
        cases e2
        exact absurd e1 (no j)
      · rw [if_neg hk] at e2; exact h.inj j k y e1 e2
  · rw [getZ_put] at e
    by_cases hk : k = .inr x
    · rw [if_pos hk] at e; cases e; exact hz.1
    · rw [if_neg hk] at e; exact h.pos k y e
theorem Apart.put' {m : Kept} {live live' : List Str} {x : Str} {z : Int} (h : Apart m live) (hs : ∀ y ∈ live, y ∈ live') (hx : x ∈ live') (hn : getZ m (.inr x) = none) (h0 : 0 ≤ z) (no : ∀ k, getZ m k ≠ some z) : Apart (putZ m (.inr x) z) live' := by
  refine ⟨keys_put h.nd, fun k y e => ?_, fun j k y e1 e2 => ?_, fun k y e => ?_⟩
  · rw [getZ_put] at e
    by_cases hk : k = .inr x
    · exact ⟨x, hx, hk⟩
    · rw [if_neg hk] at e
      obtain ⟨y, hy, e⟩ := h.nm k y e
      exact ⟨y, hs y hy, e⟩
  · rw [getZ_put] at e1 e2
    by_cases hj : j = .inr x
    · by_cases hk : k = .inr x
      · rw [hj, hk]
      · rw [if_pos hj] at e1
        rw [if_neg hk] at e2
        cases e1
        exact absurd e2 (no k)
    · rw [if_neg hj] at e1
      by_cases hk : k = .inr x
      · rw [if_pos hk] at e2
        cases e2
        exact absurd e1 (no j)
      · rw [if_neg hk] at e2; exact h.inj j k y e1 e2
  · rw [getZ_put] at e
    by_cases hk : k = .inr x
    · rw [if_pos hk] at e; cases e; exact h0
    · rw [if_neg hk] at e; exact h.pos k y e
theorem Apart.drop {m : Kept} {live : List Str} {k : Key} (h : Apart m live) : Apart (dropZ m k) live := by
  have sub : ∀ j z, getZ (dropZ m k) j = some z → getZ m j = some z := fun j z e => by
    rw [getZ_drop] at e
    by_cases hj : j = k
    · rw [if_pos hj] at e; cases e
    · rw [if_neg hj] at e; exact e
  exact ⟨keys_drop h.nd, fun j z e => h.nm j z (sub j z e), fun i j z e1 e2 => h.inj i j z (sub i z e1) (sub j z e2), fun j z e => h.pos j z (sub j z e)⟩
inductive Shelve (R : Rm) (x : Str) : Rm → Prop
  | there (z : Int) (h : getZ R.spot (.inr x) = some z) : Shelve R x R
  | new (s p : Int) (h : getZ R.spot (.inr x) = none) (hs : Low (vals R.spot) s) (hp : getZ R.place (.inr x) = some p) : Shelve R x ⟨R.place, putZ R.spot (.inr x) s, R.made ++ [.shelve s p]⟩
def firstUse (later : List Row) (x : Str) : Int := ((later.findIdx fun r => decide (x ∈ uses1 r) : Nat) : Int)
def Latest (later : List Row) (ns : List Str) (x : Str) : Prop := ∃ i, FirstMax (firstUse later) ns i x
def nmOf : Key → Str
  | .inr x => x
  | .inl _ => ""
def outs (m : Kept) (stay : List Str) : List Str := (m.map fun p => nmOf p.1).filter fun x => !decide (x ∈ stay)
inductive Empty (c : List Row) (n : Int) (stay : List Str) (R : Rm) : Rm → Int → Prop
  | free (p : Int) (h : Low (vals R.place) p) (hp : p < n) : Empty c n stay R R p
  | full (q p : Int) (x : Str) (R1 : Rm) (h : Low (vals R.place) q) (hq : n ≤ q) (hx : getZ R.place (.inr x) = some p) (hs : ¬ x ∈ stay) (hS : Shelve R x R1) (hc : Latest c (outs R.place stay) x) : Empty c n stay R ⟨dropZ R1.place (.inr x), R1.spot, R1.made⟩ p
theorem out_of {n : Int} {live stay : List Str} {R : Rm} {q : Int} (G : Good n live R) (hq : Low (vals R.place) q) (hn : n ≤ q) (l : List Str) (hl : (l.length : Int) < n) (hst : ∀ x ∈ stay, (∃ z, getZ R.place (.inr x) = some z) → x ∈ l) :
    ∃ x z, getZ R.place (.inr x) = some z ∧ ¬ x ∈ stay := by
  refine Classical.byContradiction fun no => ?_
  have h1 : n.toNat ≤ R.place.length := by
    have hnd : ((List.range n.toNat).map fun i : Nat => (i : Int)).Nodup := by
      exact List.pairwise_map.mpr (List.nodup_range.imp fun h e => h (by omega))
    have := nodup_sub (m := vals R.place) hnd fun x hx => by
      obtain ⟨i, hi, rfl⟩ := List.mem_map.mp hx
      exact hq.2.2 _ (by omega) (by have := List.mem_range.mp hi; omega)
    rw [List.length_map, List.length_range] at this
    unfold vals at this
    rwa [List.length_map] at this
  have h2 : R.place.length ≤ l.length := by
    have := nodup_sub (l := keysZ R.place) (m := l.map (Sum.inr : Str → Key)) G.pl.nd fun k hk => by
      obtain ⟨z, hz⟩ := Option.isSome_iff_exists.mp (getZ_key hk)
      obtain ⟨x, hx, rfl⟩ := G.pl.nm k z hz
      refine List.mem_map.mpr ⟨x, hst x ?_ ⟨z, hz⟩, rfl⟩
      exact Classical.byContradiction fun q => no ⟨x, z, hz, q⟩
    unfold keysZ at this
    rwa [List.length_map, List.length_map] at this
  omega
structure Freed (n : Int) (live stay : List Str) (R R' : Rm) (p : Int) : Prop where
  good : Good n live R'
  p0 : 0 ≤ p
  pn : p < n
  no : ∀ k, getZ R'.place k ≠ some p
  sub : ∀ k z, getZ R'.place k = some z → getZ R.place k = some z
  stays : ∀ x ∈ stay, ∀ z, getZ R.place (.inr x) = some z → getZ R'.place (.inr x) = some z
  spots : ∀ k z, getZ R.spot k = some z → getZ R'.spot k = some z
theorem freed {n : Int} {live stay : List Str} {R R' : Rm} {p : Int} (G : Good n live R) (E : Empty c n stay R R' p) : Freed n live stay R R' p := by
  cases E with
  | free _ h hp => exact ⟨G, h.1, hp, fun k e => h.2.1 ((mem_vals G.pl.nd).mpr ⟨k, e⟩), fun _ _ e => e, fun _ _ _ e => e, fun _ _ e => e⟩
  | full q _ x R1 h hq hx hs hS =>
    have key : R1.place = R.place ∧ Apart R1.spot live ∧ (∀ k z, getZ R.spot k = some z → getZ R1.spot k = some z) ∧ ∃ z, getZ R1.spot (.inr x) = some z := by
      cases hS with
      | there z h => exact ⟨rfl, G.sp, fun _ _ e => e, z, h⟩
      | new s p' hn hl hp =>
        obtain ⟨y, hy, e⟩ := G.pl.nm _ _ hx
        cases e
        refine ⟨rfl, G.sp.put hy hn hl, fun k z e => ?_, s, ?_⟩
        · show getZ (putZ R.spot (.inr x) s) k = _
          rw [getZ_put, if_neg (fun q => by rw [q, hn] at e; cases e)]; exact e
        · show getZ (putZ R.spot (.inr x) s) (.inr x) = _
          rw [getZ_put, if_pos rfl]
    obtain ⟨e1, h1, h2, h3⟩ := key
    have sub : ∀ k z, getZ (dropZ R1.place (.inr x)) k = some z → k ≠ .inr x ∧ getZ R.place k = some z := fun k z e => by
      rw [getZ_drop, e1] at e
      by_cases hk : k = .inr x
      · rw [if_pos hk] at e; cases e
      · rw [if_neg hk] at e; exact ⟨hk, e⟩
    refine ⟨⟨by rw [e1]; exact G.pl.drop, h1, fun k z e => G.lt k z (sub k z e).2, fun y hy => ?_⟩, G.pl.pos _ _ hx, G.lt _ _ hx, fun k e => ?_, fun k z e => (sub k z e).2, fun y hy z e => ?_, h2⟩
    · by_cases e : y = x
      · subst e; exact .inr h3
      · rcases G.all y hy with ⟨z, q⟩ | ⟨z, q⟩
        · refine .inl ⟨z, ?_⟩
          show getZ (dropZ R1.place (.inr x)) (.inr y) = _
          rw [getZ_drop, if_neg (fun q => e (Sum.inr.inj q)), e1]; exact q
        · exact .inr ⟨z, h2 _ _ q⟩
    · obtain ⟨h4, h5⟩ := sub k p e
      exact h4 (G.pl.inj k (.inr x) p h5 hx)
    · show getZ (dropZ R1.place (.inr x)) (.inr y) = _
      rw [getZ_drop, if_neg (fun q => hs (by rw [← Sum.inr.inj q]; exact hy)), e1]; exact e
inductive Fetch (c : List Row) (n : Int) (used : List Str) : List Str → Rm → Rm → Prop
  | nil (R : Rm) : Fetch c n used [] R R
  | has (x : Str) (l : List Str) (R R' : Rm) (z : Int) (h : getZ R.place (.inr x) = some z) (t : Fetch c n used l R R') : Fetch c n used (x :: l) R R'
  | get (x : Str) (l : List Str) (R R1 R' : Rm) (p s : Int) (h : getZ R.place (.inr x) = none) (he : Empty c n used R R1 p) (hs : getZ R1.spot (.inr x) = some s) (t : Fetch c n used l ⟨putZ R1.place (.inr x) p, R1.spot, R1.made ++ [.fetch p s]⟩ R') : Fetch c n used (x :: l) R R'
theorem fetched1 {n : Int} {live used : List Str} {R R1 : Rm} {x : Str} {p s : Int} (G : Good n live R) (hx : x ∈ live) (h : getZ R.place (.inr x) = none) (he : Empty c n used R R1 p) : Good n live ⟨putZ R1.place (.inr x) p, R1.spot, R1.made ++ [.fetch p s]⟩ := by
  have F := freed G he
  have hn : getZ R1.place (.inr x) = none := by
    cases q : getZ R1.place (.inr x) with
    | none => rfl
    | some z => rw [F.sub _ _ q] at h; cases h
  refine ⟨F.good.pl.put' (fun _ h => h) hx hn F.p0 F.no, F.good.sp, fun k z e => ?_, fun y hy => ?_⟩
  · have e : getZ (putZ R1.place (.inr x) p) k = some z := e
    rw [getZ_put] at e
    by_cases hk : k = .inr x
    · rw [if_pos hk] at e; cases e; exact F.pn
    · rw [if_neg hk] at e; exact F.good.lt k z e
  · rcases F.good.all y hy with ⟨z, q⟩ | q
    · refine .inl ⟨z, ?_⟩
      show getZ (putZ R1.place (.inr x) p) (.inr y) = _
      rw [getZ_put, if_neg (fun e => by rw [e, hn] at q; cases q)]; exact q
    · exact .inr q
theorem fetched {n : Int} {live used : List Str} : ∀ {l : List Str} {R R' : Rm}, Good n live R → (∀ x ∈ l, x ∈ used) → (∀ x ∈ used, x ∈ live) → Fetch c n used l R R' →
    Good n live R' ∧ (∀ x ∈ used, (∃ z, getZ R.place (.inr x) = some z) → ∃ z, getZ R'.place (.inr x) = some z) ∧ ∀ x ∈ l, ∃ z, getZ R'.place (.inr x) = some z := by
  intro l R R' G hl hu F
  induction F with
  | nil R => exact ⟨G, fun _ _ h => h, (fun _ h => nomatch h)⟩
  | has x l R R' z h t ih =>
    obtain ⟨h1, h2, h3⟩ := ih G fun y hy => hl y (List.mem_cons_of_mem _ hy)
    refine ⟨h1, h2, fun y hy => ?_⟩
    rcases List.mem_cons.mp hy with e | e
    · rw [e]; exact h2 x (hl x (List.mem_cons_self ..)) ⟨z, h⟩
    · exact h3 y e
  | get x l R R1 R' p s h he hs t ih =>
    have hxu := hl x (List.mem_cons_self ..)
    have E := freed G he
    obtain ⟨h1, h2, h3⟩ := ih (fetched1 G (hu x hxu) h he) fun y hy => hl y (List.mem_cons_of_mem _ hy)
    have step : ∀ y ∈ used, (∃ z, getZ R.place (.inr y) = some z) ∨ y = x → ∃ z, getZ (putZ R1.place (.inr x) p) (.inr y) = some z := fun y hy q => by
      rw [getZ_put]
      by_cases e : (Sum.inr y : Key) = .inr x
      · exact ⟨p, by rw [if_pos e]⟩
      · rcases q with ⟨z, q⟩ | q
        · exact ⟨z, by rw [if_neg e]; exact E.stays y hy z q⟩
        · exact absurd (by rw [q]) e
    refine ⟨h1, fun y hy q => h2 y hy (step y hy (.inl q)), fun y hy => ?_⟩
    rcases List.mem_cons.mp hy with e | e
    · rw [e]; exact h2 x hxu (step x hxu (.inr rfl))
    · exact h3 y e
def narrow (m : Kept) (names : List Str) : Kept := names.foldl (fun k x => match getZ m (.inr x) with
  | some z => putZ k (.inr x) z
  | none => k) []
theorem narrow_get (m : Kept) (names : List Str) (k : Key) : getZ (narrow m names) k = if ∃ x ∈ names, k = .inr x then getZ m k else none := by
  unfold narrow
  have go : ∀ (l : List Str) (acc : Kept), getZ (l.foldl (fun k x => match getZ m (.inr x) with | some z => putZ k (.inr x) z | none => k) acc) k = if ∃ x ∈ l, k = .inr x ∧ (getZ m k).isSome = true then getZ m k else getZ acc k := by
    intro l
    induction l with
    | nil => intro acc; simp
    | cons x l ih =>
      intro acc
      rw [List.foldl_cons, ih]
      by_cases h : ∃ y ∈ l, k = .inr y ∧ (getZ m k).isSome = true
      · rw [if_pos h, if_pos (by obtain ⟨y, h1, h2⟩ := h; exact ⟨y, List.mem_cons_of_mem _ h1, h2⟩)]
      · rw [if_neg h]
        by_cases hk : k = .inr x
        · cases q : getZ m (.inr x) with
          | none =>
            rw [if_neg]
            rintro ⟨y, _, e, z⟩
            rw [hk, q] at z
            cases z
          | some z =>
            rw [if_pos ⟨x, List.mem_cons_self .., hk, by rw [hk, q]; rfl⟩]
            show getZ (putZ acc (.inr x) z) k = _
            rw [getZ_put, if_pos hk, hk, q]
        · rw [if_neg]
          · cases q : getZ m (.inr x) with
            | none => rfl
            | some z =>
              show getZ (putZ acc (.inr x) z) k = _
              rw [getZ_put, if_neg hk]
          · rintro ⟨y, hy, e, z⟩
            rcases List.mem_cons.mp hy with e' | e'
            · exact hk (by rw [e, e'])
            · exact h ⟨y, e', e, z⟩
  rw [go]
  by_cases h : ∃ x ∈ names, k = .inr x
  · rw [if_pos h]
    obtain ⟨x, h1, h2⟩ := h
    cases q : getZ m k with
    | none => rw [if_neg]; rfl; rintro ⟨_, _, _, z⟩; cases z
    | some z => rw [if_pos ⟨x, h1, h2, rfl⟩]
  · rw [if_neg h, if_neg]
    · rfl
    · rintro ⟨x, h1, h2, _⟩; exact h ⟨x, h1, h2⟩
theorem narrow_keys (m : Kept) (names : List Str) : (keysZ (narrow m names)).Nodup := by
  unfold narrow
  have go : ∀ (l : List Str) (acc : Kept), (keysZ acc).Nodup → (keysZ (l.foldl (fun k x => match getZ m (.inr x) with | some z => putZ k (.inr x) z | none => k) acc)).Nodup := by
    intro l
    induction l with
    | nil => exact fun _ h => h
    | cons x l ih =>
      intro acc h
      rw [List.foldl_cons]
      refine ih _ ?_
      cases getZ m (.inr x) with
      | none => exact h
      | some z => exact keys_put h
  exact go names [] List.nodup_nil
theorem Apart.narrow {m : Kept} {live names : List Str} (h : Apart m live) : Apart (narrow m names) names := by
  have sub : ∀ k z, getZ (Fp.narrow m names) k = some z → (∃ x ∈ names, k = .inr x) ∧ getZ m k = some z := fun k z e => by
    rw [narrow_get] at e
    by_cases hk : ∃ x ∈ names, k = .inr x
    · rw [if_pos hk] at e; exact ⟨hk, e⟩
    · rw [if_neg hk] at e; cases e
  exact ⟨narrow_keys m names, fun k z e => (sub k z e).1, fun i j z e1 e2 => h.inj i j z (sub i z e1).2 (sub j z e2).2, fun k z e => h.pos k z (sub k z e).2⟩
def keepOnly (R : Rm) (names : List Str) : Rm := ⟨narrow R.place names, narrow R.spot names, R.made⟩
theorem good_keep {n : Int} {live names : List Str} {R : Rm} (G : Good n live R) (h : ∀ x ∈ names, x ∈ live) : Good n names (keepOnly R names) := by
  have get : ∀ (m : Kept) x, x ∈ names → getZ (narrow m names) (.inr x) = getZ m (.inr x) := fun m x hx => by rw [narrow_get, if_pos ⟨x, hx, rfl⟩]
  refine ⟨G.pl.narrow, G.sp.narrow, fun k z e => ?_, fun x hx => ?_⟩
  · have e : getZ (narrow R.place names) k = some z := e
    rw [narrow_get] at e
    by_cases hk : ∃ x ∈ names, k = .inr x
    · rw [if_pos hk] at e; exact G.lt k z e
    · rw [if_neg hk] at e; cases e
  · rcases G.all x (h x hx) with ⟨z, q⟩ | ⟨z, q⟩
    · exact .inl ⟨z, by rw [show (keepOnly R names).place = narrow R.place names from rfl, get _ x hx]; exact q⟩
    · exact .inr ⟨z, by rw [show (keepOnly R names).spot = narrow R.spot names from rfl, get _ x hx]; exact q⟩
inductive OnPlace (at_ : Kept) (q : Int) : Row → IRow → Prop
  | set (n : Str) (k : Int) : OnPlace at_ q (.set n k) (.set q k)
  | take (n : Str) : OnPlace at_ q (.take n) (.take q)
  | op (o : Kd) (n a b : Str) (x y : Int) (ha : getZ at_ (.inr a) = some x) (hb : getZ at_ (.inr b) = some y) : OnPlace at_ q (.op o n a b) (.op o q x y)
def others (r : Row) (needed : List Str) : List Str := drop1 needed (wr r)
inductive PutRow (c : List Row) (n : Int) (r : Row) (needed : List Str) (R : Rm) : Rm → Prop
  | tell (x : Str) (R1 : Rm) (p : Int) (e : r = .tell x) (hf : Fetch c n (uses1 r) (uses1 r) R R1) (hp : getZ R1.place (.inr x) = some p) : PutRow c n r needed R ⟨(keepOnly R1 (others r needed)).place, (keepOnly R1 (others r needed)).spot, R1.made ++ [.tell p]⟩
  | write (x : Str) (R1 R2 : Rm) (q : Int) (i : IRow) (e : wr r = some x) (hf : Fetch c n (uses1 r) (uses1 r) R R1) (he : Empty c n [] (keepOnly R1 (others r needed)) R2 q) (hi : OnPlace R1.place q r i) :
      PutRow c n r needed R ⟨if x ∈ needed then putZ R2.place (.inr x) q else R2.place, R2.spot, R2.made ++ [i]⟩
end Fp
namespace Fp
open PySem L2
variable {c : List Row}
theorem Apart.mono {m : Kept} {l l' : List Str} (h : Apart m l) (hs : ∀ x ∈ l, x ∈ l') : Apart m l' := ⟨h.nd, fun k z e => let ⟨x, hx, q⟩ := h.nm k z e; ⟨x, hs x hx, q⟩, h.inj, h.pos⟩
theorem mem_others {r : Row} {needed : List Str} {x : Str} : x ∈ others r needed ↔ x ∈ needed ∧ wr r ≠ some x := by
  unfold others drop1
  cases h : wr r with
  | none => simp
  | some y =>
    simp only [List.mem_filter, decide_eq_true_eq]
    exact ⟨fun ⟨a, b⟩ => ⟨a, fun q => b (Option.some.inj q).symm⟩, fun ⟨a, b⟩ => ⟨a, fun q => b (by rw [q])⟩⟩
theorem mem_foldl_put1 {l ks : List Str} {x : Str} : x ∈ l.foldl put1 ks ↔ x ∈ ks ∨ x ∈ l := by
  induction l generalizing ks with
  | nil => simp
  | cons y l ih =>
    rw [List.foldl_cons, ih, mem_put1, List.mem_cons]
    constructor
    · rintro ((h | h) | h)
      · exact .inl h
      · exact .inr (.inl h)
      · exact .inr (.inr h)
    · rintro (h | h | h)
      · exact .inl (.inl h)
      · exact .inl (.inr h)
      · exact .inr h
theorem mem_ahead' {r : Row} {needed : List Str} {x : Str} : x ∈ ahead r needed ↔ x ∈ others r needed ∨ x ∈ uses1 r := mem_foldl_put1
theorem put_good {n : Int} {r : Row} {needed : List Str} {R R' : Rm} (G : Good n (ahead r needed) R) (P : PutRow c n r needed R R') : Good n needed R' := by
  have hu : ∀ x ∈ uses1 r, x ∈ ahead r needed := fun x hx => mem_ahead'.mpr (.inr hx)
  have ho : ∀ x ∈ others r needed, x ∈ ahead r needed := fun x hx => mem_ahead'.mpr (.inl hx)
  cases P with
  | tell x R1 p e hf hp =>
    have h1 := (fetched G (fun _ h => h) hu hf).1
    have h2 := good_keep h1 ho
    have : others r needed = needed := by rw [e]; rfl
    rw [this] at h2 ⊢
    exact ⟨h2.pl, h2.sp, h2.lt, h2.all⟩
  | write x R1 R2 q i e hf he hi =>
    have h1 := (fetched G (fun _ h => h) hu hf).1
    have h2 := good_keep h1 ho
    have F := freed h2 he
    by_cases hx : x ∈ needed
    · rw [if_pos hx]
      have hsub : ∀ y ∈ others r needed, y ∈ needed := fun y hy => (mem_others.mp hy).1
      have hn : getZ R2.place (.inr x) = none := by
        cases z : getZ R2.place (.inr x) with
        | none => rfl
        | some y =>
          obtain ⟨y, hy, e'⟩ := F.good.pl.nm _ _ z
          cases e'
          exact absurd e (mem_others.mp hy).2
      refine ⟨F.good.pl.put' hsub hx hn F.p0 F.no, F.good.sp.mono hsub, fun k z e => ?_, fun y hy => ?_⟩
      · have e : getZ (putZ R2.place (.inr x) q) k = some z := e
        rw [getZ_put] at e
        by_cases hk : k = .inr x
        · rw [if_pos hk] at e; cases e; exact F.pn
        · rw [if_neg hk] at e; exact F.good.lt k z e
      · by_cases e' : y = x
        · subst e'
          exact .inl ⟨q, by show getZ (putZ R2.place (.inr y) q) (.inr y) = _; rw [getZ_put, if_pos rfl]⟩
        · have hy' : y ∈ others r needed := mem_others.mpr ⟨hy, fun z => e' (by rw [e] at z; exact (Option.some.inj z).symm)⟩
          rcases F.good.all y hy' with ⟨z, w⟩ | w
          · refine .inl ⟨z, ?_⟩
            show getZ (putZ R2.place (.inr x) q) (.inr y) = _
            rw [getZ_put, if_neg (fun z => e' (Sum.inr.inj z))]; exact w
          · exact .inr w
    · rw [if_neg hx]
      have hoe : ∀ y ∈ needed, y ∈ others r needed := fun y hy => mem_others.mpr ⟨hy, fun z => hx (by rw [e] at z; rw [Option.some.inj z]; exact hy)⟩
      have hsub : ∀ y ∈ others r needed, y ∈ needed := fun y hy => (mem_others.mp hy).1
      exact ⟨F.good.pl.mono hsub, F.good.sp.mono hsub, F.good.lt, fun y hy => F.good.all y (hoe y hy)⟩
structure Sim (val : Str → Option Int) (R : Rm) (x : DoneP) : Prop where
  pl : ∀ y p, getZ R.place (.inr y) = some p → ∃ z, val y = some z ∧ getZ x.d.m (.inl p) = some z
  sp : ∀ y s, getZ R.spot (.inr y) = some s → ∃ z, val y = some z ∧ getZ x.shelf (.inl s) = some z
def Leads (R R' : Rm) (x x' : DoneP) (l : List IRow) : Prop := R'.made = R.made ++ l ∧ runP x (l.map toP) = some x'
theorem Leads.refl (R : Rm) (x : DoneP) : Leads R R x x [] := ⟨by simp, rfl⟩
theorem Leads.trans {R R1 R2 : Rm} {x x1 x2 : DoneP} {l m : List IRow} (a : Leads R R1 x x1 l) (b : Leads R1 R2 x1 x2 m) : Leads R R2 x x2 (l ++ m) := by
  refine ⟨by rw [b.1, a.1, List.append_assoc], ?_⟩
  rw [List.map_append, runP_append, a.2]
  exact b.2
theorem runP_one (x : DoneP) (r : PRow) : runP x [r] = stepP x r := by
  show (stepP x r).bind (fun y => some y) = _
  cases stepP x r <;> rfl
def Move (n : Int) : IRow → Prop
  | .shelve s p => 0 ≤ s ∧ 0 ≤ p ∧ p < n
  | .fetch p s => 0 ≤ p ∧ p < n ∧ 0 ≤ s
  | _ => False
structure Moved (n : Int) (val : Str → Option Int) (R R' : Rm) (x x' : DoneP) (l : List IRow) : Prop where
  leads : Leads R R' x x' l
  sim : Sim val R' x'
  left : x'.d.left = x.d.left
  told : x'.d.told = x.d.told
  moves : ∀ i ∈ l, Move n i
theorem sim_shelve {n : Int} {live : List Str} {val : Str → Option Int} {R R' : Rm} {x : DoneP} {y : Str} (G : Good n live R) (S : Sim val R x) (h : Shelve R y R') : ∃ x' l, Moved n val R R' x x' l ∧ x'.d = x.d := by
  cases h with
  | there z h => exact ⟨x, [], ⟨Leads.refl R x, S, rfl, rfl, (fun _ h => nomatch h)⟩, rfl⟩
  | new s p hn hs hp =>
    obtain ⟨z, hv, hz⟩ := S.pl y p hp
    refine ⟨{ x with shelf := putZ x.shelf (.inl s) z }, [.shelve s p], ⟨⟨rfl, ?_⟩, ⟨S.pl, fun y' s' e => ?_⟩, rfl, rfl, fun i hi => ?_⟩, rfl⟩
    · show runP x [toP (.shelve s p)] = _
      rw [runP_one]
      show (getZ x.d.m (.inl p)).map _ = _
      rw [hz]; rfl
    · have e : getZ (putZ R.spot (.inr y) s) (.inr y') = some s' := e
      rw [getZ_put] at e
      by_cases hk : (Sum.inr y' : Key) = .inr y
      · rw [if_pos hk] at e
        cases e
        refine ⟨z, by rw [Sum.inr.inj hk]; exact hv, ?_⟩
        show getZ (putZ x.shelf (.inl s) z) (.inl s) = _
        rw [getZ_put, if_pos rfl]
      · rw [if_neg hk] at e
        obtain ⟨z', h1, h2⟩ := S.sp y' s' e
        refine ⟨z', h1, ?_⟩
        show getZ (putZ x.shelf (.inl s) z) (.inl s') = _
        rw [getZ_put, if_neg]
        · exact h2
        · intro q
          cases q
          exact hs.2.1 ((mem_vals G.sp.nd).mpr ⟨_, e⟩)
    · rw [List.mem_singleton.mp hi]
      exact ⟨hs.1, G.pl.pos _ _ hp, G.lt _ _ hp⟩
theorem sim_empty {n : Int} {live stay : List Str} {val : Str → Option Int} {R R' : Rm} {x : DoneP} {p : Int} (G : Good n live R) (S : Sim val R x) (h : Empty c n stay R R' p) : ∃ x' l, Moved n val R R' x x' l ∧ x'.d = x.d := by
  cases h with
  | free _ h hp => exact ⟨x, [], ⟨Leads.refl R x, S, rfl, rfl, (fun _ h => nomatch h)⟩, rfl⟩
  | full q _ y R1 h hq hx hs hS =>
    obtain ⟨x', l, M, e⟩ := sim_shelve G S hS
    refine ⟨x', l, ⟨⟨M.leads.1, M.leads.2⟩, ⟨fun y' p' e' => ?_, M.sim.sp⟩, M.left, M.told, M.moves⟩, e⟩
    have e' : getZ (dropZ R1.place (.inr y)) (.inr y') = some p' := e'
    rw [getZ_drop] at e'
    by_cases hk : (Sum.inr y' : Key) = .inr y
    · rw [if_pos hk] at e'; cases e'
    · rw [if_neg hk] at e'; exact M.sim.pl y' p' e'
theorem Moved.trans {n : Int} {val : Str → Option Int} {R R1 R2 : Rm} {x x1 x2 : DoneP} {l m : List IRow} (a : Moved n val R R1 x x1 l) (b : Moved n val R1 R2 x1 x2 m) : Moved n val R R2 x x2 (l ++ m) :=
  ⟨a.leads.trans b.leads, b.sim, by rw [b.left, a.left], by rw [b.told, a.told], fun i hi => by rcases List.mem_append.mp hi with q | q; exact a.moves i q; exact b.moves i q⟩
theorem sim_fetch1 {n : Int} {live used : List Str} {val : Str → Option Int} {R R1 : Rm} {x : DoneP} {y : Str} {p s : Int} (G : Good n live R) (S : Sim val R x) (he : Empty c n used R R1 p) (hs : getZ R1.spot (.inr y) = some s) :
    ∃ x' l, Moved n val R ⟨putZ R1.place (.inr y) p, R1.spot, R1.made ++ [.fetch p s]⟩ x x' l := by
  obtain ⟨x1, l, M, e⟩ := sim_empty G S he
  have F := freed G he
  obtain ⟨z, hv, hz⟩ := M.sim.sp y s hs
  refine ⟨{ x1 with d := { x1.d with m := putZ x1.d.m (.inl p) z } }, l ++ [.fetch p s], M.trans ⟨⟨rfl, ?_⟩, ⟨fun y' p' e' => ?_, M.sim.sp⟩, rfl, rfl, fun i hi => ?_⟩⟩
  · show runP x1 [toP (.fetch p s)] = _
    rw [runP_one]
    show (getZ x1.shelf (.inl s)).map _ = _
    rw [hz]; rfl
  · have e' : getZ (putZ R1.place (.inr y) p) (.inr y') = some p' := e'
    rw [getZ_put] at e'
    by_cases hk : (Sum.inr y' : Key) = .inr y
    · rw [if_pos hk] at e'
      cases e'
      refine ⟨z, by rw [Sum.inr.inj hk]; exact hv, ?_⟩
      show getZ (putZ x1.d.m (.inl p) z) (.inl p) = _
      rw [getZ_put, if_pos rfl]
    · rw [if_neg hk] at e'
      obtain ⟨z', h1, h2⟩ := M.sim.pl y' p' e'
      refine ⟨z', h1, ?_⟩
      show getZ (putZ x1.d.m (.inl p) z) (.inl p') = _
      rw [getZ_put, if_neg]
      · exact h2
      · intro q
        cases q
        exact F.no _ e'
  · rw [List.mem_singleton.mp hi]
    exact ⟨F.p0, F.pn, F.good.sp.pos _ _ hs⟩
theorem sim_fetch {n : Int} {live used : List Str} {val : Str → Option Int} (hu : ∀ x ∈ used, x ∈ live) {l : List Str} {R R' : Rm} (F : Fetch c n used l R R') : ∀ {x : DoneP}, Good n live R → (∀ x ∈ l, x ∈ used) → Sim val R x →
    ∃ x' m, Moved n val R R' x x' m := by
  induction F with
  | nil R => exact fun G _ S => ⟨_, [], Leads.refl R _, S, rfl, rfl, (fun _ h => nomatch h)⟩
  | has y l R R' z h t ih => exact fun G hl S => ih G (fun x hx => hl x (List.mem_cons_of_mem _ hx)) S
  | get y l R R1 R' p s h he hs t ih =>
    intro x G hl S
    obtain ⟨x1, m, M⟩ := sim_fetch1 G S he hs
    obtain ⟨x2, m2, M2⟩ := ih (fetched1 G (hu y (hl y (List.mem_cons_self ..))) h he) (fun x hx => hl x (List.mem_cons_of_mem _ hx)) M.sim
    exact ⟨x2, m ++ m2, M.trans M2⟩
theorem sim_keep {val : Str → Option Int} {R : Rm} {x : DoneP} (S : Sim val R x) (names : List Str) : Sim val (keepOnly R names) x := by
  have sub : ∀ (m : Kept) k z, getZ (narrow m names) k = some z → getZ m k = some z := fun m k z e => by
    rw [narrow_get] at e
    by_cases hk : ∃ x ∈ names, k = .inr x
    · rw [if_pos hk] at e; exact e
    · rw [if_neg hk] at e; cases e
  exact ⟨fun y p e => S.pl y p (sub _ _ _ e), fun y s e => S.sp y s (sub _ _ _ e)⟩
inductive Own (n : Int) : Row → IRow → Prop
  | set (x : Str) (k p : Int) (h0 : 0 ≤ p) (h1 : p < n) : Own n (.set x k) (.set p k)
  | take (x : Str) (p : Int) (h0 : 0 ≤ p) (h1 : p < n) : Own n (.take x) (.take p)
  | op (o : Kd) (x a b : Str) (p i j : Int) (h0 : 0 ≤ p) (h1 : p < n) (h2 : 0 ≤ i) (h3 : i < n) (h4 : 0 ≤ j) (h5 : j < n) : Own n (.op o x a b) (.op o p i j)
  | tell (x : Str) (p : Int) (h0 : 0 ≤ p) (h1 : p < n) : Own n (.tell x) (.tell p)
def valN (d : Done) (y : Str) : Option Int := getZ d.m (.inr y)
structure Link (d : Done) (R : Rm) (x : DoneP) : Prop where
  sim : Sim (valN d) R x
  left : x.d.left = d.left
  told : x.d.told = d.told
theorem step_tell {d : Done} {x : Str} {z : Int} (h : valN d x = some z) : stepN d (.tell x) = some { d with told := d.told ++ [z] } := by
  show (getZ d.m (.inr x)).map _ = _
  rw [show getZ d.m (.inr x) = some z from h]; rfl
theorem sim_put {n : Int} {r : Row} {needed : List Str} {R R' : Rm} {d d' : Done} {x : DoneP} (G : Good n (ahead r needed) R) (P : PutRow c n r needed R R') (L : Link d R x) (hd : stepN d r = some d') :
    ∃ x' l i, Leads R R' x x' (l ++ [i]) ∧ Link d' R' x' ∧ (∀ m ∈ l, Move n m) ∧ Own n r i := by
  have hu : ∀ x ∈ uses1 r, x ∈ ahead r needed := fun x hx => mem_ahead'.mpr (.inr hx)
  have ho : ∀ x ∈ others r needed, x ∈ ahead r needed := fun x hx => mem_ahead'.mpr (.inl hx)
  cases P with
  | tell y R1 p e hf hp =>
    obtain ⟨x1, l, M⟩ := sim_fetch hu hf G (fun _ h => h) L.sim
    have G1 := (fetched G (fun _ h => h) hu hf).1
    obtain ⟨z, hv, hz⟩ := M.sim.pl y p hp
    subst e
    rw [step_tell hv] at hd
    cases hd
    refine ⟨{ x1 with d := { x1.d with told := x1.d.told ++ [z] } }, l, .tell p, M.leads.trans ⟨rfl, ?_⟩, ⟨?_, ?_, ?_⟩, M.moves, .tell y p (G1.pl.pos _ _ hp) (G1.lt _ _ hp)⟩
    · show runP x1 [toP (.tell p)] = _
      rw [runP_one]
      show (stepG x1.d (.tell (.inl p))).map _ = _
      rw [show stepG x1.d (.tell (.inl p)) = (getZ x1.d.m (.inl p)).map fun z => { x1.d with told := x1.d.told ++ [z] } from rfl, hz]
      rfl
    · have S := sim_keep M.sim (others (.tell y) needed)
      exact ⟨S.pl, S.sp⟩
    · show x1.d.left = d.left; rw [M.left, L.left]
    · show x1.d.told ++ [z] = d.told ++ [z]; rw [M.told, L.told]
  | write y R1 R2 q i e hf he hi =>
    obtain ⟨x1, l, M⟩ := sim_fetch hu hf G (fun _ h => h) L.sim
    have G1 := (fetched G (fun _ h => h) hu hf).1
    have G2 := good_keep G1 ho
    have F := freed G2 he
    obtain ⟨x2, l2, M2, e2⟩ := sim_empty G2 (sim_keep M.sim (others r needed)) he
    have L1 : Leads R R2 x x2 (l ++ l2) := M.leads.trans ⟨M2.leads.1, M2.leads.2⟩
    have mv : ∀ m ∈ l ++ l2, Move n m := fun m hm => by
      rcases List.mem_append.mp hm with z | z
      · exact M.moves m z
      · exact M2.moves m z
    have el : x2.d.left = d.left := by rw [M2.left, M.left, L.left]
    have et : x2.d.told = d.told := by rw [M2.told, M.told, L.told]
    have fin : ∀ (z : Int) (lf : List Int), stepP x2 (toP i) = some { x2 with d := { x2.d with m := putZ x2.d.m (.inl q) z, left := lf } } → d' = { d with m := putZ d.m (.inr y) z, left := lf } →
        Link d' ⟨if y ∈ needed then putZ R2.place (.inr y) q else R2.place, R2.spot, R2.made ++ [i]⟩ { x2 with d := { x2.d with m := putZ x2.d.m (.inl q) z, left := lf } } := by
      rintro z lf _ rfl
      have ne : ∀ k, (∃ p, getZ R2.place (.inr k) = some p) ∨ (∃ p, getZ R2.spot (.inr k) = some p) → k ≠ y := by
        rintro k h rfl
        have : k ∈ others r needed := by
          rcases h with ⟨p, h⟩ | ⟨p, h⟩
          · obtain ⟨w, hw, e'⟩ := F.good.pl.nm _ _ h; cases e'; exact hw
          · obtain ⟨w, hw, e'⟩ := F.good.sp.nm _ _ h; cases e'; exact hw
        exact (mem_others.mp this).2 e
      have val : ∀ k, k ≠ y → valN { d with m := putZ d.m (.inr y) z, left := lf } k = valN d k := fun k hk => by
        show getZ (putZ d.m (.inr y) z) (.inr k) = _
        rw [getZ_put, if_neg (fun q => hk (Sum.inr.inj q))]; rfl
      have old : ∀ k p, getZ R2.place (.inr k) = some p → ∃ v, valN { d with m := putZ d.m (.inr y) z, left := lf } k = some v ∧ getZ (putZ x2.d.m (.inl q) z) (.inl p) = some v := fun k p h => by
        obtain ⟨v, h1, h2⟩ := M2.sim.pl k p h
        refine ⟨v, by rw [val k (ne k (.inl ⟨p, h⟩))]; exact h1, ?_⟩
        rw [getZ_put, if_neg]
        · exact h2
        · intro w; cases w; exact F.no _ h
      refine ⟨⟨fun k p h => ?_, fun k s h => ?_⟩, rfl, et⟩
      · by_cases hy : y ∈ needed
        · have h : getZ (if y ∈ needed then putZ R2.place (.inr y) q else R2.place) (.inr k) = some p := h
          rw [if_pos hy, getZ_put] at h
          by_cases hk : (Sum.inr k : Key) = .inr y
          · rw [if_pos hk] at h
            cases h
            cases hk
            refine ⟨z, ?_, ?_⟩
            · show getZ (putZ d.m (.inr y) z) (.inr y) = _
              rw [getZ_put, if_pos rfl]
            · show getZ (putZ x2.d.m (.inl q) z) (.inl q) = _
              rw [getZ_put, if_pos rfl]
          · rw [if_neg hk] at h
            exact old k p h
        · have h : getZ (if y ∈ needed then putZ R2.place (.inr y) q else R2.place) (.inr k) = some p := h
          rw [if_neg hy] at h
          exact old k p h
      · obtain ⟨v, h1, h2⟩ := M2.sim.sp k s h
        exact ⟨v, by rw [val k (ne k (.inr ⟨s, h⟩))]; exact h1, h2⟩
    have go : ∀ (z : Int) (lf : List Int), stepP x2 (toP i) = some { x2 with d := { x2.d with m := putZ x2.d.m (.inl q) z, left := lf } } → d' = { d with m := putZ d.m (.inr y) z, left := lf } → Own n r i → _ := fun z lf h1 h2 h3 =>
      (⟨_, l ++ l2, i, L1.trans ⟨rfl, by show runP x2 [toP i] = _; rw [runP_one]; exact h1⟩, fin z lf h1 h2, mv, h3⟩ : ∃ x' l i', Leads R ⟨if y ∈ needed then putZ R2.place (.inr y) q else R2.place, R2.spot, R2.made ++ [i]⟩ x x' (l ++ [i']) ∧ Link d' ⟨if y ∈ needed then putZ R2.place (.inr y) q else R2.place, R2.spot, R2.made ++ [i]⟩ x' ∧ (∀ m ∈ l, Move n m) ∧ Own n r i')
    cases hi with
    | set w k =>
      cases e
      cases hd
      exact go k x2.d.left rfl (by rw [el]) (.set _ _ _ F.p0 F.pn)
    | take w =>
      cases e
      cases hl : d.left with
      | nil => rw [show stepN d (.take y) = none from by show stepG d (.take _) = none; simp [stepG, hl]] at hd; cases hd
      | cons z lf =>
        rw [show stepN d (.take y) = some { d with m := putZ d.m (.inr y) z, left := lf } from by show stepG d (.take _) = _; simp [stepG, hl]] at hd
        cases hd
        refine go z lf ?_ rfl (.take _ _ F.p0 F.pn)
        show (stepG x2.d (.take (.inl q))).map _ = _
        rw [show stepG x2.d (.take (.inl q)) = some { x2.d with m := putZ x2.d.m (.inl q) z, left := lf } from by simp [stepG, el, hl]]
        rfl
    | op o w a b pa pb ha hb =>
      cases e
      obtain ⟨va, h1, h2⟩ := M.sim.pl a pa ha
      obtain ⟨vb, h3, h4⟩ := M.sim.pl b pb hb
      have hd' : stepN d (.op o y a b) = some { d with m := putZ d.m (.inr y) (reck o va vb) } := by
        show stepG d (.op ..) = _
        simp [stepG, show getZ d.m (.inr a) = some va from h1, show getZ d.m (.inr b) = some vb from h3]
      rw [hd'] at hd
      cases hd
      refine go (reck o va vb) x2.d.left ?_ (by rw [el]) (.op _ _ _ _ _ _ _ F.p0 F.pn (G1.pl.pos _ _ ha) (G1.lt _ _ ha) (G1.pl.pos _ _ hb) (G1.lt _ _ hb))
      show (stepG x2.d (.op o (.inl q) (.inl pa) (.inl pb))).map _ = _
      rw [show stepG x2.d (.op o (.inl q) (.inl pa) (.inl pb)) = some { x2.d with m := putZ x2.d.m (.inl q) (reck o va vb) } from by simp [stepG, e2, h2, h4]]
      rfl
end Fp
namespace Fp
open PySem L2
theorem flat_ints (l : List Int) : (l.map V.int).all flatV = true := by simp [flatV]
abbrev IRowsAt (H : Hp) (xs : List V) (rows : List IRow) : Prop := Paired (fun x r => ∃ a, x = V.ref a ∧ H a = some (.tup (irowV r))) xs rows
theorem IRowsAt.same {H H' : Hp} (e : Same H H') {xs : List V} {rows : List IRow} (h : IRowsAt H xs rows) : IRowsAt H' xs rows := Paired.mapP h fun _ _ ⟨a, e1, e2⟩ => ⟨a, e1, e a _ e2⟩
theorem enc_drop (m : Kept) (k : Key) : dropK (enc m) k = enc (dropZ m k) := by
  unfold enc dropK dropZ
  rw [List.filter_map]
  rfl
theorem enc_vals (m : Kept) : (enc m).map (·.2) = (vals m).map V.int := by
  unfold enc vals
  rw [List.map_map, List.map_map]
  rfl
theorem getZ_val {m : Kept} {k : Key} {z : Int} (h : getZ m k = some z) : valV (enc m) k = some (.int z) := by rw [enc_get, h]; rfl
def Kp (l : List Addr) (H H' : Hp) : Prop := ∀ b o, b ∉ l → H b = some o → H' b = some o
theorem Same.kp {H H' : Hp} (h : Same H H') (l : List Addr) : Kp l H H' := fun b o _ e => h b o e
theorem Kp.refl (l : List Addr) (H : Hp) : Kp l H H := fun _ _ _ e => e
theorem Kp.trans {l : List Addr} {H H1 H2 : Hp} (a : Kp l H H1) (b : Kp l H1 H2) : Kp l H H2 := fun c o n e => b c o n (a c o n e)
theorem Kp.upd {l : List Addr} {H : Hp} {a : Addr} {o : HO} (h : a ∈ l) : Kp l H (L2.upd H a o) := fun b u n e => by rw [upd_ne (fun z => n (by rw [z]; exact h))]; exact e
end Fp
namespace L2
open PySem PySem.Spec PyProof.Rows
section
variable {X : Cx} {pins : List (Addr × Obj)} {σ : St} {H : Hp} {s : Shared}
def viewO (v d : Addr) : HO := .ext fun h => h.IsValuesView v d
def tDVals (td : TE) : TE := fun σ H Q => td σ H fun x H1 => ∃ d kvs, x = .ref d ∧ H1 d = some (.dK kvs) ∧ ∀ v, H1 v = none → Q (.ref v) (upd H1 v (viewO v d))
theorem pe_dvals {o : Expr} {td : TE} {apos cpos : Pos} (ho : PE X o td) (hbase : attributeBase o "values" X.env (eval o X.env) = eval o X.env := by rfl) (hline : (apos.endLine == cpos.line) = true := by rfl) : PE X (.Call (.Attribute o "values" apos) [] [] cpos) (tDVals td) := by
  intro pins s σ H Q I h
  refine wpAny_Call_method0_late hbase hline (thn (ho pins s σ H _ I h) fun u s1 ⟨x, H1, I1, rx, d, kvs, ex, hd, q⟩ => ?_)
  subst ex
  obtain rfl : u = Value.ref d := rx
  obtain ⟨t1, t2, lo⟩ := isD_at I1 (.inl ⟨kvs, Rd.of hd⟩)
  obtain ⟨_, _, vs, rel, dd⟩ := dk_rd I1.hok (Rd.of hd)
  refine ⟨"dict", "dict.values", PySem.F.plainAttrs_dict, PySem.F.slot_dict_values, PySem.F.type_dict_values, t1, t2, Calls.callWith_builtin rfl (PySem.evalArgs_none ?_)⟩
  refine call_meetsIn PySem.F.slot_dict_values dd.typeIs PySem.F.entry_dict_values (PySem.F.args_dict_values_1 _) (meets_dict_values (mixKind X.prog X.w) d lo) ⟨⟨vs, dd⟩, ?_⟩
  have hf : H1 s1.heap.objs.size = none := I1.hok.fresh (Nat.le_refl _)
  refine ⟨.ref s1.heap.objs.size, upd H1 s1.heap.objs.size (viewO s1.heap.objs.size d), I1.laid (t' := s1.toks) (fun b u e => Heap.get?_push_of_some _ e) (Nat.le_refl _) ?_, rfl, q _ hf⟩
  exact ⟨⟨_, Heap.get?_push_size _ rfl, rfl, rfl⟩, ⟨_, Heap.get?_push_size _ rfl⟩, fun h1 h2 ⟨o, e, r⟩ k => ⟨o, k o e, r⟩⟩
theorem call_listVals (hc : X.calm = true) : CallR X (.type "list") (fun xs H Q => ∃ v d kvs, xs = [.ref v] ∧ H v = some (viewO v d) ∧ H d = some (.dK kvs) ∧ ∀ l, H l = none → Q (.ref l) (upd H l (.lst (kvs.map (·.2))))) := by
  intro pins s σ H xs us Q I r h
  obtain ⟨v, d, kvs, rfl, hv, hd, q⟩ := h
  obtain ⟨u, rfl, ru⟩ := vals1 r
  cases ru
  have hview : s.heap.IsValuesView v d := (I.hok v _ hv).1
  obtain ⟨hlen, lo, vs, rel, dd⟩ := dk_rd I.hok (Rd.of hd)
  obtain ⟨ep, hat⟩ := dd.dictAt
  have hl := rel.length
  refine PySem.W.kdl_call (PySem.W.kdl_values (knd := mixKind X.prog X.w) (r := v) (d := d) (kvs := vs) (ep := ep)) (I.ok.hd hc) ⟨hview, hat⟩ (by omega) fun h' tk acc c hk ho hit => ?_
  have hf : H s.heap.objs.size = none := I.hok.fresh (Nat.le_refl _)
  refine ⟨.ref s.heap.objs.size, _, I.laid (t' := tk) hk (Nat.le_refl _) (o := .lst (kvs.map (·.2))) ⟨by rw [List.length_map]; exact hlen, acc.toList, c, ?_, by simpa using ho⟩, rfl, q _ hf⟩
  have ea : acc.toList = vs.map (·.2) := PySem.W.kdl_vals_eq _ (by rw [Array.length_toList]; exact hit.1) fun j z e => hit.2 j z (by rw [← Array.getElem?_toList]; exact e)
  rw [ea]
  clear hat dd ea hit hlen hl q hd
  induction rel with
  | nil => exact .nil
  | cons p t ih => exact .cons p.2 ih
def Itd (d : Addr) (o : Obj) (kvs : List (Key × V)) : It :=
  ⟨fun i H => H d = some (.frz o (.dK kvs)) ∧ i < kvs.length, fun i H x H' => H' = H ∧ ∃ p, kvs[i]? = some p ∧ x = kV p.1, fun i H => H d = some (.frz o (.dK kvs)) ∧ kvs.length ≤ i⟩
theorem dict_frz (I : Inv X pins σ H s) {d : Addr} {o : Obj} {kvs : List (Key × V)} (hd : H d = some (.frz o (.dK kvs))) : s.heap.get? d = some o ∧ (d == sysModules) = false ∧ ∃ vs es ep, KV kvs vs ∧ o.data = .dict es ep ∧ s.heap.DictAt (mixKind X.prog X.w) d vs ep := by
  obtain ⟨h1, _, lo, vs, rel, o', es, ep, e, ex, hdat, ks, prs, nd⟩ := (show ObjOk X.prog X.w H s.heap d (.frz o (.dK kvs)) from I.hok d _ hd)
  rw [h1] at e
  cases e
  exact ⟨h1, lo, vs, es, ep, rel, hdat, o, es, h1, ex, hdat, ks, prs, nd⟩
theorem relv_key {P : Program} {w : World} {k : Key} {v : Value} (h : (mixKind P w).is k v = true) : RelV (kV k) v := by
  rcases keyIs_shape h with ⟨i, t, rfl, rfl⟩ | ⟨x, t, rfl, rfl⟩
  · exact ⟨t, rfl⟩
  · exact ⟨t, rfl⟩
theorem turn_dict {P : Program} {w : World} {K : PySem.W.Frag} {tg : Expr} (d it : Addr) (hne : d ≠ it) (o : Obj) (es : Array DictEntry) (ep : Nat) (hdat : o.data = .dict es ep) (kvs : List (Key × V)) : Turn P w K tg (Itd d o kvs) [it] it (fun i h => h.IsKeyIter it d i kvs.length ep) where
  mem := by simp
  obj := fun i h st b hb => by
    have e : b = it := by simpa using hb
    subst e
    obtain ⟨o, e, c, d⟩ := st
    exact ⟨o, e, fun v z => by rw [d] at z; cases z⟩
  keep := fun i h h' st k => st.at fun o e => k it (by simp) o e
  item := by
    intro X hP hw hK hc i pins s σ H E I hf st hg
    subst hP hw hK
    obtain ⟨hd, hi⟩ := hg
    obtain ⟨h1, lo, vs, es', ep', rel, hdat', hat⟩ := dict_frz I hd
    rw [hdat] at hdat'
    cases hdat'
    have hl := rel.length
    obtain ⟨f0, f1, f2, f3, f4, f5⟩ := hf it (by simp)
    have W := Walks.dictKeys (prog := X.prog) (w := X.w) (knd := mixKind X.prog X.w) (A := X.A) (I.ok.hd hc) it d hne vs ep
    refine W.item i s _ _ (by omega) ⟨by rw [← hl]; exact st, hat⟩ fun v h' tk ⟨k, x, hx, his⟩ st' kk => ?_
    have I1 : Inv X pins σ H { s with heap := h', toks := tk } := I.turned (fun b o hb e => kk b o (by simpa using hb) e) f0 f1 f3 f4 f5
    obtain ⟨p, hp⟩ : ∃ p, kvs[i]? = some p := ⟨_, List.getElem?_eq_getElem hi⟩
    have ek : p.1 = k := by
      have : ∀ {kvs : List (Key × V)} {vs : List (Key × Value)} {i : Nat} {p : Key × V} {q : Key × Value}, KV kvs vs → kvs[i]? = some p → vs[i]? = some q → p.1 = q.1 := by
        intro kvs vs i p q r
        induction r generalizing i with
        | nil => intro h _; simp at h
        | cons a t ih =>
          cases i with
          | zero => intro h1 h2; cases h1; cases h2; exact a.1
          | succ i => intro h1 h2; exact ih (by simpa using h1) (by simpa using h2)
      exact this rel hp hx
    obtain ⟨oi, e, c, dd⟩ := id st'.1
    exact ⟨v, rfl, go_of (s := { s with heap := h', toks := tk }) e c dd (by decide) ⟨kV p.1, H, I1, by rw [ek]; exact relv_key his, ⟨rfl, p, hp, rfl⟩, by rw [hl]; exact st'.1, fun b hb => (hf b hb).1⟩⟩
  done := by
    intro X hP hw hK hc i pins s σ H E I hf st hg
    subst hP hw hK
    obtain ⟨hd, hi⟩ := hg
    obtain ⟨h1, lo, vs, es', ep', rel, hdat', hat⟩ := dict_frz I hd
    rw [hdat] at hdat'
    cases hdat'
    have hl := rel.length
    obtain ⟨f0, f1, f2, f3, f4, f5⟩ := hf it (by simp)
    exact wpAny_pyNext_dict_end (I.ok.hd hc) (by rw [← hl]; exact st) hat (by rw [List.getElem?_eq_none_iff]; omega) fun h' eb => ⟨rfl, I.turned (t' := s.toks) (fun b o hb e => eb b o hb e) f0 f1 f3 f4 f5⟩
  self := fun _ _ _ _ _ st h => wpAny_pyIter_keyiter st h
def iDict (tl : TE) : TI := fun σ H R => tl σ H fun x H1 => ∃ d o kvs, x = .ref d ∧ H1 d = some (.frz o (.dK kvs)) ∧ R (Itd d o kvs) H1
theorem pi_dict {tg l : Expr} {tl : TE} (hl : PE X l tl) : PI X tg l (iDict tl) := by
  intro pins s σ H R I h
  refine thn (hl pins s σ H _ I h) fun v s1 ⟨x, H1, I1, r1, q1⟩ => ?_
  obtain ⟨d, o, kvs, e, hd, q⟩ := q1
  subst e
  obtain rfl : v = Value.ref d := r1
  obtain ⟨h1, lo, vs, es, ep, rel, hdat, hat⟩ := dict_frz I1 hd
  have hl := rel.length
  refine wpAny_pyIter_dict lo hat ?_
  have hf : H1 s1.heap.objs.size = none := I1.hok.fresh (Nat.le_refl _)
  refine ⟨s1.heap.objs.size, [s1.heap.objs.size], _, Itd d o kvs, H1, rfl, I1.kept (t' := s1.toks) fun b u e => Heap.get?_push_of_some _ e, turn_dict d s1.heap.objs.size (Nat.ne_of_lt (Heap.lt_size h1)) o es ep hdat kvs, ⟨_, Heap.get?_push_size _ rfl, rfl, by rw [hl]; rfl⟩, fun b hb => ?_, q⟩
  rw [List.mem_singleton.mp hb]
  exact I1.fpOk (Nat.le_refl _) hf
theorem Inv.freeze (I : Inv X pins σ H s) {d : Addr} {kvs : List (Key × V)} (hd : H d = some (.dK kvs)) : ∃ o, Inv X pins σ (upd H d (.frz o (.dK kvs))) s := by
  obtain ⟨_, lo, vs, rel, o, es, ep, ho, r⟩ := (show ObjOk X.prog X.w H s.heap d (.dK kvs) from I.hok d _ hd)
  refine ⟨o, ?_⟩
  have ne : ∀ b u, H b = some u → u ≠ .dK kvs → b ≠ d := fun b u e n z => n (by rw [z, hd] at e; exact (Option.some.inj e).symm)
  refine I.un (t' := s.toks) ⟨fun b u e _ _ _ => e, fun b u e _ _ _ => ⟨u.slots, e⟩, fun b u e n _ => ?_, fun b u e _ => ⟨u, e⟩, fun b xs e => ?_, fun b u w e => ?_, fun b ps e => ?_⟩ fun b u e => ?_
  · rw [upd_ne (fun z => by rw [z, hd] at n; cases n)]; exact n
  · rw [upd_ne (ne b _ e (fun z => nomatch z))]; exact e
  · rw [upd_ne (ne b _ e (fun z => nomatch z))]; exact e
  · exact ⟨#[], by rw [upd_ne (ne b _ e (fun z => nomatch z)), e]; simp⟩
  · by_cases hb : b = d
    · subst hb
      rw [upd_same] at e
      cases e
      refine ⟨ho, ?_⟩
      have q := I.hok b _ hd
      obtain ⟨z1, z2, z3⟩ := (show ObjOk X.prog X.w H s.heap b (.dK kvs) from q)
      exact ⟨z1, z2, z3⟩
    · rw [upd_ne hb] at e
      refine (I.hok b u e).stay (fun c v _ q => q) (fun c q => ?_) fun c xs q => ?_
      · rw [upd_ne (ne c _ q (fun z => nomatch z))]; exact q
      · rw [upd_ne (ne c _ q (fun z => nomatch z))]; exact q
theorem Inv.thaw {H0 : Hp} {s0 : Shared} (I0 : Inv X pins σ H0 s0) {d : Addr} {o : Obj} {kvs : List (Key × V)} (h0 : H0 d = some (.dK kvs)) (I : Inv X pins σ H s) (hd : H d = some (.frz o (.dK kvs))) : Inv X pins σ (upd H d (.dK kvs)) s := by
  have nf : ∀ b o' u, X.H₀ b = some (.frz o' u) → b ≠ d := fun b o' u e z => by
    have := I0.base.frzs b o' u e
    rw [z, h0] at this; cases this
  have ne : ∀ b u, H b = some u → u ≠ .frz o (.dK kvs) → b ≠ d := fun b u e n z => n (by rw [z, hd] at e; exact (Option.some.inj e).symm)
  refine ⟨I.ok, I.os, I.bare, ⟨I.base.keep, I.base.slot, fun b u e n hx => ?_, I.base.there, fun b xs e => ?_, fun b o' u e => ?_, fun b ps e => ?_⟩, I.loc, I.cell, ?_, fun x c e => ?_, fun p hp => ?_, fun b u e => ?_, I.len⟩
  · have q := I.base.free b u e n hx
    rw [upd_ne (fun z => by rw [z, hd] at q; cases q)]; exact q
  · have q := I.base.tups b xs e
    rw [upd_ne (ne b _ q (fun z => nomatch z))]; exact q
  · rw [upd_ne (nf b o' u e)]; exact I.base.frzs b o' u e
  · obtain ⟨m, q⟩ := I.base.tbls b ps e
    exact ⟨m, by rw [upd_ne (ne b _ q (fun z => nomatch z))]; exact q⟩
  · rw [upd_ne (fun z => by have q := I.free; rw [z, hd] at q; cases q)]; exact I.free
  · rw [upd_ne (fun z => by have q := I.freeC x c e; rw [z, hd] at q; cases q)]; exact I.freeC x c e
  · obtain ⟨e1, n, r⟩ := I.pin p hp
    exact ⟨e1, by rw [upd_ne (fun z => by rw [z, hd] at n; cases n)]; exact n, r⟩
  · by_cases hb : b = d
    · subst hb
      rw [upd_same] at e
      cases e
      obtain ⟨_, z1, z2, z3⟩ := (show ObjOk X.prog X.w H s.heap b (.frz o (.dK kvs)) from I.hok b _ hd)
      exact ⟨z1, z2, z3⟩
    · rw [upd_ne hb] at e
      refine (I.hok b u e).stay (fun c v _ q => q) (fun c q => ?_) fun c xs q => ?_
      · rw [upd_ne (ne c _ q (fun z => nomatch z))]; exact q
      · rw [upd_ne (ne c _ q (fun z => nomatch z))]; exact q
def tFast (t : TE) : TE := fun σ H Q => ∃ d kvs, H d = some (.dK kvs) ∧ ∀ o, t σ (upd H d (.frz o (.dK kvs))) fun v H2 => H2 d = some (.frz o (.dK kvs)) ∧ Q v (upd H2 d (.dK kvs))
theorem pe_fast {e : Expr} {t : TE} (he : PE X e t) : PE X e (tFast t) := by
  intro pins s σ H Q I h
  obtain ⟨d, kvs, hd, h⟩ := h
  obtain ⟨o, I1⟩ := I.freeze hd
  refine thn (he pins s σ _ _ I1 (h o)) fun u s1 ⟨x, H1, I2, rx, hd2, q⟩ => ?_
  exact ⟨x, _, Inv.thaw I hd I2 hd2, rx, q⟩
end
end L2
namespace L2
open PySem PySem.Spec PyProof.Rows
open PySem.W (envX kla_fn kla_obj tabObj CodeHd)
structure Md (P : Program) (w : World) (K : PySem.W.Frag) (mg : Str → Option Value) (base : Heap) (C : Addr) (k : Nat) (m : Str) (ps : List Str) (sp : Sp) : Prop where
  ex : ∃ f fd, FnOk P w K mg base CX0 k f fd ps sp ∧ Meth K C m f ∧ Binds K fd ps []
structure Mi (P : Program) (w : World) (K : PySem.W.Frag) (mg : Str → Option Value) (base : Heap) (C : Addr) (k : Nat) (ps : List Str) (sp : Sp) : Prop where
  ex : ∃ f fd, FnOk P w K mg base CX0 k f fd ps sp ∧ Mk K C f ∧ Binds K fd ps []
section
variable {X : Cx} {C : Addr} {k : Nat} {x m : Str} {ps : List Str} {sp : Sp} {p apos pos : Pos} {o e : Expr} {es : List Expr} {ta : TE} {t : TA}
theorem pe_md {pl : Sem Bool} (he : PE X o ta) (c : Cls X.K C) (D : Md X.prog X.w X.K X.mg X.base C k m ps sp) (hr : Room k X.A) (ha : PA X (e :: es) t)
    (hst : starEach (e :: es) X.env = (false, eval e X.env) :: starEach es X.env := by rfl) (hpl : (backTo pos (starEach es X.env)).any (·.1) = false := by rfl)
    (ht : eval (.Call (.Attribute o m apos) (e :: es) [] pos) X.env = (do
      let ov ← eval o X.env
      standAt apos.atName
      let (f, first) ← holding [ov] (getMethod ov m pl)
      callWith pos f first (backTo pos (starEach (e :: es) X.env)) (backToKw pos (keywordEach [] X.env))) := by rfl) :
    PE X (.Call (.Attribute o m apos) (e :: es) [] pos) (tMeth C m sp [] E0 ta t) := by
  obtain ⟨f, fd, F, M, hb⟩ := D.ex
  exact pe_meth he c M F hr hb .nil pass0 ha hst hpl ht
theorem pe_mi (D : Mi X.prog X.w X.K X.mg X.base C k ps sp) (hr : Room (k + 1) X.A) (hg : Gl X x) (hm : X.mg x = some (.ref C)) (ha : PA X (e :: es) t) (hdb : (x == ("__debug__" : Str)) = false := by decide)
    (he : starEach (e :: es) X.env = (false, eval e X.env) :: starEach es X.env := by rfl) (hpl : (backTo pos (starEach es X.env)).any (·.1) = false := by rfl) : PE X (.Call (.Name x p) (e :: es) [] pos) (tMake C sp [] E0 t) := by
  obtain ⟨f, fd, F, M, hb⟩ := D.ex
  exact pe_make M F hr hg hm hb .nil pass0 ha hdb he hpl
end
section
variable {X : Cx}
def tMaxLam (P : Addr) (lpos : Pos) (qual : Str) (i : Nat) (te tb : TE) : TE := fun σ H Q => te σ H fun x H1 => ∃ l xs vl, x = .ref l ∧ H1 l = some (.lst xs) ∧ 0 < xs.length ∧ σ[i]? = some (some vl) ∧ l ≠ P ∧ TabAt H1 P lpos qual ∧ ∃ κ : V → Int,
  (∀ (v : V) (H2 : Hp), v ∈ xs → SameP P H1 H2 → tb [some v, some vl] H2 fun r H3 => r = .int (κ v) ∧ Same H2 H3) ∧ ∀ (i : Nat) (v : V) (H2 : Hp), FirstMax κ xs i v → SameP P H1 H2 → TabAt H2 P lpos qual → Q v H2
theorem pe_maxlam {k i : Nat} {e body : Expr} {te tb : TE} {params : Arguments} {scope : Scope} {p y : Str} {P cc : Addr} {np lpos kpos pos : Pos} (he : PE X e te) (hg : Gl X "max") (hm : X.mg "max" = none) (S : LamScope p y scope) (hy : X.N[i]? = some y) (hyk : X.env.scope.names.lookup y = some .cell)
    (hdef : defaultsOf params X.env = ([], [])) (hcl : ∀ c, X.env.cells.lookup y = some c → closureFor scope X.env = pure [(y, c)]) (hcode : X.env.code = .ref cc) (C : CodeHd X.base cc P)
    (hbm : ∃ bm ob, X.mg "__builtins__" = some (.ref bm) ∧ bm ≠ builtinsNs ∧ X.base.get? bm = some ob ∧ ob.cls = .type "module" ∧ ob.dict = some builtinsNs ∧ ob.data = .plain) (hr : Room (k + 2) X.A)
    (hbind : ∀ (cl : List (Str × Addr)) (pm ctv : Value) (c' : Addr) (u : Value), bindArgs (kla_fn "<lambda>" (X.env.qual ++ "<lambda>") params body scope cl pm (.ref c') ctv) ⟨[u], []⟩ = pure [(p, u)])
    (hbody : ∀ (f c' : Addr) (cl : List (Str × Addr)) (s : Shared) (H : Hp), Room k (cxLam X p y (X.env.qual ++ "<lambda>") scope f (.ref c') cl s H).A → PE (cxLam X p y (X.env.qual ++ "<lambda>") scope f (.ref c') cl s H) body tb)
    (hv : bootBuiltins "max" = some (.builtin "max")) (hst : backTo pos (starEach [e] X.env) = [(false, eval e X.env)] := by rfl) :
    PE X (.Call (.Name "max" np) [e] [⟨some "key", .Lambda params body scope lpos, kpos⟩] pos) (tMaxLam P lpos (X.env.qual ++ "<lambda>") i te tb) := by
  intro pins s σ H Q I h
  refine wpAny_Call_Name_kw (ld_blt I hg hm hv ?_ (by decide) (by decide))
  refine callWith_kw (e := e) (rest := []) ?_ hst (by rw [hst]; rfl) rfl rfl
  rw [hst]
  refine Calls.spliced_cons (thn (he pins s σ H _ I h) fun u s1 ⟨x, H1, I1, rx, l, xs, vl, ex, hl, hne, hvl, hlP, hT, κ, hturn, hQ⟩ => Calls.spliced_nil ?_)
  subst ex
  obtain rfl : u = Value.ref l := rx
  obtain ⟨m, hn, hloc⟩ := I1.loc
  obtain ⟨ul, rl, lk⟩ := hloc i y vl hy hvl (.inr (.inl hyk))
  have ⟨c, hc⟩ : ∃ c, X.env.cells.lookup y = some c := by
    rcases lk with ⟨hk, _⟩ | ⟨_, c, e, _⟩
    · have hk : X.env.scope.names.lookup y = some .local := hk
      rw [hyk] at hk; cases hk
    · exact ⟨c, e⟩
  show wpAny _ _ (evalAll [(do let v ← eval (.Lambda params body scope lpos) X.env; standAt pos; pure v)]) _ _ s1
  refine wpAny_evalAll_cons (wpAny_bind (make_lam I1 hdef (hcl c hc) hcode C hbm hT fun f c' ctv s2 H2 sm hT2 _ I2 hc' => ?_))
  refine wpAny_bind (wpAny_standAt (wpAny_pure (wpAny_evalAll_nil ?_)))
  show wpAny _ _ (call (.builtin "max") [.ref l] [(Str.ofString "key", .ref f)]) _ _ s2
  have hl2 := sm l _ hlP hl
  refine wpAny_mono (max_key κ (q := f) hr.hd I2 hl2 hne (fun j x u pins' s3 H3 hx rx sm3 hp I3 => ?_) (fun j x H3 hx sm3 => hQ j x H3 hx (sm.trans sm3.p) (tab_same hT2 sm3))) (fun u s3 ⟨v, H3, I3, r3, q3⟩ => ⟨v, H3, I3.unpin, r3, q3⟩) fun _ _ z => z
  obtain ⟨m3, hn3, hloc3⟩ := I3.loc
  obtain ⟨ul3, rl3, lk3⟩ := hloc3 i y vl hy hvl (.inr (.inl hyk))
  have hcell : s3.heap.IsCell c (some ul3) := by
    rcases lk3 with ⟨hk, _⟩ | ⟨_, c2, e, z⟩
    · have hk : X.env.scope.names.lookup y = some .local := hk
      rw [hyk] at hk; cases hk
    · rw [hc] at e; cases e; exact z
  have ho := (I3.pin _ (List.mem_append_right _ (hp _ (List.mem_append_right _ (List.mem_singleton.mpr rfl))))).1
  have hcd : s3.heap.CodeRec (.ref c') (X.env.qual ++ "<lambda>") := (I3.hok c' _ (sm3 c' _ hc')).1
  exact lam_run S I3 hr ho hcd (hbind _ _ _ _) rx rl3 hc hcell (fun hr' => hbody f c' _ s3 H3 hr') (hturn x H3 (List.mem_of_getElem? hx) (sm.trans sm3.p))
end
theorem op_notIn_seqK {X : Cx} {K : PySem.W.Frag} (h : X.K = K := by rfl) : OpR X (compareOp .NotIn) (rIn K true) := by subst h; exact op_notIn_seq
end L2
namespace L2
open PySem PySem.Spec PyProof.Rows
section
variable {X : Cx}
theorem call_max3 (hc : X.calm = true) : CallR X (.builtin "max") (fun xs H Q => ∃ a b c : Int, xs = [.int a, .int b, .int c] ∧ Q (.int (max a (max b c))) H) := by
  intro pins s σ H xs us Q I r h
  obtain ⟨a, b, c, rfl, q⟩ := h
  obtain ⟨u1, u2, u3, rfl, ru, ru2, ru3⟩ : ∃ u1 u2 u3, us = [u1, u2, u3] ∧ RelV (.int a) u1 ∧ RelV (.int b) u2 ∧ RelV (.int c) u3 := by
    cases r with
    | cons p q =>
      cases q with
      | cons p' q' =>
        cases q' with
        | cons p'' q'' => cases q''; exact ⟨_, _, _, rfl, p, p', p''⟩
  obtain ⟨t1, rfl⟩ := (show ∃ t, u1 = Value.int a t from ru)
  obtain ⟨t2, rfl⟩ := (show ∃ t, u2 = Value.int b t from ru2)
  obtain ⟨t3, rfl⟩ := (show ∃ t, u3 = Value.int c t from ru3)
  refine max_three_ints (I.ok.hd hc) fun h' tk k => ?_
  have J := I.kept (h' := h') (t' := tk) k
  by_cases h1 : b > a
  · rw [if_pos h1]
    by_cases h2 : c > b
    · rw [if_pos h2]; exact ⟨.int (max a (max b c)), H, J, (show ∃ t, Value.int c t3 = Value.int (max a (max b c)) t from ⟨t3, by congr 1; omega⟩), q⟩
    · rw [if_neg h2]; exact ⟨.int (max a (max b c)), H, J, (show ∃ t, Value.int b t2 = Value.int (max a (max b c)) t from ⟨t2, by congr 1; omega⟩), q⟩
  · rw [if_neg h1]
    by_cases h2 : c > a
    · rw [if_pos h2]; exact ⟨.int (max a (max b c)), H, J, (show ∃ t, Value.int c t3 = Value.int (max a (max b c)) t from ⟨t3, by congr 1; omega⟩), q⟩
    · rw [if_neg h2]; exact ⟨.int (max a (max b c)), H, J, (show ∃ t, Value.int a t1 = Value.int (max a (max b c)) t from ⟨t1, by congr 1; omega⟩), q⟩
def rSome (K : PySem.W.Frag) : List V → Hp → VK → Prop := fun xs H Q => ∃ (p : Addr) (zs : List Int), xs = [.ref p] ∧ (SqL K H p (zs.map V.int) ∨ SqT K H p (zs.map V.int)) ∧ zs ≠ [] ∧ ∀ z ∈ zs, Q (.int z) H
theorem vals_at {zs : List Int} {its : List Value} (r : Vals (zs.map V.int) its) {i : Nat} {v : Value} (h : its[i]? = some v) : ∃ z t, zs[i]? = some z ∧ v = .int z t := by
  have hl := r.length
  have hlt : i < its.length := (List.getElem?_eq_some_iff.mp h).1
  rw [List.length_map] at hl
  obtain ⟨z, hz⟩ : ∃ z, zs[i]? = some z := ⟨_, List.getElem?_eq_getElem (by omega)⟩
  obtain ⟨u, hu, ru⟩ := r.get (show (zs.map V.int)[i]? = some (.int z) by rw [List.getElem?_map, hz]; rfl)
  rw [h] at hu
  cases hu
  obtain ⟨t, e⟩ := (show ∃ t, v = Value.int z t from ru)
  exact ⟨z, t, hz, e⟩
theorem call_min1 (hc : X.calm = true) : CallR X (.builtin "min") (rSome X.K) := by
  intro pins s σ H xs us Q I r h
  obtain ⟨p, zs, rfl, hS, hne, q⟩ := h
  obtain ⟨u, rfl, ru⟩ := vals1 r
  cases ru
  have fin : ∀ (its : List Value) (hv : Vals (zs.map V.int) its) (i : Nat) (v : Value) (h' : Heap) (tk : Nat), its.toArray[i]? = some v → (∀ b o, s.heap.get? b = some o → h'.get? b = some o) → EP X pins σ Q v { s with heap := h', toks := tk } := fun its hv i v h' tk hP k => by
    obtain ⟨z, t, hz, rfl⟩ := vals_at hv (by simpa using hP)
    exact ⟨.int z, H, I.kept k, ⟨t, rfl⟩, q z (List.mem_of_getElem? hz)⟩
  have val : ∀ (its : List Value) (hv : Vals (zs.map V.int) its) (i : Nat) (v : Value), its.toArray[i]? = some v → ∃ t, v = Value.int (zs.getD i 0) t := fun its hv i v hP => by
    obtain ⟨z, t, hz, rfl⟩ := vals_at hv (by simpa using hP)
    exact ⟨t, by rw [List.getD_eq_getElem?_getD, hz]; rfl⟩
  have pos : ∀ (its : List Value), Vals (zs.map V.int) its → 0 < its.toArray.size := fun its hv => by
    have hl := hv.length
    rw [List.length_map] at hl
    have : 0 < zs.length := List.length_pos_iff.mpr hne
    rw [List.size_toArray]; omega
  refine call_min_walk ?_
  rcases hS with hS | hS
  · obtain ⟨its, rv, pl, hz⟩ := I.list hS
    have hl := pl.isList
    obtain ⟨ol, hol, _⟩ := id hl
    refine wpAny_pyIter_list hl ⟨_, [_, p], [_], _, _, _, _, rfl, Walks.list (A := X.A.in1) (I.ok.hd hc) _ p (Nat.ne_of_lt (Heap.lt_size hol)) its.toArray, ⟨⟨_, Heap.get?_push_size _ rfl, rfl, rfl⟩, hl.push _⟩, fun b hb => ?_, pos its rv, CmpOf.ints_lt (fun i => zs.getD i 0) (val its rv), fun v h' tk hP hk => ?_⟩
    · show b < (s.heap.push _).objs.size
      rw [Heap.size_push]
      have := Heap.lt_size hol
      rcases List.mem_cons.mp hb with rfl | hb
      · exact Nat.lt_succ_self _
      · rw [List.mem_singleton.mp hb]; exact Nat.lt_succ_of_lt this
    · exact fin its rv _ v h' tk hP fun b o e => hk b o (fun z => Nat.ne_of_lt (Heap.lt_size e) (List.mem_singleton.mp z)) (Heap.get?_push_of_some _ e)
  · obtain ⟨its, rv, pt, hz⟩ := I.tuple hS
    have hl : s.heap.IsTuple p its.toArray := pt
    obtain ⟨ol, hol, _⟩ := id hl
    refine wpAny_pyIter_tuple hl ⟨_, [_, p], [_], _, _, _, _, rfl, Walks.tuple (A := X.A.in1) (I.ok.hd hc) _ p (Nat.ne_of_lt (Heap.lt_size hol)) its.toArray, ⟨⟨_, Heap.get?_push_size _ rfl, rfl, rfl⟩, hl.push _⟩, fun b hb => ?_, pos its rv, CmpOf.ints_lt (fun i => zs.getD i 0) (val its rv), fun v h' tk hP hk => ?_⟩
    · show b < (s.heap.push _).objs.size
      rw [Heap.size_push]
      have := Heap.lt_size hol
      rcases List.mem_cons.mp hb with rfl | hb
      · exact Nat.lt_succ_self _
      · rw [List.mem_singleton.mp hb]; exact Nat.lt_succ_of_lt this
    · exact fin its rv _ v h' tk hP fun b o e => hk b o (fun z => Nat.ne_of_lt (Heap.lt_size e) (List.mem_singleton.mp z)) (Heap.get?_push_of_some _ e)
theorem call_max1 (hc : X.calm = true) : CallR X (.builtin "max") (rSome X.K) := by
  intro pins s σ H xs us Q I r h
  obtain ⟨p, zs, rfl, hS, hne, q⟩ := h
  obtain ⟨u, rfl, ru⟩ := vals1 r
  cases ru
  have fin : ∀ (its : List Value) (hv : Vals (zs.map V.int) its) (i : Nat) (v : Value) (h' : Heap) (tk : Nat), its.toArray[i]? = some v → (∀ b o, s.heap.get? b = some o → h'.get? b = some o) → EP X pins σ Q v { s with heap := h', toks := tk } := fun its hv i v h' tk hP k => by
    obtain ⟨z, t, hz, rfl⟩ := vals_at hv (by simpa using hP)
    exact ⟨.int z, H, I.kept k, ⟨t, rfl⟩, q z (List.mem_of_getElem? hz)⟩
  have val : ∀ (its : List Value) (hv : Vals (zs.map V.int) its) (i : Nat) (v : Value), its.toArray[i]? = some v → ∃ t, v = Value.int (zs.getD i 0) t := fun its hv i v hP => by
    obtain ⟨z, t, hz, rfl⟩ := vals_at hv (by simpa using hP)
    exact ⟨t, by rw [List.getD_eq_getElem?_getD, hz]; rfl⟩
  have pos : ∀ (its : List Value), Vals (zs.map V.int) its → 0 < its.toArray.size := fun its hv => by
    have hl := hv.length
    rw [List.length_map] at hl
    have : 0 < zs.length := List.length_pos_iff.mpr hne
    rw [List.size_toArray]; omega
  refine call_max_walk ?_
  rcases hS with hS | hS
  · obtain ⟨its, rv, pl, hz⟩ := I.list hS
    have hl := pl.isList
    obtain ⟨ol, hol, _⟩ := id hl
    refine wpAny_pyIter_list hl ⟨_, [_, p], [_], _, _, _, _, rfl, Walks.list (A := X.A.in1) (I.ok.hd hc) _ p (Nat.ne_of_lt (Heap.lt_size hol)) its.toArray, ⟨⟨_, Heap.get?_push_size _ rfl, rfl, rfl⟩, hl.push _⟩, fun b hb => ?_, pos its rv, CmpOf.ints_gt (fun i => zs.getD i 0) (val its rv), fun v h' tk hP hk => ?_⟩
    · show b < (s.heap.push _).objs.size
      rw [Heap.size_push]
      have := Heap.lt_size hol
      rcases List.mem_cons.mp hb with rfl | hb
      · exact Nat.lt_succ_self _
      · rw [List.mem_singleton.mp hb]; exact Nat.lt_succ_of_lt this
    · exact fin its rv _ v h' tk hP fun b o e => hk b o (fun z => Nat.ne_of_lt (Heap.lt_size e) (List.mem_singleton.mp z)) (Heap.get?_push_of_some _ e)
  · obtain ⟨its, rv, pt, hz⟩ := I.tuple hS
    have hl : s.heap.IsTuple p its.toArray := pt
    obtain ⟨ol, hol, _⟩ := id hl
    refine wpAny_pyIter_tuple hl ⟨_, [_, p], [_], _, _, _, _, rfl, Walks.tuple (A := X.A.in1) (I.ok.hd hc) _ p (Nat.ne_of_lt (Heap.lt_size hol)) its.toArray, ⟨⟨_, Heap.get?_push_size _ rfl, rfl, rfl⟩, hl.push _⟩, fun b hb => ?_, pos its rv, CmpOf.ints_gt (fun i => zs.getD i 0) (val its rv), fun v h' tk hP hk => ?_⟩
    · show b < (s.heap.push _).objs.size
      rw [Heap.size_push]
      have := Heap.lt_size hol
      rcases List.mem_cons.mp hb with rfl | hb
      · exact Nat.lt_succ_self _
      · rw [List.mem_singleton.mp hb]; exact Nat.lt_succ_of_lt this
    · exact fin its rv _ v h' tk hP fun b o e => hk b o (fun z => Nat.ne_of_lt (Heap.lt_size e) (List.mem_singleton.mp z)) (Heap.get?_push_of_some _ e)
end
end L2
namespace L2
open PySem PySem.Spec PyProof.Rows
def plainV : V → Bool
  | .int _ => true
  | .str _ => true
  | _ => false
section
variable {X : Cx}
theorem plain_eqAt {A : Around} {s : Shared} {v : V} {u w : Value} (h : plainV v = true) (hu : RelV v u) (hw : RelV v w) : SeqAt.EqAt A s u w true := by
  cases v with
  | int i =>
    obtain ⟨t, rfl⟩ := hu
    obtain ⟨t', rfl⟩ := hw
    have e := (MeetsSeq.EqGives.int i i t t').at A s
    rwa [beq_self_eq_true] at e
  | str x =>
    obtain ⟨t, rfl⟩ := hu
    obtain ⟨t', rfl⟩ := hw
    have e := (eqGives_str x x t t').at A s
    rwa [beq_self_eq_true] at e
  | _ => cases h
end
end L2
namespace L2
open PySem PySem.Spec PyProof.Rows
abbrev BMainH (mg : Str → Option Value) (base : Heap) : Prop := ∃ bm ob, mg "__builtins__" = some (.ref bm) ∧ bm ≠ builtinsNs ∧ base.get? bm = some ob ∧ ob.cls = .type "module" ∧ ob.dict = some builtinsNs ∧ ob.data = .plain
theorem law_callT {P : Program} {w : World} {K : PySem.W.Frag} {mg mb : Str → Option Value} {k : Nat} {fa a T cc : Addr} {fd : FuncData} {x : Str} {sp : Sp} {s₁ : Shared} {vs : List Value} {ns : List Int}
    (KX : K.In s₁.heap) (hns : s₁.heap.Ns mainGlobals mg) (hb : s₁.heap.Ns builtinsNs mb) (hbb : ∀ x : Str, x ≠ "__name__" → mb x = bootBuiltins x) (hlim : s₁.heap.NoLimit) (hg : s₁.gens = #[])
    (ha : s₁.heap.get? a = some { cls := .type "list", data := .seq vs.toArray }) (hi : IntsAre vs ns) (hl : ns.length ≤ sizeLine) (hr : Room k callerA)
    (hbm : BMainH mg s₁.heap) (CH : PySem.W.CodeHd s₁.heap cc T) (hT : s₁.heap.get? T = some (PySem.W.tabObj #[])) (hKT : K.lookup T = none)
    (F : ∀ base : Heap, K.In base → base.Ns mainGlobals mg → PySem.W.CodeHd base cc T → BMainH mg base → FnOk P w K mg base CX0 k fa fd [x] sp) (hbind : ∀ (s : Shared) (u : Value), BindsTo s fd ⟨[u], []⟩ [(x, u)])
    (hsp : ∀ H : Hp, H T = some (.tbl #[]) → SqL K H a (ns.map V.int) → a ≠ T → sp [.ref a] H (fun v _ => v = .bl true) fun _ _ _ => False) :
    codeAny (model P w) callerA (.call (.ref fa) ⟨[.ref a], []⟩) (fun r s' => r = .ok (.ret (.bool true)) ∧ OldK s₁.heap s'.heap ∧ s'.os = s₁.os ∧ AllBare s'.gens) s₁ := by
  have rv := vals_ints hi
  have lenV := hi.length
  have naT : a ≠ T := fun z => by rw [z, hT] at ha; cases ha
  have core : ∀ H : Hp, (∀ b, b ≠ T → H b = none ∨ ∃ o xs, H b = some (.frz o (.lst xs))) → H T = some (.tbl #[]) → SqL K H a (ns.map V.int) → HOk P w H s₁.heap → (∀ b, H b ≠ none → b = a ∨ b = T) → (H a ≠ none → K.lookup a = none) →
      codeAny (model P w) callerA (.call (.ref fa) ⟨[.ref a], []⟩) (fun r s' => r = .ok (.ret (.bool true)) ∧ OldK s₁.heap s'.heap ∧ s'.os = s₁.os ∧ AllBare s'.gens) s₁ := by
    intro H hO hHT hS hok hA hK
    have base_of : ∀ {b : Addr} {o : Obj}, s₁.heap.get? b = some o → H b = none → (hidT s₁.heap H).get? b = some o := fun e n => hidT_get e n
    have noA : ∀ {b : Addr} {o : Obj}, s₁.heap.get? b = some o → o.cls ≠ .type "list" → o.cls ≠ .none → H b = none := fun {b o} e d1 d2 => by
      cases q : H b with
      | none => rfl
      | some u =>
        rcases hA b (by rw [q]; simp) with e' | e'
        · subst e'
          rw [ha] at e; cases e
          exact absurd rfl d1
        · subst e'
          rw [hT] at e; cases e
          exact absurd rfl d2
    have noD : ∀ {b : Addr} {o : Obj} {es : Array DictEntry} {ep : Nat}, s₁.heap.get? b = some o → o.data = .dict es ep → H b = none := fun {b o es ep} e d => by
      cases q : H b with
      | none => rfl
      | some u =>
        rcases hA b (by rw [q]; simp) with e' | e'
        · subst e'
          rw [ha] at e; cases e
          have d' : Data.seq vs.toArray _ = Data.dict es ep := d
          cases d'
        · subst e'
          rw [hT] at e; cases e
          have d' : Data.fields #[] = Data.dict es ep := d
          cases d'
    have nsK : ∀ {b : Addr} {m : Str → Option Value}, s₁.heap.Ns b m → (hidT s₁.heap H).Ns b m := fun {b m} ⟨o, es, ep, e, d, r⟩ => ⟨o, es, ep, base_of e (noD e d), d, r⟩
    have hKb : K.In (hidT s₁.heap H) := fun b o e => base_of (KX b o e) (by
      cases q : H b with
      | none => rfl
      | some u =>
        rcases hA b (by rw [q]; simp) with e' | e'
        · subst e'
          rw [hK (by rw [q]; simp)] at e; cases e
        · subst e'
          rw [hKT] at e; cases e)
    have hM : Mod K mg (hidT s₁.heap H) := ⟨hKb, nsK hns, ⟨mb, nsK hb, hbb⟩, let ⟨mc, h1, h2⟩ := hlim; ⟨mc, nsK h1, h2⟩⟩
    have hCb : PySem.W.CodeHd (hidT s₁.heap H) cc T := by
      obtain ⟨o, vs, file, tf, flags, tg, inF, text, tt, e1, r1, r⟩ := CH
      exact ⟨o, vs, file, tf, flags, tg, inF, text, tt, base_of e1 (noA e1 (by rw [r1]; simp) (by rw [r1]; exact fun z => nomatch z)), r1, r⟩
    have hBb : BMainH mg (hidT s₁.heap H) := by
      obtain ⟨bm, ob, b1, b2, b3, b4, r⟩ := hbm
      exact ⟨bm, ob, b1, b2, base_of b3 (noA b3 (by rw [b4]; simp) (by rw [b4]; exact fun z => nomatch z)), b4, r⟩
    have e0 : Env0 P w K mg (hidT s₁.heap H) callerA [] s₁ H := ⟨rfl, hM, fun b o e => of_hidT e, Nat.le_of_eq (hidT_size _ _), trivial, fun b hb => absurd (show b ∈ ([] : List Addr) from hb) (by simp), hok, .of_eq hg⟩
    refine codeAny_mono ((F _ hKb (nsK hns) hCb hBb).run callerA [] s₁ H ⟨[.ref a], []⟩ [.ref a] [.ref a] _ _ hr e0 (hbind s₁ (.ref a)) (.cons rfl .nil) (hsp H hHT hS naT)) fun r s' h => ?_
    cases r with
    | error e => exact False.elim h
    | ok fl =>
      cases fl with
      | next => exact False.elim h
      | brk => exact False.elim h
      | cont => exact False.elim h
      | ret u =>
        obtain ⟨v, H', os, bare, un, hok', r', q⟩ := h
        have q' : v = .bl true := q
        subst q'
        obtain rfl : u = Value.bool true := r'
        have keep : ∀ b o, b ≠ T → s₁.heap.get? b = some o → s'.heap.get? b = some o := fun b o nb e => by
          cases q : H b with
          | none => exact un.keep b o e q (by intro z; exact absurd (show b ∈ ([] : List Addr) from z) (by simp)) (by simp)
          | some u =>
            rcases hO b nb with z | ⟨ob, xs, z⟩
            · rw [q] at z; cases z
            · have z2 := un.frzs b ob _ z
              obtain ⟨e1, _⟩ := hok b _ z
              obtain ⟨e2, _⟩ := hok' b _ z2
              rw [e] at e1; cases e1
              exact e2
        obtain ⟨more, hmore⟩ := un.tbls T #[] hHT
        have hT' : s'.heap.get? T = some { cls := .none, data := .fields (#[] ++ more) } := hok' T _ hmore
        refine ⟨rfl, ⟨fun b o e => ?_, fun b o e => ?_⟩, os, bare⟩
        · by_cases hb : b = T
          · subst hb
            rw [hT] at e
            cases e
            exact .inr (.inl ⟨(CH.tab hT).isCodeTable, rfl, #[], more, rfl, hT'⟩)
          · exact .inl (keep b o hb e)
        · by_cases hb : b = T
          · subst hb
            exact ⟨_, hT'⟩
          · exact ⟨o, keep b o hb e⟩
  cases hk : K.lookup a with
  | some o =>
    have e := KX a o hk
    rw [ha] at e
    cases e
    refine core (fun b => if b = T then some (.tbl #[]) else none) (fun b nb => .inl (if_neg nb)) (if_pos rfl) (.inr ⟨_, vs.toArray, _, hk, rfl, rfl, rfl, by rw [List.size_toArray, lenV]; exact hl, by simpa using rv⟩) (fun b u z => ?_) (fun b z => ?_) fun z => absurd (if_neg naT) z
    · by_cases hb : b = T
      · have z' := (if_pos hb).symm.trans z
        cases z'
        subst hb
        exact hT
      · have z' := (if_neg hb).symm.trans z
        cases z'
    · by_cases hb : b = T
      · exact .inr hb
      · exact absurd (if_neg hb) z
  | none =>
    have hHa : (fun b => if b = T then some (HO.tbl #[]) else if b = a then some (.frz { cls := .type "list", data := .seq vs.toArray } (.lst (ns.map V.int))) else none) a = some (.frz { cls := .type "list", data := .seq vs.toArray } (.lst (ns.map V.int))) := (if_neg naT).trans (if_pos rfl)
    refine core (fun b => if b = T then some (.tbl #[]) else if b = a then some (.frz { cls := .type "list", data := .seq vs.toArray } (.lst (ns.map V.int))) else none) (fun b nb => ?_) (if_pos rfl) (.inl (.inr ⟨{ cls := .type "list", data := .seq vs.toArray }, hHa⟩)) (fun b u z => ?_) (fun b z => ?_) fun _ => hk
    · by_cases hb : b = a
      · exact .inr ⟨_, _, (if_neg nb).trans (if_pos hb)⟩
      · exact .inl ((if_neg nb).trans (if_neg hb))
    · by_cases hbT : b = T
      · have z' := (if_pos hbT).symm.trans z
        cases z'
        subst hbT
        exact hT
      · by_cases hb : b = a
        · have z' := ((if_neg hbT).trans (if_pos hb)).symm.trans z
          cases z'
          subst hb
          exact ⟨ha, by rw [List.length_map]; exact hl, vs, _, rv, ha⟩
        · have z' := ((if_neg hbT).trans (if_neg hb)).symm.trans z
          cases z'
    · by_cases hbT : b = T
      · exact .inr hbT
      · by_cases hb : b = a
        · exact .inl hb
        · exact absurd ((if_neg hbT).trans (if_neg hb)) z
theorem lookup_tab {K : PySem.W.Frag} {h : Heap} {T : Addr} (X : K.In h) (hT : h.get? T = some (PySem.W.tabObj #[])) (hn : PySem.W.noTabs K = true) : K.lookup T = none := by
  cases e : K.lookup T with
  | none => rfl
  | some o =>
    have h2 := List.all_eq_true.mp hn (T, o) (PySem.W.mem_of_lookupK e)
    have h3 := X _ _ e
    rw [hT] at h3
    cases h3
    exact absurd (show false = true from h2) Bool.false_ne_true
theorem walk_ofT {l : PySem.W.OpenLaw} {n k : Nat} {q : Program} {loose : List Str} {XP : (Str → Option Value) → Heap → Prop} {YP : World → Heap → Prop} {d : DefRec} {K : Params → PySem.W.Frag} {sp : PySem.W.Frag → Addr → Sp} {x y : Str}
    (hn : l.most = some n) (hn2 : n ≤ sizeLine) (hdf : d.params.defaults = []) (hr : Room k callerA)
    (hY : ∀ (w : World) (h : Heap), YP w h → (K w.params).In h) (hrec : ∃ dd, (recsOf q).find? (fun e => e.name == y) = some dd)
    (hno : ∀ w : World, PySem.W.noTabs (K w.params) = true)
    (F : ∀ (w : World) (mg : Str → Option Value) (fa : Addr) (h : Heap), (K w.params).In h → h.Ns mainGlobals mg → mg d.name = some (.ref fa) →
      ∃ (cc T : Addr) (fd : FuncData), PySem.W.tabIn (K w.params) y = some (cc, T) ∧ (∀ (s : Shared) (u : Value), BindsTo s fd ⟨[u], []⟩ [(x, u)]) ∧
        ∀ base : Heap, (K w.params).In base → base.Ns mainGlobals mg → PySem.W.CodeHd base cc T → BMainH mg base → FnOk l.prog w (K w.params) mg base CX0 k fa fd [x] (sp (K w.params) T))
    (hsp : ∀ (K : PySem.W.Frag) (H : Hp) (a T : Addr) (ns : List Int), ns.length ≤ n → H T = some (.tbl #[]) → SqL K H a (ns.map V.int) → a ≠ T → sp K T [.ref a] H (fun v _ => v = .bl true) fun _ _ _ => False) :
    PySem.W.WalkO q loose XP YP l.row.toRowW d [] (fun f vs => PySem.call f vs) := by
  refine Att.attach_call hn hdf fun w s₀ s₁ mg mb fa o pm cd doc a vs ns G Y ho hd hcd hmg hobj hints hlen hg => ?_
  have KX := hY w _ Y
  obtain ⟨cc, T, fd, ht, hb, hF⟩ := F w mg fa _ KX G.T.g hmg
  obtain ⟨dd, hdd⟩ := hrec
  obtain ⟨CH, hT⟩ := PySem.W.tab_of G.T KX hdd ht
  obtain ⟨bm, ob, b1, b2, b3, b4, b5, b6⟩ := G.T.bmain
  exact law_callT KX G.T.g G.T.b G.T.builtins G.T.nolimit hg hobj hints (Nat.le_trans hlen hn2) hr ⟨bm, ob, b1, b2, b3, b4, b5, b6⟩ CH hT (lookup_tab KX hT (hno w)) hF hb (fun H h1 h2 h3 => hsp _ H a T ns hlen h1 h2 h3)
theorem code_of {K : PySem.W.Frag} {mg : Str → Option Value} {h : Heap} {x : Str} {cc T : Addr} (X : K.In h) (G : h.Ns mainGlobals mg) (ht : PySem.W.tabIn K x = some (cc, T)) {f : Addr} {oc : Value} {od : Option Addr} {fd : FuncData} {osl : Array (Option Value)}
    (hm : mg x = some (.ref f)) (hl : K.lookup f = some ⟨oc, od, .func fd, osl⟩) : fd.code = .ref cc := by
  unfold PySem.W.tabIn at ht
  split at ht
  · rename_i f' hf
    have e1 := PySem.W.mg_of X G hf
    rw [hm] at e1
    cases e1
    rw [hl] at ht
    dsimp only at ht
    split at ht
    · rename_i c hc
      rw [hc]
      split at ht
      · split at ht
        · cases ht; rfl
        · cases ht
      · cases ht
    · cases ht
  · cases ht
theorem seq_samep {K : PySem.W.Frag} {H H' : Hp} {T a : Addr} {xs : List V} (h : SqL K H a xs) (s : SameP T H H') (n : a ≠ T) : SqL K H' a xs := by
  rcases h with (h | ⟨o, h⟩) | h
  · exact .inl (.inl (s a _ n h))
  · exact .inl (.inr ⟨o, s a _ n h⟩)
  · exact .inr h
end L2
namespace L2
open PySem PySem.Spec PyProof.Rows
def rEqFlat (K : PySem.W.Frag) : R2 := fun x y H Q => ∃ a b xs, x = .ref a ∧ y = .ref b ∧ SqL K H a xs ∧ SqL K H b xs ∧ (∀ v ∈ xs, plainV v = true) ∧ Q (.bl true) H
def rNoPair (K : PySem.W.Frag) : R2 := fun x y H Q => ∃ t p, ∃ (a b : Int) (xs : List V), x = .ref t ∧ y = .ref p ∧ H t = some (.tup [.int a, .int b]) ∧ SqL K H p xs ∧ (∀ v ∈ xs, ∃ q, ∃ (c d : Int), v = .ref q ∧ H q = some (.tup [.int c, .int d]) ∧ ¬ (c = a ∧ d = b)) ∧ Q (.bl false) H
theorem vals_mem : ∀ {xs : List V} {us : List Value} {u : Value}, Vals xs us → u ∈ us → ∃ x ∈ xs, RelV x u
  | _, _, _, .nil, h => nomatch h
  | x :: xs, u :: us, _, .cons r t, h => by
    rcases List.mem_cons.mp h with rfl | h
    · exact ⟨x, .head _, r⟩
    · obtain ⟨y, hy, q⟩ := vals_mem t h
      exact ⟨y, .tail _ hy, q⟩
section
variable {X : Cx}
theorem op_eqFlat (hu : X.A.units < cLine) : OpR X (compareOp .Eq) (rEqFlat X.K) := by
  intro pins s σ H x y v u Q I rx ry h
  obtain ⟨a, b, xs, rfl, rfl, ha, hb, hf, q⟩ := h
  cases rx; cases ry
  obtain ⟨its, r1, p1, z1⟩ := I.list ha
  obtain ⟨itb, r2, p2, z2⟩ := I.list hb
  have l1 := r1.length
  have l2 := r2.length
  have hsz : its.toArray.size = itb.toArray.size := by simp only [List.size_toArray]; omega
  have e : ((List.range its.toArray.size).all (fun _ => true)) = true := by simp
  refine SeqAt.eq_listAt (e := fun _ => true) p1.isList p2.isList hsz hu (fun j h1 h2 => ?_) ?_
  · have h1' : j < its.length := by simpa using h1
    have h2' : j < itb.length := by simpa using h2
    have hx : xs[j]? = some (xs[j]'(by omega)) := List.getElem?_eq_getElem _
    obtain ⟨u1, e1, q1⟩ := Vals.get r1 hx
    obtain ⟨u2, e2, q2⟩ := Vals.get r2 hx
    have g1 : its.toArray[j] = u1 := by
      rw [List.getElem?_eq_getElem h1'] at e1
      simpa using e1
    have g2 : itb.toArray[j] = u2 := by
      rw [List.getElem?_eq_getElem h2'] at e2
      simpa using e2
    rw [g1, g2]
    exact plain_eqAt (hf _ (List.getElem_mem _)) q1 q2
  · rw [e]
    exact ⟨.bl true, H, I, rfl, q⟩
theorem pair_ne {A : Around} {pins : List (Addr × Obj)} {s : Shared} {σ : St} {H : Hp} {t q : Addr} {a b c d : Int} (I : Inv X pins σ H s) (hu : A.units < cLine) (ht : H t = some (.tup [.int a, .int b])) (hq : H q = some (.tup [.int c, .int d])) (hne : ¬ (c = a ∧ d = b)) : SeqAt.EqAt A s (.ref q) (.ref t) false := by
  have nqt : q ≠ t := fun z => by
    rw [z, ht] at hq
    cases hq
    exact hne ⟨rfl, rfl⟩
  obtain ⟨its, r1, p1, _⟩ := I.tuple (SqT.of (K := X.K) hq)
  obtain ⟨itb, r2, p2, _⟩ := I.tuple (SqT.of (K := X.K) ht)
  cases r1 with
  | cons ra r1 => cases r1 with
    | cons rb r1 => cases r1 with
      | nil =>
        cases r2 with
        | cons sa r2 => cases r2 with
          | cons sb r2 => cases r2 with
            | nil =>
              obtain ⟨t1, rfl⟩ := ra
              obtain ⟨t2, rfl⟩ := rb
              obtain ⟨t3, rfl⟩ := sa
              obtain ⟨t4, rfl⟩ := sb
              have key := SeqAt.RcAt.tuples (A := A) (e := fun j => if j = 0 then c == a else d == b) p1 p2 hu (fun j h1 h2 => by
                have h1' : j < 2 := by simpa using h1
                match j, h1' with
                | 0, _ => exact (MeetsSeq.EqGives.int c a t1 t3).at A.in1 s
                | 1, _ => exact (MeetsSeq.EqGives.int d b t2 t4).at A.in1 s)
              have e : ((List.range (min (#[Value.int c t1, Value.int d t2] : Array Value).size (#[Value.int a t3, Value.int b t4] : Array Value).size)).all (fun j => if j = 0 then c == a else d == b) && (#[Value.int c t1, Value.int d t2] : Array Value).size == (#[Value.int a t3, Value.int b t4] : Array Value).size) = false := by
                show ((c == a && (d == b && true)) && true) = false
                by_cases h1 : c = a
                · have h2 : ¬ d = b := fun z => hne ⟨h1, z⟩
                  simp [h1, h2]
                · simp [h1]
              refine SeqAt.EqAt.of_refs nqt ?_
              rw [← e]
              exact key
theorem op_inPair (hu : X.A.units + 1 < cLine) : OpR X (compareOp .In) (rNoPair X.K) := by
  intro pins s σ H x y v u Q I rx ry h
  obtain ⟨t, p, a, b, xs, rfl, rfl, ht, hp, hx, q⟩ := h
  cases rx; cases ry
  obtain ⟨its, r, pl, hz⟩ := I.list hp
  have e : its.toArray.any (fun _ => false) = false := by simp
  refine SeqAt.in_listAt (fun _ => false) pl.isList (fun w hw => ?_) ?_
  · obtain ⟨v, hv, rv⟩ := vals_mem r (by simpa using hw)
    obtain ⟨q', c, d, rfl, hq, hne⟩ := hx v hv
    cases rv
    exact pair_ne I hu ht hq hne
  · rw [e]
    exact ⟨.bl false, H, I, rfl, q⟩
end
end L2
namespace Fp
open PySem L2
def top (i : Nat) : Stmt := PySem.Challenge.pw_fewplaces_k06_whole_side_by_side.main.body.getD i (.Pass ⟨0, 0, 0, 0⟩)
structure Fn (K : PySem.W.Frag) (mg : Str → Option Value) (x : Str) (st : Stmt) : Prop where
  ex : ∃ f fd, Fun K x x st f fd ∧ mg x = some (.ref f)
theorem Fn.fd {P : Program} {w : World} {K : PySem.W.Frag} {mg : Str → Option Value} {base : Heap} {x : Str} {st : Stmt} {N ps : List Str} {k : Nat} {sp : Sp} (F : Fn K mg x st) (S : FnScope N ps (defScope st)) (len : ∀ vs H Q E, sp vs H Q E → vs.length = ps.length)
    (bind : ∀ (kV doc pm : Value) (an : Option Addr) (cdv ct : Value) (us : List Value), us.length = ps.length → bindArgs (PySem.W.fnOf x x (defArgs st) (defBody st) (defScope st) .none kV doc pm an cdv ct) ⟨us, []⟩ = pure (ps.zip us))
    (hbody : ∀ (f : Addr) (cdv : Value) (A : Around) (outer : List Env) (s : Shared) (H : Hp) (vs : List V) (Q : VK) (E : XK), Room k (A.deeper (PyProof.Rows.envOfC x (defScope st) s.heap.objs.size f cdv)) → sp vs H Q E →
      ∃ t, PSs (cxOf CX0 P w K mg base N x (defScope st) f cdv A outer s H E).nox (defBody st) t ∧ t { nx := fun _ H' => Q .non H', rt := Q } (start N vs) H) : Fd P w K mg base (k + 1) x ps sp := by
  obtain ⟨f, fd, F1, hm⟩ := F.ex
  exact ⟨f, fd, F1.ok S len (hbody f), hm, F1.kp, F1.binds bind, F1.lk⟩
theorem at0 {α : Type} {x : α} {r : List α} : atI (x :: r) 0 = some x := by
  have := atI_nat (xs := x :: r) (j := 0) (v := x) rfl
  exact this
theorem at1 {α : Type} {x y : α} {r : List α} : atI (x :: y :: r) 1 = some y := by
  have := atI_nat (xs := x :: y :: r) (j := 1) (v := y) rfl
  exact this
theorem at2 {α : Type} {x y z : α} {r : List α} : atI (x :: y :: z :: r) 2 = some z := by
  have := atI_nat (xs := x :: y :: z :: r) (j := 2) (v := z) rfl
  exact this
theorem at3 {α : Type} {x y z u : α} {r : List α} : atI (x :: y :: z :: u :: r) 3 = some u := by
  have := atI_nat (xs := x :: y :: z :: u :: r) (j := 3) (v := u) rfl
  exact this
theorem us1 : ∀ {us : List Value}, us.length = 1 → ∃ a0, us = [a0]
  | [a0], _ => ⟨_, rfl⟩
theorem us2 : ∀ {us : List Value}, us.length = 2 → ∃ a0 a1, us = [a0, a1]
  | [a0, a1], _ => ⟨_, _, rfl⟩
theorem us3 : ∀ {us : List Value}, us.length = 3 → ∃ a0 a1 a2, us = [a0, a1, a2]
  | [a0, a1, a2], _ => ⟨_, _, _, rfl⟩
theorem us4 : ∀ {us : List Value}, us.length = 4 → ∃ a0 a1 a2 a3, us = [a0, a1, a2, a3]
  | [a0, a1, a2, a3], _ => ⟨_, _, _, _, rfl⟩
theorem us5 : ∀ {us : List Value}, us.length = 5 → ∃ a0 a1 a2 a3 a4, us = [a0, a1, a2, a3, a4]
  | [a0, a1, a2, a3, a4], _ => ⟨_, _, _, _, _, rfl⟩
theorem us6 : ∀ {us : List Value}, us.length = 6 → ∃ a0 a1 a2 a3 a4 a5, us = [a0, a1, a2, a3, a4, a5]
  | [a0, a1, a2, a3, a4, a5], _ => ⟨_, _, _, _, _, _, rfl⟩
theorem seqCut {t u : TS} {D : Ends} {σ : St} {H : Hp} (h : ∀ U : St → Hp → Prop, (∀ σ' H', u D σ' H' → U σ' H') → t { D with nx := U } σ H) : tSeq t u D σ H := h (u D) fun _ _ z => z
section
variable {P : Program} {w : World} {K : PySem.W.Frag} {mg : Str → Option Value} {base : Heap}
structure Rk (K : PySem.W.Frag) (mg : Str → Option Value) (aRECKONING : Addr) : Prop extends Blt mg where
  g_RECKONING : mg "RECKONING" = some (.ref aRECKONING)
  tab : ∀ H, SqT K H aRECKONING [.str "add", .str "sub", .str "mul"]
def spUsed : Sp := fun vs H Q _ => ∃ a r, vs = [.ref a] ∧ H a = some (.tup (rowV r)) ∧ ∀ p, H p = none → Q (.ref p) (upd H p (.lst ((uses1 r).map V.str)))
theorem fd_names_used {aRECKONING : Addr} (B : Rk K mg aRECKONING) (F : Fn K mg "names_used" (top 6)) : Fd P w K mg base 1 "names_used" ["row"] spUsed := by
  have sc : FnScope ["row"] ["row"] (defScope (top 6)) := ⟨rfl, rfl, rfl, by decide +kernel, rfl, by decide +kernel, by decide +kernel⟩
  refine F.fd sc (fun vs H Q E h => ?_) (fun _ _ _ _ _ _ us hl => by obtain ⟨a0, rfl⟩ := us1 hl; rfl) (fun f cdv A outer s H vs Q E hr h => ?_)
  · obtain ⟨a, r, rfl, _⟩ := h
    rfl
  · obtain ⟨a, r, rfl, ha, k⟩ := h
    have hT : SqT K H a (rowV r) := SqT.of ha
    refine ⟨_, (pss_cons (ps_if (pt_cmpR op_eq (pe_ix ix_tup (pv 0) pe_int (fun _ _ => rfl)) pe_str (nomark _)) (pss_one (ps_ret (pe_lst (pa_cons (pe_ix ix_tup (pv 0) pe_int (fun _ _ => rfl)) pa_nil)))) pss_nil)
    (pss_cons (ps_if (pt_cmpR op_notIn_seq (pe_ix ix_tup (pv 0) pe_int (fun _ _ => rfl)) (pe_glob (v := .ref aRECKONING) rfl B.g_RECKONING rfl) (by with_unfolding_all rfl)) (pss_one (ps_ret (pe_lst pa_nil))) pss_nil)
    (pss_cons (ps_if (pt_cmpR op_eq (pe_ix ix_tup (pv 0) pe_int (fun _ _ => rfl)) (pe_ix ix_tup (pv 0) pe_int (fun _ _ => rfl)) (nomark _)) (pss_one (ps_ret (pe_lst (pa_cons (pe_ix ix_tup (pv 0) pe_int (fun _ _ => rfl)) pa_nil)))) pss_nil)
    (pss_one (ps_ret (pe_lst (pa_cons (pe_ix ix_tup (pv 0) pe_int (fun _ _ => rfl)) (pa_cons (pe_ix ix_tup (pv 0) pe_int (fun _ _ => rfl)) pa_nil)))))))), ?_⟩
    cases r with
    | tell n =>
      refine ⟨_, rfl, a, _, _, _, rfl, rfl, hT, at0, rfl, _, rfl, itD rfl ?_⟩
      exact ⟨_, rfl, a, _, _, _, rfl, rfl, hT, at1, lk 1, fun p hp => k p hp⟩
    | set n z =>
      refine ⟨_, rfl, a, _, _, _, rfl, rfl, hT, at0, rfl, _, rfl, ifD (by decide +kernel) ?_⟩
      refine ⟨_, rfl, a, _, _, _, rfl, rfl, hT, at0, _, _, rfl, .inr (B.tab H), rfl, rfl, _, rfl, itB (by decide +kernel) ?_⟩
      exact ⟨by decide, fun p hp => k p hp⟩
    | take n =>
      refine ⟨_, rfl, a, _, _, _, rfl, rfl, hT, at0, rfl, _, rfl, ifD (by decide +kernel) ?_⟩
      refine ⟨_, rfl, a, _, _, _, rfl, rfl, hT, at0, _, _, rfl, .inr (B.tab H), rfl, rfl, _, rfl, itB (by decide +kernel) ?_⟩
      exact ⟨by decide, fun p hp => k p hp⟩
    | op o n x y =>
      refine ⟨_, rfl, a, _, _, _, rfl, rfl, hT, at0, rfl, _, rfl, ifD (by cases o <;> decide +kernel) ?_⟩
      refine ⟨_, rfl, a, _, _, _, rfl, rfl, hT, at0, _, _, rfl, .inr (B.tab H), rfl, rfl, _, rfl, ifB (by cases o <;> decide +kernel) ?_⟩
      refine ⟨_, rfl, a, _, _, _, rfl, rfl, hT, at2, _, rfl, a, _, _, _, rfl, rfl, hT, at3, rfl, _, rfl, ?_⟩
      by_cases e : x = y
      · refine itD (by rw [e]) ?_
        refine ⟨_, rfl, a, _, _, _, rfl, rfl, hT, at2, lk 1, fun p hp => ?_⟩
        have := k p hp
        simp only [uses1, if_pos e] at this
        exact this
      · refine ifD (by intro z; cases z; exact e rfl) ?_
        refine ⟨_, rfl, a, _, _, _, rfl, rfl, hT, at2, _, rfl, a, _, _, _, rfl, rfl, hT, at3, lk 2, fun p hp => ?_⟩
        have := k p hp
        simp only [uses1, if_neg e] at this
        exact this
def wrV : Option Str → V
  | none => .non
  | some x => .str x
def spWritten : Sp := fun vs H Q _ => ∃ a r, vs = [.ref a] ∧ H a = some (.tup (rowV r)) ∧ ∀ v, v = wrV (wr r) → Q v H
theorem fd_name_written (F : Fn K mg "name_written" (top 7)) : Fd P w K mg base 1 "name_written" ["row"] spWritten := by
  have sc : FnScope ["row"] ["row"] (defScope (top 7)) := ⟨rfl, rfl, rfl, by decide +kernel, rfl, by decide +kernel, by decide +kernel⟩
  refine F.fd sc (fun vs H Q E h => ?_) (fun _ _ _ _ _ _ us hl => by obtain ⟨a0, rfl⟩ := us1 hl; rfl) (fun f cdv A outer s H vs Q E hr h => ?_)
  · obtain ⟨a, r, rfl, _⟩ := h
    rfl
  · obtain ⟨a, r, rfl, ha, k⟩ := h
    have hT : SqT K H a (rowV r) := SqT.of ha
    refine ⟨_, (pss_cons (ps_if (pt_cmpR op_eq (pe_ix ix_tup (pv 0) pe_int (fun _ _ => rfl)) pe_str (nomark _)) (pss_one (ps_ret pe_non)) pss_nil)
    (pss_one (ps_ret (pe_ix ix_tup (pv 0) pe_int (fun _ _ => rfl))))), ?_⟩
    cases r with
    | tell n => exact ⟨_, rfl, a, _, _, _, rfl, rfl, hT, at0, rfl, _, rfl, itD rfl (k _ rfl)⟩
    | set n z => exact ⟨_, rfl, a, _, _, _, rfl, rfl, hT, at0, rfl, _, rfl, ifD (by decide +kernel) ⟨_, rfl, a, _, _, _, rfl, rfl, hT, at1, k _ rfl⟩⟩
    | take n => exact ⟨_, rfl, a, _, _, _, rfl, rfl, hT, at0, rfl, _, rfl, ifD (by decide +kernel) ⟨_, rfl, a, _, _, _, rfl, rfl, hT, at1, k _ rfl⟩⟩
    | op o n x y => exact ⟨_, rfl, a, _, _, _, rfl, rfl, hT, at0, rfl, _, rfl, ifD (by cases o <;> decide +kernel) ⟨_, rfl, a, _, _, _, rfl, rfl, hT, at1, k _ rfl⟩⟩
end
end Fp
namespace Fp
open PySem L2
def keyed (ks : List Str) : List (Key × V) := ks.map fun k => (Sum.inr k, V.bl true)
theorem keyed_len (ks : List Str) : (keyed ks).length = ks.length := by simp [keyed]
theorem keyed_keys (ks : List Str) : (keyed ks).map (·.1) = ks.map (Sum.inr : Str → Key) := by simp [keyed]
theorem keyed_val {ks : List Str} {x : Str} : valV (keyed ks) (Sum.inr x : Key) = if x ∈ ks then some (.bl true) else none := by
  induction ks with
  | nil => simp [keyed, valV]
  | cons k r ih =>
    have e : keyed (k :: r) = (Sum.inr k, V.bl true) :: keyed r := rfl
    rw [e]
    by_cases h : k = x
    · subst h
      rw [valV_pos rfl, if_pos (List.mem_cons_self ..)]
    · rw [valV_neg (fun z => h (Sum.inr.inj z)), ih]
      have : x ∈ k :: r ↔ x ∈ r := by
        rw [List.mem_cons]
        exact ⟨fun z => z.resolve_left fun q => h q.symm, .inr⟩
      simp only [this]
theorem keyed_drop (ks : List Str) (x : Str) : dropK (keyed ks) (Sum.inr x : Key) = keyed (drop1 ks (some x)) := by
  induction ks with
  | nil => rfl
  | cons k r ih =>
    have e : keyed (k :: r) = (Sum.inr k, V.bl true) :: keyed r := rfl
    rw [e]
    by_cases h : k = x
    · subst h
      rw [dropK_pos rfl, ih]
      simp [drop1]
    · rw [dropK_neg (fun z => h (Sum.inr.inj z)), ih]
      simp [drop1, h, keyed]
theorem keyed_put (ks : List Str) (x : Str) : putK (keyed ks) (Sum.inr x : Key) (.bl true) = keyed (put1 ks x) := by
  by_cases h : x ∈ ks
  · have e : put1 ks x = ks := by simp [put1, h]
    rw [e]
    unfold putK
    have hany : ((keyed ks).any fun kv => decide (kv.1 = (Sum.inr x : Key))) = true := by
      rw [valV_any, keyed_val, if_pos h]; rfl
    rw [if_pos hany]
    unfold keyed
    rw [List.map_map]
    refine List.map_congr_left fun k _ => ?_
    show (if (Sum.inr k : Key) = Sum.inr x then ((Sum.inr k : Key), V.bl true) else (Sum.inr k, V.bl true)) = (Sum.inr k, V.bl true)
    split <;> rfl
  · have e : put1 ks x = ks ++ [x] := by simp [put1, h]
    rw [e, putK_new _ (by rw [keyed_val, if_neg h])]
    simp [keyed]
theorem drop1_not {ks : List Str} {x : Str} (h : ¬ x ∈ ks) : drop1 ks (some x) = ks := by
  simp only [drop1]
  rw [List.filter_eq_self]
  intro y hy
  simp only [decide_eq_true_eq]
  exact fun e => h (e ▸ hy)
theorem drop1_len (ks : List Str) (o : Option Str) : (drop1 ks o).length ≤ ks.length := by
  cases o with
  | none => exact Nat.le_refl _
  | some x => exact List.length_filter_le _ _
theorem put1_len (ks : List Str) (x : Str) : (put1 ks x).length ≤ ks.length + 1 := by
  unfold put1; split
  · omega
  · simp
theorem foldl_take {α β : Type} (f : β → α → β) (l : List α) (i : Nat) (x : α) (b : β) (h : l[i]? = some x) : (l.take (i + 1)).foldl f b = f ((l.take i).foldl f b) x := by
  rw [List.take_add_one, h, List.foldl_append]; rfl
theorem fold_put1_len (us : List Str) (ks : List Str) : (us.foldl put1 ks).length ≤ ks.length + us.length := by
  induction us generalizing ks with
  | nil => simp
  | cons u r ih =>
    have h1 := ih (put1 ks u)
    have h2 := put1_len ks u
    rw [List.foldl_cons, List.length_cons]
    omega
section
variable {P : Program} {w : World} {K : PySem.W.Frag} {mg : Str → Option Value} {base : Heap}
def spRefuse (K : PySem.W.Frag) : Sp := fun vs H Q _ => ∃ a xs rows, vs = [.ref a] ∧ SqL K H a xs ∧ RowsAt H xs rows ∧ Valid rows ∧ rows.length ≤ 1000 ∧ ∀ H', Same H H' → Q .non H'
theorem fd_refuse (B : Blt mg) (D_names_used : Fd P w K mg base 1 "names_used" ["row"] spUsed) (D_name_written : Fd P w K mg base 1 "name_written" ["row"] spWritten) (F : Fn K mg "refuse_unwritten" (top 8)) : Fd P w K mg base 2 "refuse_unwritten" ["rows"] (spRefuse K) := by
  have sc : FnScope ["rows", "written", "number", "row", "name"] ["rows"] (defScope (top 8)) := ⟨rfl, rfl, rfl, by decide +kernel, rfl, by decide +kernel, by decide +kernel⟩
  refine F.fd sc (fun vs H Q E h => ?_) (fun _ _ _ _ _ _ us hl => by obtain ⟨a0, rfl⟩ := us1 hl; rfl) (fun f cdv A outer s H vs Q E hr h => ?_)
  · obtain ⟨a, xs, rows, rfl, _⟩ := h
    rfl
  · obtain ⟨a, xs, rows, rfl, hS, hR, hv, hlen, k⟩ := h
    have hu := hu_of hr
    have hxl : xs.length = rows.length := hR.length
    refine ⟨_, (pss_cons (ps_set (i := 1) sc.nd rfl (Or.inl rfl) pe_dnewK)
    (pss_one (ps_for PassesOwn.never rfl (pi_enum rfl B.enumerate_ (pa_cons (pv 0) pa_nil)) (pg_tup rfl (pgs_cons (pg_name (i := 2) sc.nd rfl (Or.inl rfl)) (pgs_cons (pg_name (i := 3) sc.nd rfl (Or.inl rfl)) pgs_nil))) (pss_cons (ps_for PassesOwn.never rfl (pi_list (pe_fd D_names_used (hr.mono (by decide)) rfl (pa_cons (pv 3) pa_nil))) (pg_name (i := 4) sc.nd rfl (Or.inl rfl)) (pss_one (ps_if (pt_cmp (pc_dnotin hu (pv 4) (pv 1))) (pss_one ps_never) pss_nil)))
      (pss_one (ps_if (pt_cmp (pc_notN (pe_fd D_name_written (hr.mono (by decide)) rfl (pa_cons (pv 3) pa_nil)))) (pss_one (ps_dput hu (pv 1) (pe_fd D_name_written (hr.mono (by decide)) rfl (pa_cons (pv 3) pa_nil)) pe_bl rfl)) pss_nil)))))), ?_⟩
    intro d hd
    refine ⟨_, rfl, a, xs, rfl, (same_upd hd).seq hS, for_enum (K := K) (a := a) (xs := xs) (fun i σ H2 => ∃ kvs v2 v3 v4, σ = [some (.ref a), some (.ref d), v2, v3, v4] ∧ Same H H2 ∧ H2 d = some (.dK kvs) ∧ kvs.length ≤ i ∧
      ∀ q ∈ rows.take i, ∀ x, wr q = some x → (valV kvs (Sum.inr x : Key)).isSome = true)
      ⟨[], none, none, none, rfl, same_upd hd, upd_same, Nat.le_refl _, fun q hq => by simp at hq⟩ (fun i σ H2 _ ⟨_, _, _, _, _, s2, _⟩ => s2.seq hS) ?_ ?_⟩
    · rintro i x p σ H2 hi hp ⟨kvs, v2, v3, v4, rfl, s2, hd2, hk2, hw2⟩
      obtain ⟨r, hr', ra, rfl, hra⟩ := paired_get hR hi
      have hlt : i < rows.length := (List.getElem?_eq_some_iff.mp hr').1
      have npd : p ≠ d := fun e => by rw [e, hd2] at hp; cases hp
      have s3 : Same H (upd H2 p (.tup [.int i, .ref ra])) := fun b o e => by rw [upd_ne (s2.ne e hp)]; exact s2 b o e
      have hd3 : (upd H2 p (.tup [.int i, .ref ra])) d = some (.dK kvs) := by rw [upd_ne npd.symm]; exact hd2
      refine ⟨p, _, rfl, SqT.of upd_same, rfl, _, _, rfl, _, _, rfl, rfl, ?_⟩
      generalize upd H2 p (.tup [.int i, .ref ra]) = H3 at s3 hd3
      refine ⟨_, rfl, ra, r, rfl, s3 ra _ hra, fun l hl => ⟨l, rfl, ⟨_, SqL.of upd_same⟩, for_list (K := K) (a := l) (xs := (uses1 r).map V.str) (fun j σ H4 => ∃ v4, σ = [some (.ref a), some (.ref d), some (.int i), some (.ref ra), v4] ∧ H4 = upd H3 l (.lst ((uses1 r).map V.str)))
        ⟨v4, rfl, rfl⟩ (fun j σ H4 _ ⟨_, _, e⟩ => by rw [e]; exact SqL.of upd_same) ?_ ?_⟩⟩
      · rintro j y σ H4 hj ⟨v, rfl, rfl⟩
        have nld : d ≠ l := ne_of_none hd3 hl
        rw [List.getElem?_map] at hj
        cases ej : (uses1 r)[j]? with
        | none => rw [ej] at hj; cases hj
        | some nm =>
          rw [ej] at hj
          obtain rfl : V.str nm = y := Option.some.inj hj
          have hmem : nm ∈ uses r := mem_uses1.mp (List.mem_of_getElem? ej)
          obtain ⟨q, hq, hwq⟩ := hv i r hr' nm hmem
          have hsome := hw2 q hq nm hwq
          refine ⟨_, rfl, _, rfl, d, _, rfl, DGet.k (k := Sum.inr nm) (by rw [upd_ne nld]; exact hd3), _, rfl, ifB (by rw [hsome]; rfl) ?_⟩
          exact ⟨_, rfl, rfl⟩
      · rintro σ H4 ⟨v, rfl, rfl⟩
        have nld : d ≠ l := ne_of_none hd3 hl
        have s4 : Same H (upd H3 l (.lst ((uses1 r).map V.str))) := fun b o e => by rw [upd_ne (s3.ne e hl)]; exact s3 b o e
        have hd4 : (upd H3 l (.lst ((uses1 r).map V.str))) d = some (.dK kvs) := by rw [upd_ne nld]; exact hd3
        generalize upd H3 l (.lst ((uses1 r).map V.str)) = H4 at s4 hd4
        have htk : rows.take (i + 1) = rows.take i ++ [r] := by rw [List.take_add_one, hr']; rfl
        refine ⟨_, rfl, ra, r, rfl, s4 ra _ hra, fun v hv' => ?_⟩
        cases hw : wr r with
        | none =>
          rw [hw] at hv'
          refine ⟨_, rfl, ifN (by rw [hv']; rfl) ?_⟩
          refine ⟨kvs, _, _, _, rfl, s4, hd4, by omega, fun q hq x hx => ?_⟩
          rw [htk] at hq
          rcases List.mem_append.mp hq with z | z
          · exact hw2 q z x hx
          · rw [List.mem_singleton.mp z, hw] at hx; cases hx
        | some x0 =>
          rw [hw] at hv'
          refine ⟨_, rfl, itN (by rw [hv']; intro z; cases z) ?_⟩
          refine ⟨_, rfl, _, rfl, ra, r, rfl, s4 ra _ hra, fun v2 hv2 => ?_⟩
          rw [hw] at hv2
          subst hv2
          have hlen2 : kvs.length < PySem.sizeLine := small1000 (by omega)
          refine ⟨d, _, rfl, DPut.k (k := Sum.inr x0) hd4 hlen2, ?_⟩
          refine ⟨putK kvs (Sum.inr x0) (.bl true), _, _, _, rfl, fun b o e => ?_, upd_same, ?_, fun q hq x hx => ?_⟩
          · rw [upd_ne (fun z => by rw [z, hd] at e; cases e)]; exact s4 b o e
          · have := length_putK kvs (Sum.inr x0 : Key) (.bl true); omega
          · rw [valV_put]
            by_cases e : (Sum.inr x : Key) = Sum.inr x0
            · rw [if_pos e]; rfl
            · rw [if_neg e]
              rw [htk] at hq
              rcases List.mem_append.mp hq with z | z
              · exact hw2 q z x hx
              · rw [List.mem_singleton.mp z, hw] at hx
                exact absurd (by rw [Option.some.inj hx]) e
    · rintro σ H2 ⟨kvs, v2, v3, v4, rfl, s2, _⟩
      exact k H2 s2
def spAhead : Sp := fun vs H Q _ => ∃ a d r ks, vs = [.ref a, .ref d] ∧ H a = some (.tup (rowV r)) ∧ H d = some (.dK (keyed ks)) ∧ ks.length ≤ 900 ∧
  ∀ p H', H p = none → Same H H' → H' p = some (.dK (keyed (ahead r ks))) → Q (.ref p) H'
theorem fd_ahead (B : Blt mg) (D_names_used : Fd P w K mg base 1 "names_used" ["row"] spUsed) (D_name_written : Fd P w K mg base 1 "name_written" ["row"] spWritten) (F : Fn K mg "needed_ahead" (top 11)) : Fd P w K mg base 2 "needed_ahead" ["row", "needed"] spAhead := by
  have sc : FnScope ["row", "needed", "ahead", "name"] ["row", "needed"] (defScope (top 11)) := ⟨rfl, rfl, rfl, by decide +kernel, rfl, by decide +kernel, by decide +kernel⟩
  refine F.fd sc (fun vs H Q E h => ?_) (fun _ _ _ _ _ _ us hl => by obtain ⟨a0, a1, rfl⟩ := us2 hl; rfl) (fun f cdv A outer s H vs Q E hr h => ?_)
  · obtain ⟨a, d, r, ks, rfl, _⟩ := h
    rfl
  · obtain ⟨a, d, r, ks, rfl, ha, hd, hlen, k⟩ := h
    have hu := hu_of hr
    refine ⟨_, (pss_cons (ps_set (i := 2) sc.nd rfl (Or.inl rfl) (pe_callTy call_dictOf rfl B.dict_ bt_dict (pa_cons (pv 1) pa_nil)))
    (pss_cons (ps_if (pt_cmp (pc_notN (pe_fd D_name_written (hr.mono (by decide)) rfl (pa_cons (pv 0) pa_nil)))) (pss_one (ps_expr (pe_dpop2 (pv 2) (pe_fd D_name_written (hr.mono (by decide)) rfl (pa_cons (pv 0) pa_nil)) pe_non ⟨rfl, rfl, rfl, rfl⟩))) pss_nil)
    (pss_cons (ps_for PassesOwn.never rfl (pi_list (pe_fd D_names_used (hr.mono (by decide)) rfl (pa_cons (pv 0) pa_nil))) (pg_name (i := 3) sc.nd rfl (Or.inl rfl)) (pss_one (ps_dput hu (pv 2) (pv 3) pe_bl rfl)))
    (pss_one (ps_ret (pv 2)))))), ?_⟩
    refine ⟨_, rfl, d, _, rfl, hd, fun p hp => ?_⟩
    have s1 : Same H (upd H p (.dK (keyed ks))) := same_upd hp
    have rest : ∀ H2 : Hp, Same H H2 → H2 p = some (.dK (keyed (drop1 ks (wr r)))) →
        (tSeq (tFor (iList K (tCall spUsed [] E0 (tCons (tVar 0) tNil))) (gName 3) (sDPut (tVar 2) (tVar 3) (tC (.bl true)))) (tRet (tVar 2))) { nx := fun _ H' => Q .non H', rt := Q } [some (.ref a), some (.ref d), some (.ref p), none] H2 := by
      intro H2 s2 hp2
      refine ⟨_, rfl, a, r, rfl, s2 a _ ha, fun l hl => ⟨l, rfl, ⟨_, SqL.of upd_same⟩, for_list (K := K) (a := l) (xs := (uses1 r).map V.str) (fun j σ H3 => ∃ v3, σ = [some (.ref a), some (.ref d), some (.ref p), v3] ∧ Same H H3 ∧ H3 l = some (.lst ((uses1 r).map V.str)) ∧
        H3 p = some (.dK (keyed (((uses1 r).take j).foldl put1 (drop1 ks (wr r))))))
        ⟨none, rfl, fun b o e => by rw [upd_ne (s2.ne e hl)]; exact s2 b o e, upd_same, by rw [upd_ne (ne_of_none hp2 hl)]; exact hp2⟩ (fun j σ H3 _ ⟨_, _, _, e, _⟩ => SqL.of e) ?_ ?_⟩⟩
      · rintro j y σ H3 hj ⟨v, rfl, s3, hl3, hp3⟩
        have npl : p ≠ l := ne_of hp3 hl3 (by intro z; cases z)
        rw [List.getElem?_map] at hj
        cases ej : (uses1 r)[j]? with
        | none => rw [ej] at hj; cases hj
        | some nm =>
          rw [ej] at hj
          obtain rfl : V.str nm = y := Option.some.inj hj
          have hl3' : (keyed (((uses1 r).take j).foldl put1 (drop1 ks (wr r)))).length < PySem.sizeLine := by
            rw [keyed_len]
            refine small1000 ?_
            have h1 := fold_put1_len ((uses1 r).take j) (drop1 ks (wr r))
            have h2 := drop1_len ks (wr r)
            have h3 : ((uses1 r).take j).length ≤ 2 := by
              refine Nat.le_trans (List.length_take_le' ..) ?_
              cases r with
              | op o n x y => by_cases e : x = y <;> simp [uses1, e]
              | _ => simp [uses1]
            omega
          refine ⟨_, rfl, _, rfl, p, _, rfl, DPut.k (k := Sum.inr nm) hp3 hl3', ?_⟩
          refine ⟨_, rfl, fun b o e => ?_, by rw [upd_ne npl.symm]; exact hl3, ?_⟩
          · rw [upd_ne (ne_of_none e hp)]; exact s3 b o e
          · rw [upd_same, keyed_put, foldl_take _ _ _ _ _ ej]
      · rintro σ H3 ⟨v, rfl, s3, hl3, hp3⟩
        refine ⟨_, rfl, k p H3 hp s3 ?_⟩
        rw [List.length_map, List.take_length] at hp3
        exact hp3
    refine ⟨_, rfl, a, r, rfl, s1 a _ ha, fun v hv => ?_⟩
    cases hw : wr r with
    | none =>
      rw [hw] at hv
      refine ⟨_, rfl, ifN (by rw [hv]; rfl) ?_⟩
      refine rest _ s1 ?_
      rw [upd_same, hw]; rfl
    | some x0 =>
      rw [hw] at hv
      refine ⟨_, rfl, itN (by rw [hv]; intro z; cases z) ?_⟩
      refine ⟨_, rfl, p, rfl, .inl ⟨_, Rd.of upd_same⟩, _, rfl, a, r, rfl, s1 a _ ha, fun v2 hv2 => ?_⟩
      rw [hw] at hv2
      subst hv2
      refine ⟨keyed ks, Sum.inr x0, upd_same, rfl, fun v3 _ => ?_, fun hn => ?_⟩
      · refine rest _ (fun b o e => by rw [upd_ne (ne_of_none e hp)]; exact s1 b o e) ?_
        rw [upd_same, keyed_drop, hw]
      · refine rest _ s1 ?_
        have hx : ¬ x0 ∈ ks := fun z => by rw [keyed_val, if_pos z] at hn; cases hn
        rw [upd_same, hw, drop1_not hx]
end
end Fp
namespace Fp
open PySem L2
def StrsAt (H : Hp) (v : V) (l : List Str) : Prop := ∃ b, v = .ref b ∧ H b = some (.lst (l.map V.str))
theorem StrsAt.same {H H' : Hp} (e : Same H H') {v : V} {l : List Str} (h : StrsAt H v l) : StrsAt H' v l := let ⟨b, x, y⟩ := h; ⟨b, x, e b _ y⟩
def Told (rows : List Row) (ls : List (List Str)) : Prop := ls.length = rows.length ∧ ∀ k l, ls[k]? = some l → NeedAt rows k l
theorem Told.uniq {rows : List Row} {a b : List (List Str)} (ha : Told rows a) (hb : Told rows b) : a = b := by
  refine List.ext_getElem? fun k => ?_
  cases e : a[k]? with
  | none =>
    have h1 : a.length ≤ k := List.getElem?_eq_none_iff.mp e
    rw [List.getElem?_eq_none_iff.mpr (by rw [hb.1, ← ha.1]; exact h1)]
  | some l =>
    have h1 : k < a.length := (List.getElem?_eq_some_iff.mp e).1
    have h2 : k < b.length := by rw [hb.1, ← ha.1]; exact h1
    have e2 : b[k]? = some b[k] := List.getElem?_eq_getElem h2
    rw [e2, (ha.2 k l e).uniq (hb.2 k _ e2)]
section
variable {P : Program} {w : World} {K : PySem.W.Frag} {mg : Str → Option Value} {base : Heap}
def spLiving (K : PySem.W.Frag) : Sp := fun vs H Q _ => ∃ a xs rows ns, vs = [.ref a] ∧ SqL K H a xs ∧ RowsAt H xs rows ∧ Valid rows ∧ Among ns rows ∧ ns.length ≤ 60 ∧ rows.length ≤ 1000 ∧
  ∀ p ys ls H', Same H H' → H' p = some (.lst ys) → Paired (StrsAt H') ys ls → Told rows ls → Q (.ref p) H'
theorem fd_living (B : Blt mg) (D_refuse_unwritten : Fd P w K mg base 2 "refuse_unwritten" ["rows"] (spRefuse K)) (D_needed_ahead : Fd P w K mg base 2 "needed_ahead" ["row", "needed"] spAhead) (F : Fn K mg "living" (top 10)) : Fd P w K mg base 3 "living" ["rows"] (spLiving K) := by
  have sc : FnScope ["rows", "needed", "behind", "row"] ["rows"] (defScope (top 10)) := ⟨rfl, rfl, rfl, by decide +kernel, rfl, by decide +kernel, by decide +kernel⟩
  refine F.fd sc (fun vs H Q E h => ?_) (fun _ _ _ _ _ _ us hl => by obtain ⟨a0, rfl⟩ := us1 hl; rfl) (fun f cdv A outer s H vs Q E hr h => ?_)
  · obtain ⟨a, xs, rows, ns, rfl, _⟩ := h
    rfl
  · obtain ⟨a, xs, rows, ns, rfl, hS, hR, hv, ham, hns, hlen, k⟩ := h
    have hxl : xs.length = rows.length := hR.length
    refine ⟨_, (pss_cons (ps_expr (pe_fd D_refuse_unwritten (hr.mono (by decide)) rfl (pa_cons (pv 0) pa_nil)))
    (pss_cons (ps_set (i := 1) sc.nd rfl (Or.inl rfl) pe_dnewK)
    (pss_cons (ps_set (i := 2) sc.nd rfl (Or.inl rfl) (pe_lst pa_nil))
    (pss_cons (ps_for PassesOwn.never rfl (pi_rev rfl B.reversed_ (pa_cons (pv 0) pa_nil)) (pg_name (i := 3) sc.nd rfl (Or.inl rfl)) (pss_cons (ps_expr (pe_bm PySem.F.plainAttrs_list PySem.F.slot_list_append PySem.F.type_list_append mt_append (pv 2) (pa_cons (pe_callB (call_sortedD hr.hd) rfl B.sorted_ bt_sorted (pa_cons (pv 1) pa_nil)) pa_nil)))
      (pss_one (ps_set (i := 1) sc.nd rfl (Or.inl rfl) (pe_fd D_needed_ahead (hr.mono (by decide)) rfl (pa_cons (pv 3) (pa_cons (pv 1) pa_nil)))))))
    (pss_cons (ps_expr (pe_bm0 PySem.F.plainAttrs_list PySem.F.slot_list_reverse PySem.F.type_list_reverse mt_reverse (pv 2)))
    (pss_one (ps_ret (pv 2)))))))), ?_⟩
    refine ⟨_, rfl, a, xs, rows, rfl, hS, hR, hv, hlen, fun H1 s1 => ?_⟩
    intro d hd
    refine ⟨by decide, fun l hl => ?_⟩
    have hd0 : H d = none := s1.free hd
    have sd : Same H (upd H1 d (.dK [])) := s1.upd hd0
    have hl0 : H l = none := sd.free hl
    refine ⟨_, rfl, a, xs, rfl, (sd.upd hl0).seq hS, for_rev (K := K) (a := a) (xs := xs) (fun i σ H2 => ∃ dd ks ys ls v3, σ = [some (.ref a), some (.ref dd), some (.ref l), v3] ∧ Same H H2 ∧ H2 dd = some (.dK (keyed ks)) ∧ Keys (rows.drop (rows.length - i)) ks ∧
      H2 l = some (.lst ys) ∧ Paired (fun v m => ∃ b, v = .ref b ∧ b ≠ l ∧ H2 b = some (.lst (m.map V.str))) ys ls ∧ ls.length = i ∧ ∀ j m, ls[j]? = some m → NeedAt rows (rows.length - 1 - j) m) ?_ (fun i σ H2 _ ⟨_, _, _, _, _, _, s2, _⟩ => s2.seq hS) ?_ ?_⟩
    · have ndl : d ≠ l := ne_of_none upd_same hl
      refine ⟨d, [], [], [], none, rfl, sd.upd hl0, by rw [upd_ne ndl, upd_same]; rfl, ?_, upd_same, .nil, rfl, fun j m e => by simp at e⟩
      rw [Nat.sub_zero, List.drop_length]; exact keys_nil
    · rintro i x σ H2 hi hx ⟨dd, ks, ys, ls, v3, rfl, s2, hdd, hK, hl2, hP, hll, hN⟩
      rw [hxl] at hx hi
      obtain ⟨r, hr', ra, rfl, hra⟩ := paired_get hR hx
      have hyl : ys.length = i := by rw [hP.length]; exact hll
      have hkl : ks.length ≤ 60 := Nat.le_trans (keys_len hK (ham.drop _)) hns
      have ndl : dd ≠ l := ne_of hdd hl2 (by intro z; cases z)
      refine ⟨_, rfl, .inl ⟨rfl, _, SqL.of hl2⟩, _, rfl, dd, _, ks, rfl, hdd, keyed_keys ks, by omega, fun b ss' hb hp hs => ?_⟩
      have nbl : l ≠ b := ne_of_none hl2 hb
      refine ⟨l, ys, .ref b, rfl, rfl, by rw [upd_ne nbl]; exact hl2, small1000 (by omega), ?_⟩
      have s3 : Same H (upd (upd H2 b (.lst (ss'.map V.str))) l (.lst (ys ++ [.ref b]))) := fun c o e => by
        rw [upd_ne (ne_of_none e hl0), upd_ne (s2.ne e hb)]; exact s2 c o e
      have hdd3 : (upd (upd H2 b (.lst (ss'.map V.str))) l (.lst (ys ++ [.ref b]))) dd = some (.dK (keyed ks)) := by
        rw [upd_ne ndl, upd_ne (ne_of_none hdd hb)]; exact hdd
      have hP3 : Paired (fun v m => ∃ c, v = .ref c ∧ c ≠ l ∧ (upd (upd H2 b (.lst (ss'.map V.str))) l (.lst (ys ++ [.ref b]))) c = some (.lst (m.map V.str))) (ys ++ [.ref b]) (ls ++ [ss']) := by
        refine paired_append (Paired.mapP hP fun v m ⟨c, e1, e2, e3⟩ => ⟨c, e1, e2, ?_⟩) (.cons ⟨b, rfl, nbl.symm, ?_⟩ .nil)
        · rw [upd_ne e2, upd_ne (ne_of_none e3 hb)]; exact e3
        · rw [upd_ne nbl.symm, upd_same]
      have hl3 : (upd (upd H2 b (.lst (ss'.map V.str))) l (.lst (ys ++ [.ref b]))) l = some (.lst (ys ++ [.ref b])) := upd_same
      generalize upd (upd H2 b (.lst (ss'.map V.str))) l (.lst (ys ++ [.ref b])) = H3 at s3 hdd3 hP3 hl3
      refine ⟨_, rfl, _, rfl, ra, dd, r, ks, rfl, s3 ra _ hra, hdd3, by omega, fun p H4 hp4 s4 hd4 => ?_⟩
      refine ⟨p, ahead r ks, ys ++ [.ref b], ls ++ [ss'], _, rfl, s3.trans s4, hd4, ?_, s4 l _ hl3, Paired.mapP hP3 fun v m ⟨c, e1, e2, e3⟩ => ⟨c, e1, e2, s4 c _ e3⟩, by simp [hll], fun j m e => ?_⟩
      · have e1 : rows.length - (i + 1) = rows.length - 1 - i := by omega
        have e2 : rows.drop (rows.length - 1 - i) = r :: rows.drop (rows.length - i) := by
          have h3 : rows.length - 1 - i < rows.length := by omega
          rw [List.drop_eq_getElem_cons h3]
          congr 1
          · rw [List.getElem?_eq_getElem h3] at hr'
            exact Option.some.inj hr'
          · congr 1; omega
        rw [e1, e2]
        exact keys_cons hK
      · by_cases hj : j < ls.length
        · rw [List.getElem?_append_left hj] at e
          exact hN j m e
        · rw [List.getElem?_append_right (Nat.le_of_not_lt hj)] at e
          cases q : j - ls.length with
          | succ z => rw [q] at e; simp at e
          | zero =>
            rw [q] at e
            have em : ss' = m := by simpa using e
            subst em
            have ej : j = i := by omega
            subst ej
            refine needAt_of_keys (ks := ks) ?_ hs hp
            have : rows.length - 1 - j + 1 = rows.length - j := by omega
            rw [this]; exact hK
    · rintro σ H2 ⟨dd, ks, ys, ls, v3, rfl, s2, hdd, hK, hl2, hP, hll, hN⟩
      refine ⟨_, rfl, .inl ⟨rfl, _, SqL.of hl2⟩, l, ys, rfl, rfl, hl2, _, rfl, ?_⟩
      have rev : ∀ {F : V → List Str → Prop} {a : List V} {b : List (List Str)}, Paired F a b → Paired F a.reverse b.reverse := by
        intro F a b h
        induction h with
        | nil => exact .nil
        | cons q _ ih => rw [List.reverse_cons, List.reverse_cons]; exact paired_append ih (.cons q .nil)
      refine k l ys.reverse ls.reverse _ (fun c o e => by rw [upd_ne (ne_of_none e hl0)]; exact s2 c o e) upd_same (rev (Paired.mapP hP fun v m ⟨c, e1, e2, e3⟩ => ⟨c, e1, by rw [upd_ne e2]; exact e3⟩)) ⟨by rw [List.length_reverse, hll, hxl], fun j m e => ?_⟩
      have hj : j < ls.length := by
        have := (List.getElem?_eq_some_iff.mp e).1
        rwa [List.length_reverse] at this
      rw [List.getElem?_reverse hj] at e
      have := hN _ m e
      have ej : rows.length - 1 - (ls.length - 1 - j) = j := by omega
      rw [ej] at this
      exact this
end
end Fp
namespace Fp
open PySem L2
theorem b01 (b : Bool) : -(2 ^ 63) ≤ (if b = true then (1 : Int) else 0) ∧ (if b = true then (1 : Int) else 0) < 2 ^ 63 := by cases b <;> decide
section
variable {K : PySem.W.Frag}
theorem k_int_int : PySem.W.kitOne K (.type "int") (.type "int") = some true := by rfl
theorem k_int_bool : PySem.W.kitOne K (.type "int") (.type "bool") = some false := by rfl
theorem k_str_str : PySem.W.kitOne K (.type "str") (.type "str") = some true := by rfl
theorem k_list_list : PySem.W.kitOne K (.type "list") (.type "list") = some true := by rfl
theorem k_tuple_tuple : PySem.W.kitOne K (.type "tuple") (.type "tuple") = some true := by rfl
end
section
variable {P : Program} {w : World} {K : PySem.W.Frag} {mg : Str → Option Value} {base : Heap}
def spWhole : Sp := fun vs H Q _ => ∃ i, vs = [.int i] ∧ Q (.bl true) H
theorem fd_whole (B : Blt mg) (F : Fn K mg "_law_whole" (top 28)) : Fd P w K mg base 1 "_law_whole" ["_law_found"] spWhole := by
  have sc : FnScope ["_law_found"] ["_law_found"] (defScope (top 28)) := ⟨rfl, rfl, rfl, by decide +kernel, rfl, by decide +kernel, by decide +kernel⟩
  refine F.fd sc (fun vs H Q E h => ?_) (fun _ _ _ _ _ _ us hl => by obtain ⟨a0, rfl⟩ := us1 hl; rfl) (fun f cdv A outer s H vs Q E hr h => ?_)
  · obtain ⟨i, rfl, _⟩ := h
    rfl
  · obtain ⟨i, rfl, k⟩ := h
    refine ⟨_, (pss_one (ps_ret (pe_and (pe_callB call_isin rfl B.isinstance_ bt_isinstance (pa_cons (pv 0) (pa_cons (pe_bltn (v := .ty "int") rfl B.int_ bt_int rfl) pa_nil))) (pe_one (pe_not (pe_callB call_isin rfl B.isinstance_ bt_isinstance (pa_cons (pv 0) (pa_cons (pe_bltn (v := .ty "bool") rfl B.bool_ bt_bool rfl) pa_nil)))))))), ?_⟩
    exact ⟨_, rfl, _, _, _, _, rfl, .int i, k_int_int, _, rfl, itB rfl ⟨_, rfl, _, _, _, _, rfl, .int i, k_int_bool, _, rfl, k⟩⟩
def spAt (K : PySem.W.Frag) : Sp := fun vs H Q _ => ∃ (a : Addr) (z : Int) (ns : List Int), vs = [.ref a, .int z] ∧ SqL K H a (ns.map V.int) ∧ 0 ≤ z ∧ Q (.int (ns.getD z.toNat 0)) H
theorem fd_at (B : Blt mg) (F : Fn K mg "_law_at" (top 29)) : Fd P w K mg base 1 "_law_at" ["_law_script", "_law_k"] (spAt K) := by
  have sc : FnScope ["_law_script", "_law_k"] ["_law_script", "_law_k"] (defScope (top 29)) := ⟨rfl, rfl, rfl, by decide +kernel, rfl, by decide +kernel, by decide +kernel⟩
  refine F.fd sc (fun vs H Q E h => ?_) (fun _ _ _ _ _ _ us hl => by obtain ⟨a0, a1, rfl⟩ := us2 hl; rfl) (fun f cdv A outer s H vs Q E hr h => ?_)
  · obtain ⟨a, z, ns, rfl, _⟩ := h
    rfl
  · obtain ⟨a, z, ns, rfl, hS, hz, k⟩ := h
    refine ⟨_, (pss_cons (ps_if (pt_cmpR op_lt (pv 1) (pe_callB call_len_seq rfl B.len_ PySem.boot_len (pa_cons (pv 0) pa_nil)) (nomark _)) (pss_one (ps_ret (pe_ix ix_list (pv 0) (pv 1) (fun _ _ => rfl)))) pss_nil)
    (pss_one (ps_ret pe_int))), ?_⟩
    refine ⟨_, rfl, _, rfl, a, _, rfl, .inl hS, _, _, rfl, rfl, _, rfl, ?_⟩
    rw [List.length_map]
    by_cases hlt : z < (ns.length : Int)
    · refine itD hlt ?_
      have h1 : z.toNat < ns.length := by omega
      have h2 : ((z.toNat : Nat) : Int) = z := Int.toNat_of_nonneg hz
      have key : atI (ns.map V.int) ((z.toNat : Nat) : Int) = some (.int (ns.getD z.toNat 0)) := by
        refine atI_nat ?_
        rw [List.getElem?_map, List.getElem?_eq_getElem h1, List.getD_eq_getElem?_getD, List.getElem?_eq_getElem h1]
        rfl
      rw [h2] at key
      exact ⟨_, rfl, _, rfl, a, _, _, .int (ns.getD z.toNat 0), rfl, rfl, hS, key, k⟩
    · refine ifD hlt ?_
      have h1 : ns.getD z.toNat 0 = 0 := by
        rw [List.getD_eq_getElem?_getD, List.getElem?_eq_none_iff.mpr (by omega)]; rfl
      rw [h1] at k
      exact k
def spRoom (K : PySem.W.Frag) : Sp := fun vs H Q _ => ∃ a m b xs, vs = [.ref a, .int m, .int b] ∧ SqL K H a xs ∧ xs.length ≤ 63 ∧ Q (.int m) H
theorem fd_room (B : Blt mg) (F : Fn K mg "_law_room_for" (top 46)) : Fd P w K mg base 1 "_law_room_for" ["_law_script", "_law_most", "_law_bound"] (spRoom K) := by
  have sc : FnScope ["_law_script", "_law_most", "_law_bound"] ["_law_script", "_law_most", "_law_bound"] (defScope (top 46)) := ⟨rfl, rfl, rfl, by decide +kernel, rfl, by decide +kernel, by decide +kernel⟩
  refine F.fd sc (fun vs H Q E h => ?_) (fun _ _ _ _ _ _ us hl => by obtain ⟨a0, a1, a2, rfl⟩ := us3 hl; rfl) (fun f cdv A outer s H vs Q E hr h => ?_)
  · obtain ⟨a, m, b, xs, rfl, _⟩ := h
    rfl
  · obtain ⟨a, m, b, xs, rfl, hS, hl, k⟩ := h
    refine ⟨_, (pss_cons (ps_if (pt_cmpR op_gt (pe_callB call_len_seq rfl B.len_ PySem.boot_len (pa_cons (pv 0) pa_nil)) pe_int (nomark _)) (pss_one (ps_ret (pv 2))) pss_nil)
    (pss_one (ps_ret (pv 1)))), ?_⟩
    refine ⟨_, rfl, a, _, rfl, .inl hS, _, _, rfl, rfl, _, rfl, ifD (by omega) ?_⟩
    exact ⟨_, rfl, k⟩
def spUses : Sp := fun vs H Q _ => ∃ a r, vs = [.ref a] ∧ H a = some (.tup (rowV r)) ∧ ∀ p H', H p = none → Same H H' → H' p = some (.lst ((uses r).map V.str)) → Q (.ref p) H'
theorem fd_uses (B : Blt mg) (F : Fn K mg "_law_uses" (top 33)) : Fd P w K mg base 1 "_law_uses" ["_law_row"] spUses := by
  have sc : FnScope ["_law_row"] ["_law_row"] (defScope (top 33)) := ⟨rfl, rfl, rfl, by decide +kernel, rfl, by decide +kernel, by decide +kernel⟩
  refine F.fd sc (fun vs H Q E h => ?_) (fun _ _ _ _ _ _ us hl => by obtain ⟨a0, rfl⟩ := us1 hl; rfl) (fun f cdv A outer s H vs Q E hr h => ?_)
  · obtain ⟨a, r, rfl, _⟩ := h
    rfl
  · obtain ⟨a, r, rfl, ha, k⟩ := h
    have hT : SqT K H a (rowV r) := SqT.of ha
    refine ⟨_, (pss_cons (ps_if (pt_cmpR op_eq (pe_ix ix_tup (pv 0) pe_int (fun _ _ => rfl)) pe_str (nomark _)) (pss_one (ps_ret (pe_lst (pa_cons (pe_ix ix_tup (pv 0) pe_int (fun _ _ => rfl)) pa_nil)))) pss_nil)
    (pss_one (ps_ret (pe_op op_rep (pe_callTy call_list_of rfl B.list_ bt_list (pa_cons (pe_slice sl_tup (pv 0) (po_some pe_int) po_none) pa_nil)) (pe_callTy call_int1 rfl B.int_ bt_int (pa_cons (pe_cmpR op_in_seq (pe_ix ix_tup (pv 0) pe_int (fun _ _ => rfl)) (pe_lst (pa_cons pe_str (pa_cons pe_str (pa_cons pe_str pa_nil)))) (by with_unfolding_all rfl)) pa_nil)))))), ?_⟩
    have rest : ∀ (z : V) (tl : List V) (n : Nat), rowV r = z :: V.str ((wr r).getD "") :: tl → flatV z = true → tl.length = n → z ≠ .str "tell" → (inV z [.str "add", .str "sub", .str "mul"] = true → tl = (uses r).map V.str) → (inV z [.str "add", .str "sub", .str "mul"] = false → (uses r).map V.str = []) →
        (tIfS (tTest (tOp rEq (tOp (rIxT K) (tVar 0) (tC (.int 0))) (tC (.str "tell")))) (tRet (tLst (tCons (tOp (rIxT K) (tVar 0) (tC (.int 1))) tNil))) tNext) { nx := (tRet (tOp rRep (tCB (fun xs H Q => ∃ p ys, xs = [.ref p] ∧ (SqL K H p ys ∨ SqT K H p ys) ∧ ∀ l, H l = none → Q (.ref l) (upd H l (.lst ys))) (tCons (tSl (rSlT K) (tVar 0) (tPart (tC (.int 2))) tNoPart) tNil))
          (tCB (fun xs H Q => (∃ i, xs = [.int i] ∧ Q (.int i) H) ∨ ∃ k, xs = [.bl k] ∧ Q (.int (if k then 1 else 0)) H) (tCons (tOp (rIn K false) (tOp (rIxT K) (tVar 0) (tC (.int 0))) (tLst (tCons (tC (.str "add")) (tCons (tC (.str "sub")) (tCons (tC (.str "mul")) tNil))))) tNil)))) { nx := fun _ H' => Q .non H', rt := Q }, rt := Q } [some (.ref a)] H := by
      intro z tl n er hf hn hz h1 h2
      rw [er] at hT
      refine ⟨_, rfl, a, _, _, _, rfl, rfl, hT, at0, ?_, _, rfl, ifD hz ?_⟩
      · cases z <;> first | rfl | cases hf
      have hcut : cutV (z :: V.str ((wr r).getD "") :: tl) (some 2) none = tl := by
        have e1 : HT.sIx (z :: V.str ((wr r).getD "") :: tl).length 0 (some 2) = 2 := by
          have := HT.sIx_nat (z :: V.str ((wr r).getD "") :: tl).length 0 2
          rw [List.length_cons, List.length_cons] at this ⊢
          have e : min 2 (tl.length + 1 + 1) = 2 := by omega
          rw [e] at this
          exact this
        unfold cutV
        rw [e1, HT.sIx_none]
        show (tl.take _) = tl
        rw [List.take_of_length_le]
        simp only [List.length_cons]; omega
      refine ⟨_, rfl, _, rfl, a, _, rfl, hT, fun q => ?_, fun t ht => ?_⟩
      · have := HT.sIx_nat (z :: V.str ((wr r).getD "") :: tl).length 0 2
        have e : HT.sIx (z :: V.str ((wr r).getD "") :: tl).length 0 (some 2) = min 2 (tl.length + 2) := this
        rw [e] at q
        omega
      rw [hcut]
      refine ⟨t, tl, rfl, .inr (SqT.of upd_same), fun l hl => ?_⟩
      have nta : a ≠ t := ne_of_none ha ht
      have ha2 : (upd (upd H t (.tup tl)) l (.lst tl)) a = some (.tup (rowV r)) := by
        rw [upd_ne (ne_of_none (by rw [upd_ne nta]; exact ha) hl), upd_ne nta]; exact ha
      have s2 : Same H (upd (upd H t (.tup tl)) l (.lst tl)) := fun b o e => by
        rw [upd_ne (ne_of_none (by rw [upd_ne (ne_of_none e ht)]; exact e) hl), upd_ne (ne_of_none e ht)]; exact e
      have hl2 : (upd (upd H t (.tup tl)) l (.lst tl)) l = some (.lst tl) := upd_same
      generalize upd (upd H t (.tup tl)) l (.lst tl) = H2 at ha2 s2 hl2
      rw [er] at ha2
      refine ⟨_, rfl, a, _, _, _, rfl, rfl, SqT.of ha2, at0, by decide, fun m hm => ?_⟩
      refine ⟨m, _, rfl, .inl (SqL.of upd_same), hf, rfl, .inr ⟨_, rfl, ?_⟩⟩
      have nml : l ≠ m := ne_of_none hl2 hm
      have hl3 : (upd H2 m (.lst [.str "add", .str "sub", .str "mul"])) l = some (.lst tl) := by rw [upd_ne nml]; exact hl2
      have s3 : Same H (upd H2 m (.lst [.str "add", .str "sub", .str "mul"])) := fun b o e => by rw [upd_ne (s2.ne e hm)]; exact s2 b o e
      refine ⟨l, _, tl, rfl, rfl, hl3, ?_, ?_, ?_, fun p hp => k p _ (s3.free hp) (fun b o e => by rw [upd_ne (s3.ne e hp)]; exact s3 b o e) ?_⟩
      · exact (b01 _).1
      · exact (b01 _).2
      · have : tl.length ≤ 2 := by
          have e : (rowV r).length ≤ 4 := by cases r <;> simp [rowV]
          rw [er] at e; simp only [List.length_cons] at e; omega
        have e2 : ∀ b : Bool, tl.length * (if b then (1 : Int) else 0).toNat ≤ 2 := fun b => by cases b <;> simp <;> omega
        refine Nat.le_trans (e2 _) (by decide)
      · rw [upd_same]
        congr 2
        cases hb : inV z [.str "add", .str "sub", .str "mul"] with
        | true =>
          rw [← h1 hb]
          simp
        | false =>
          rw [h2 hb]
          simp
    cases r with
    | tell n =>
      refine ⟨_, rfl, a, _, _, _, rfl, rfl, hT, at0, rfl, _, rfl, itD rfl ?_⟩
      exact ⟨_, rfl, a, _, _, _, rfl, rfl, hT, at1, lk 1, fun p hp => k p _ hp (same_upd hp) upd_same⟩
    | set n z => exact rest (.str "set") [.int z] 1 rfl rfl rfl (by decide +kernel) (fun h => absurd h (by decide +kernel)) (fun _ => rfl)
    | take n => exact rest (.str "take") [] 0 rfl rfl rfl (by decide +kernel) (fun h => absurd h (by decide +kernel)) (fun _ => rfl)
    | op o n x y => exact rest (.str (word o)) [.str x, .str y] 2 rfl rfl rfl (by cases o <;> decide +kernel) (fun _ => rfl) (fun h => absurd h (by cases o <;> decide +kernel))
def spWrites : Sp := fun vs H Q _ => ∃ a r x, vs = [.ref a, .str x] ∧ H a = some (.tup (rowV r)) ∧ Q (.bl (decide (wr r = some x))) H
theorem fd_writes (F : Fn K mg "_law_writes" (top 34)) : Fd P w K mg base 1 "_law_writes" ["_law_row", "_law_name"] spWrites := by
  have sc : FnScope ["_law_row", "_law_name"] ["_law_row", "_law_name"] (defScope (top 34)) := ⟨rfl, rfl, rfl, by decide +kernel, rfl, by decide +kernel, by decide +kernel⟩
  refine F.fd sc (fun vs H Q E h => ?_) (fun _ _ _ _ _ _ us hl => by obtain ⟨a0, a1, rfl⟩ := us2 hl; rfl) (fun f cdv A outer s H vs Q E hr h => ?_)
  · obtain ⟨a, r, x, rfl, _⟩ := h
    rfl
  · obtain ⟨a, r, x, rfl, ha, k⟩ := h
    have hT : SqT K H a (rowV r) := SqT.of ha
    refine ⟨_, (pss_one (ps_ret (pe_and (pe_cmpR op_ne (pe_ix ix_tup (pv 0) pe_int (fun _ _ => rfl)) pe_str (nomark _)) (pe_one (pe_cmpR op_eq (pe_ix ix_tup (pv 0) pe_int (fun _ _ => rfl)) (pv 1) (nomark _)))))), ?_⟩
    have e2 : ∀ n : Str, decide (V.str n = V.str x) = decide (some n = some x) := fun n => by
      by_cases e : n = x
      · simp [e]
      · simp [e]
    cases r with
    | tell n => exact ⟨_, rfl, a, _, _, _, rfl, rfl, hT, at0, rfl, _, rfl, ifN rfl (by simpa [wr] using k)⟩
    | set n z => exact ⟨_, rfl, a, _, _, _, rfl, rfl, hT, at0, rfl, _, rfl, itN (by decide +kernel) ⟨_, rfl, a, _, _, _, rfl, rfl, hT, at1, _, rfl, rfl, by rw [e2]; exact k⟩⟩
    | take n => exact ⟨_, rfl, a, _, _, _, rfl, rfl, hT, at0, rfl, _, rfl, itN (by decide +kernel) ⟨_, rfl, a, _, _, _, rfl, rfl, hT, at1, _, rfl, rfl, by rw [e2]; exact k⟩⟩
    | op o n y z => exact ⟨_, rfl, a, _, _, _, rfl, rfl, hT, at0, rfl, _, rfl, itN (by cases o <;> decide +kernel) ⟨_, rfl, a, _, _, _, rfl, rfl, hT, at1, _, rfl, rfl, by rw [e2]; exact k⟩⟩
end
end Fp
namespace Fp
open PySem L2
theorem inV_strs (x : Str) (l : List Str) : inV (.str x) (l.map V.str) = decide (x ∈ l) := by
  induction l with
  | nil => simp [inV]
  | cons y r ih =>
    unfold inV at ih ⊢
    rw [List.map_cons, List.any_cons, ih]
    by_cases e : y = x
    · simp [eqV, e]
    · have e' : ¬ x = y := fun z => e z.symm
      simp [eqV, e, e']
theorem flat_strs (l : List Str) : (l.map V.str).all flatV = true := by simp [flatV]
theorem cut_from {xs : List V} {z : Int} (hz : 0 ≤ z) : cutV xs (some z) none = xs.drop z.toNat := by
  have h2 : ((z.toNat : Nat) : Int) = z := Int.toNat_of_nonneg hz
  have e1 : HT.sIx xs.length 0 (some z) = min z.toNat xs.length := by rw [← h2]; exact HT.sIx_nat _ _ _
  unfold cutV
  rw [e1, HT.sIx_none]
  rcases Nat.le_total z.toNat xs.length with h | h
  · rw [Nat.min_eq_left h, List.take_of_length_le (by rw [List.length_drop]; exact Nat.le_refl _)]
  · rw [Nat.min_eq_right h, List.drop_of_length_le h, List.drop_of_length_le (Nat.le_refl _), List.take_nil]
theorem cut_to {xs : List V} {z : Int} (hz : 0 ≤ z) : cutV xs none (some z) = xs.take z.toNat := by
  have h2 : ((z.toNat : Nat) : Int) = z := Int.toNat_of_nonneg hz
  have e1 : HT.sIx xs.length xs.length (some z) = min z.toNat xs.length := by rw [← h2]; exact HT.sIx_nat _ _ _
  unfold cutV
  rw [HT.sIx_none, e1, List.drop_zero, Nat.sub_zero]
  rcases Nat.le_total z.toNat xs.length with h | h
  · rw [Nat.min_eq_left h]
  · rw [Nat.min_eq_right h, List.take_of_length_le (Nat.le_refl _), List.take_of_length_le h]
section
variable {P : Program} {w : World} {K : PySem.W.Frag} {mg : Str → Option Value} {base : Heap}
def spNeeded (K : PySem.W.Frag) : Sp := fun vs H Q _ => ∃ (a : Addr) (z : Int) (x : Str) (xs : List V) (rows : List Row), vs = [.ref a, .int z, .str x] ∧ SqL K H a xs ∧ RowsAt H xs rows ∧ 0 ≤ z ∧ ∀ H', Same H H' → Q (.bl (need (rows.drop (z.toNat + 1)) x)) H'
theorem fd_needed (B : Blt mg) (D_law_uses : Fd P w K mg base 1 "_law_uses" ["_law_row"] spUses) (D_law_writes : Fd P w K mg base 1 "_law_writes" ["_law_row", "_law_name"] spWrites) (F : Fn K mg "_law_needed" (top 35)) : Fd P w K mg base 2 "_law_needed" ["_law_rows", "_law_place", "_law_name"] (spNeeded K) := by
  have sc : FnScope ["_law_rows", "_law_place", "_law_name", "_law_row"] ["_law_rows", "_law_place", "_law_name"] (defScope (top 35)) := ⟨rfl, rfl, rfl, by decide +kernel, rfl, by decide +kernel, by decide +kernel⟩
  refine F.fd sc (fun vs H Q E h => ?_) (fun _ _ _ _ _ _ us hl => by obtain ⟨a0, a1, a2, rfl⟩ := us3 hl; rfl) (fun f cdv A outer s H vs Q E hr h => ?_)
  · obtain ⟨a, z, x, xs, rows, rfl, _⟩ := h
    rfl
  · obtain ⟨a, z, x, xs, rows, rfl, hS, hR, hz, k⟩ := h
    refine ⟨_, (pss_cons (ps_for PassesOwn.never rfl (pi_list (pe_slice sl_list (pv 0) (po_some (pe_op op_add (pv 1) pe_int)) po_none)) (pg_name (i := 3) sc.nd rfl (Or.inl rfl)) (pss_cons (ps_if (pt_cmpR op_in_seq (pv 2) (pe_fd D_law_uses (hr.mono (by decide)) rfl (pa_cons (pv 3) pa_nil)) (by with_unfolding_all rfl)) (pss_one (ps_ret pe_bl)) pss_nil)
      (pss_one (ps_if (pt_val (pe_fd D_law_writes (hr.mono (by decide)) rfl (pa_cons (pv 3) (pa_cons (pv 2) pa_nil)))) (pss_one (ps_ret pe_bl)) pss_nil))))
    (pss_one (ps_ret pe_bl))), ?_⟩
    refine ⟨_, rfl, _, rfl, _, _, rfl, rfl, _, rfl, a, xs, rfl, hS, fun l hl => ?_⟩
    have hz1 : (z + 1).toNat = z.toNat + 1 := by omega
    rw [cut_from (show (0 : Int) ≤ z + 1 by omega), hz1]
    have hR1 := paired_drop (z.toNat + 1) hR
    generalize xs.drop (z.toNat + 1) = ys at hR1
    generalize rows.drop (z.toNat + 1) = rs at hR1 k
    refine ⟨l, rfl, ⟨_, SqL.of upd_same⟩, for_list (K := K) (a := l) (xs := ys) (fun j σ H2 => ∃ v3, σ = [some (.ref a), some (.int z), some (.str x), v3] ∧ Same H H2 ∧ H2 l = some (.lst ys) ∧ need rs x = need (rs.drop j) x)
      ⟨none, rfl, same_upd hl, upd_same, rfl⟩ (fun j σ H2 _ ⟨_, _, _, e, _⟩ => SqL.of e) ?_ ?_⟩
    · rintro j y σ H2 hj ⟨v3, rfl, s2, hl2, hn⟩
      obtain ⟨r, hr', ra, rfl, hra⟩ := paired_get hR1 hj
      have hdrop : rs.drop j = r :: rs.drop (j + 1) := by
        have hlt : j < rs.length := (List.getElem?_eq_some_iff.mp hr').1
        rw [List.drop_eq_getElem_cons hlt]
        congr 1
        rw [List.getElem?_eq_getElem hlt] at hr'
        exact Option.some.inj hr'
      rw [hdrop, need_cons] at hn
      refine ⟨_, rfl, _, rfl, ra, r, rfl, s2 ra _ hra, fun p H3 hp s3 hp3 => ⟨p, _, rfl, .inl (SqL.of hp3), rfl, flat_strs _, _, rfl, ?_⟩⟩
      rw [inV_strs]
      by_cases hx : x ∈ uses r
      · refine itB (by simpa using hx) ?_
        rw [if_pos hx] at hn
        have := k H3 (s2.trans s3)
        rw [hn] at this
        exact this
      · refine ifB (by simpa using hx) ?_
        rw [if_neg hx] at hn
        refine ⟨_, rfl, _, rfl, ra, r, x, rfl, s3 ra _ (s2 ra _ hra), _, rfl, ?_⟩
        by_cases hw : wr r = some x
        · refine itD hw ?_
          rw [if_pos hw] at hn
          have := k H3 (s2.trans s3)
          rw [hn] at this
          exact this
        · refine ifD hw ?_
          rw [if_neg hw] at hn
          exact ⟨_, rfl, s2.trans s3, s3 l _ hl2, hn⟩
    · rintro σ H2 ⟨v3, rfl, s2, hl2, hn⟩
      rw [hR1.length, List.drop_length] at hn
      have := k H2 s2
      rw [hn] at this
      exact this
def spNames (K : PySem.W.Frag) : Sp := fun vs H Q _ => ∃ (a : Addr) (z : Int) (n : Addr) (xs : List V) (rows : List Row) (ss : List Str), vs = [.ref a, .int z, .ref n] ∧ SqL K H a xs ∧ RowsAt H xs rows ∧ 0 ≤ z ∧ H n = some (.lst (ss.map V.str)) ∧ ss.Nodup ∧ Among ss rows ∧ ss.length ≤ 60 ∧
  ∀ (p : Addr) (l : List Str) (H' : Hp), H p = none → Same H H' → H' p = some (.lst (l.map V.str)) → NeedAt rows z.toNat l → Q (.ref p) H'
theorem fd_names (B : Blt mg) (D_law_needed : Fd P w K mg base 2 "_law_needed" ["_law_rows", "_law_place", "_law_name"] (spNeeded K)) (F : Fn K mg "_law_needed_names" (top 36)) : Fd P w K mg base 3 "_law_needed_names" ["_law_rows", "_law_place", "_law_names"] (spNames K) := by
  have sc : FnScope ["_law_rows", "_law_place", "_law_names"] ["_law_rows", "_law_place", "_law_names"] (defScope (top 36)) := ⟨rfl, rfl, rfl, by decide +kernel, rfl, by decide +kernel, by decide +kernel⟩
  refine F.fd sc (fun vs H Q E h => ?_) (fun _ _ _ _ _ _ us hl => by obtain ⟨a0, a1, a2, rfl⟩ := us3 hl; rfl) (fun f cdv A outer s H vs Q E hr h => ?_)
  · obtain ⟨a, z, n, xs, rows, ss, rfl, _⟩ := h
    rfl
  · obtain ⟨a, z, n, xs, rows, ss, rfl, hS, hR, hz, hn, hnd, ham, hlen, k⟩ := h
    refine ⟨_, (pss_one (ps_ret (pe_callB call_sorted rfl B.sorted_ bt_sorted (pa_cons (pe_comp (sc := defScope (top 36)) (fv := ["_law_rows", "_law_place"]) (js := [0, 1]) ⟨rfl, rfl, by decide +kernel, by decide +kernel, rfl, by decide +kernel, by decide +kernel, by decide +kernel, rfl, by decide +kernel⟩ rfl (pi_list (pv 2)) (fun _ _ _ _ => (pifs_one (pt_val (pe_fd D_law_needed (hr.mono (by decide)) rfl (pa_cons (pv 0) (pa_cons (pv 1) (pa_cons (pv 2) pa_nil))))))) (fun _ _ _ _ => (pv 2))) pa_nil)))), ?_⟩
    refine ⟨_, rfl, n, rfl, ⟨_, SqL.of hn⟩, comp_list (K := K) (xs := ss.map V.str) fun D hD => ⟨fun i ys H2 => i ≤ ss.length ∧ Same H H2 ∧ H2 D = some (.lst ys) ∧ ys = ((ss.take i).filter fun x => need (rows.drop (z.toNat + 1)) x).map V.str,
      ⟨Nat.zero_le _, same_upd hD, upd_same, rfl⟩, fun i ys H2 ⟨h1, s2, _⟩ => ⟨by rw [List.length_map]; exact h1, SqL.of (s2 n _ hn)⟩, ?_, ?_⟩⟩
    · rintro i x ys H2 hi ⟨h1, s2, hD2, rfl⟩
      rw [List.getElem?_map] at hi
      cases ei : ss[i]? with
      | none => rw [ei] at hi; cases hi
      | some nm =>
        rw [ei] at hi
        obtain rfl : V.str nm = x := Option.some.inj hi
        have hlt : i < ss.length := (List.getElem?_eq_some_iff.mp ei).1
        refine ⟨_, rfl, _, rfl, _, rfl, a, z, nm, xs, rows, rfl, s2.seq hS, hR.same s2, hz, fun H3 s3 => ⟨_, rfl, ?_⟩⟩
        have hD3 := s3 D _ hD2
        cases hb : need (rows.drop (z.toNat + 1)) nm with
        | true =>
          refine iteT ⟨_, rfl, hD3, ?_, hlt, ?_, upd_same, ?_⟩
          · refine small1000 ?_
            rw [List.length_map]
            refine Nat.le_trans (List.length_filter_le _ _) ?_
            rw [List.length_take]; omega
          · exact fun b o e => by rw [upd_ne (ne_of_none e hD)]; exact s3 b o (s2 b o e)
          · rw [List.take_add_one, ei, List.filter_append, List.map_append]
            simp [hb]
        | false =>
          refine iteF ⟨hlt, s2.trans s3, hD3, ?_⟩
          rw [List.take_add_one, ei, List.filter_append]
          simp [hb]
    · rintro ys H2 ⟨h1, s2, hD2, rfl⟩
      rw [List.length_map, List.take_length] at hD2
      refine ⟨D, _, rfl, SqL.of hD2, ?_, fun l ss' hl hp hs => ?_⟩
      · have := List.length_filter_le (fun x => need (rows.drop (z.toNat + 1)) x) ss; omega
      · exact k l ss' _ (s2.free hl) (fun b o e => by rw [upd_ne (s2.ne e hl)]; exact s2 b o e) upd_same (needAt_of_filter hnd ham hs hp)
theorem snoc_of {α : Type} {l : List α} (h : l ≠ []) : ∃ r x, l = r ++ [x] := ⟨l.dropLast, l.getLast h, (List.dropLast_concat_getLast h).symm⟩
theorem paired_snoc {α β : Type} {F : α → β → Prop} {l : List α} {m : List β} {b : β} (h : Paired F l (m ++ [b])) : ∃ r a, l = r ++ [a] ∧ Paired F r m ∧ F a b := by
  have hne : l ≠ [] := fun e => by
    rw [e] at h
    have := h.length
    simp at this
  obtain ⟨r, a, rfl⟩ := snoc_of hne
  have hlen : r.length = m.length := by have := h.length; simpa using this
  have go : ∀ {r : List α} {m : List β}, r.length = m.length → Paired F (r ++ [a]) (m ++ [b]) → Paired F r m ∧ F a b := by
    intro r
    induction r with
    | nil => intro m e h; cases m with
      | nil => cases h with | cons q _ => exact ⟨.nil, q⟩
      | cons _ _ => simp at e
    | cons x r ih => intro m e h; cases m with
      | nil => simp at e
      | cons y m =>
        cases h with
        | cons q t =>
          obtain ⟨h1, h2⟩ := ih (by simpa using e) t
          exact ⟨.cons q h1, h2⟩
  obtain ⟨h1, h2⟩ := go hlen h
  exact ⟨r, a, rfl, h1, h2⟩
end
end Fp
namespace Fp
open PySem L2
theorem seqTail {t u : TS} {D : Ends} {σ : St} {H : Hp} (Post : St → Hp → Prop) (h2 : ∀ σ' H', Post σ' H' → u D σ' H') (h1 : ∀ U : St → Hp → Prop, (∀ σ' H', Post σ' H' → U σ' H') → t { D with nx := U } σ H) : tSeq t u D σ H := h1 (u D) h2
theorem orIf {t1 t2 : TT} {A B : TS} {D : Ends} {σ : St} {H : Hp} (RA RB : Hp → Prop) (hA : ∀ H', RA H' → A D σ H') (hB : ∀ H', RB H' → B D σ H')
    (h : ∀ UA UB : Hp → Prop, (∀ H', RA H' → UA H') → (∀ H', RB H' → UB H') → t1 σ H fun c H1 => if c = true then UA H1 else t2 σ H1 fun c2 H2 => if c2 = true then UA H2 else UB H2) : tIfS (tOr t1 t2) A B D σ H := by
  have q := h (fun H' => A D σ H') (fun H' => B D σ H') hA hB
  unfold tIfS tOr
  have e : (fun (c : Bool) (H1 : Hp) => if c = true then (if true = true then A D σ H1 else B D σ H1) else t2 σ H1 fun b H1 => if b = true then A D σ H1 else B D σ H1) =
      fun c H1 => if c = true then A D σ H1 else t2 σ H1 fun c2 H2 => if c2 = true then A D σ H2 else B D σ H2 := by
    funext c H1
    rw [if_pos (rfl : true = true)]
  rw [e]
  exact q
theorem at_map {α : Type} (f : α → V) (l : List α) {z : Int} (h0 : 0 ≤ z) (h1 : z < (l.length : Int)) : ∃ x ∈ l, atI (l.map f) z = some (f x) := by
  have e : ((z.toNat : Nat) : Int) = z := Int.toNat_of_nonneg h0
  have hlt : z.toNat < l.length := by omega
  have key : atI (l.map f) ((z.toNat : Nat) : Int) = some (f l[z.toNat]) := by
    refine atI_nat ?_
    rw [List.getElem?_map, List.getElem?_eq_getElem hlt]; rfl
  rw [e] at key
  exact ⟨l[z.toNat], List.getElem_mem hlt, key⟩
theorem at_nat_list {l : List Nat} {z : Int} (h0 : 0 ≤ z) (h1 : z < (l.length : Int)) : ∃ x ∈ l, atI l z = some x := by
  have e : ((z.toNat : Nat) : Int) = z := Int.toNat_of_nonneg h0
  have hlt : z.toNat < l.length := by omega
  have key : atI l ((z.toNat : Nat) : Int) = some l[z.toNat] := atI_nat (List.getElem?_eq_getElem hlt)
  rw [e] at key
  exact ⟨l[z.toNat], List.getElem_mem hlt, key⟩
theorem n_set_tell : ¬ (V.str "set" = V.str "tell") := by decide +kernel
theorem n_take_tell : ¬ (V.str "take" = V.str "tell") := by decide +kernel
theorem n_word_tell (o : Kd) : ¬ (V.str (word o) = V.str "tell") := by cases o <;> decide +kernel
structure RowsOk (ss : List Str) (rows : List Row) : Prop where
  valid : Valid rows
  among : Among ss rows
  few : rows.length ≤ 20
  numb : ∃ mu, Numb rows mu
section
variable {P : Program} {w : World} {K : PySem.W.Frag} {mg : Str → Option Value} {base : Heap}
def spRows (K : PySem.W.Frag) : Sp := fun vs H Q _ => ∃ (a n : Addr) (cs : List Int) (ss : List Str), vs = [.ref a, .ref n] ∧ SqL K H a (cs.map V.int) ∧ cs.length ≤ 40 ∧ H n = some (.lst (ss.map V.str)) ∧ 1 ≤ ss.length ∧ ss.length ≤ 60 ∧
  ∀ p xs rows H', H p = none → Same H H' → H' p = some (.lst xs) → RowsAt H' xs rows → RowsOk ss rows → Q (.ref p) H'
theorem fd_rows (B : Blt mg) (F : Fn K mg "_law_rows_of" (top 30)) : Fd P w K mg base 1 "_law_rows_of" ["_law_cells", "_law_names"] (spRows K) := by
  have sc : FnScope ["_law_cells", "_law_names", "_law_rows", "_law_known", "_law_muls", "_law_k", "_law_turn", "_law_name", "_law_salt", "_law_far", "_law_menu", "_law_number", "_law_word", "_law_one", "_law_two"] ["_law_cells", "_law_names"] (defScope (top 30)) := ⟨rfl, rfl, rfl, by decide +kernel, rfl, by decide +kernel, by decide +kernel⟩
  refine F.fd sc (fun vs H Q E h => ?_) (fun _ _ _ _ _ _ us hl => by obtain ⟨a0, a1, rfl⟩ := us2 hl; rfl) (fun f cdv A outer s H vs Q E hr h => ?_)
  · obtain ⟨a, n, cs, ss, rfl, _⟩ := h
    rfl
  · obtain ⟨a, n, cs, ss, rfl, hS, hcl, hn, hs1, hs2, k⟩ := h
    have hu0 : (A.deeper (PyProof.Rows.envOfC "_law_rows_of" (defScope (top 30)) s.heap.objs.size f cdv)).units < PySem.cLine := hr.units0
    refine ⟨_, (pss_cons (ps_set (i := 2) sc.nd rfl (Or.inl rfl) (pe_lst pa_nil))
    (pss_cons (ps_set (i := 3) sc.nd rfl (Or.inl rfl) (pe_lst pa_nil))
    (pss_cons (ps_set (i := 4) sc.nd rfl (Or.inl rfl) pe_int)
    (pss_cons (ps_for PassesOwn.never rfl (pi_range1 rfl B.range_ (pa_cons (pe_op op_fdiv (pe_callB call_len_seq rfl B.len_ PySem.boot_len (pa_cons (pv 0) pa_nil)) pe_int) pa_nil)) (pg_name (i := 5) sc.nd rfl (Or.inl rfl)) (pss_cons (ps_set (i := 6) sc.nd rfl (Or.inl rfl) (pe_op op_mod (pe_op op_add (pe_ix ix_list (pv 0) (pe_op op_mul pe_int (pv 5)) (fun _ _ => rfl)) (pe_op op_mul pe_int (pv 5))) pe_int))
      (pss_cons (ps_set (i := 7) sc.nd rfl (Or.inl rfl) (pe_ix ix_list (pv 1) (pe_op op_mod (pe_op op_add (pe_op op_fdiv (pe_ix ix_list (pv 0) (pe_op op_mul pe_int (pv 5)) (fun _ _ => rfl)) pe_int) (pe_op op_mul pe_int (pv 5))) (pe_callB call_len_seq rfl B.len_ PySem.boot_len (pa_cons (pv 1) pa_nil))) (fun _ _ => rfl)))
      (pss_cons (ps_set (i := 8) sc.nd rfl (Or.inl rfl) (pe_op op_add (pe_ix ix_list (pv 0) (pe_op op_add (pe_op op_mul pe_int (pv 5)) pe_int) (fun _ _ => rfl)) (pv 5)))
      (pss_cons (ps_if (PW.pt (pw_or (pt_cmpR op_lt (pv 6) pe_int (nomark _)) (pw_or1 (pt_cmpR (op_eqNil hu0) (pv 3) (pe_lst pa_nil) (nomark _))))) (pss_cons (ps_set (i := 9) sc.nd rfl (Or.inl rfl) (pe_op op_mod (pe_op op_mul (pv 8) pe_int) (pe_op op_pow pe_int pe_int)))
        (pss_cons (ps_set (i := 10) sc.nd rfl (Or.inl rfl) (pe_lst (pa_cons (pe_op op_sub (pe_op op_mod (pe_op op_add (pe_op op_fdiv (pv 8) pe_int) (pv 5)) pe_int) pe_int) (pa_cons pe_int (pa_cons (pe_un un_neg pe_int) (pa_cons pe_int (pa_cons (pv 9) (pa_cons (pe_op op_sub pe_int (pv 9)) pa_nil))))))))
        (pss_cons (ps_set (i := 11) sc.nd rfl (Or.inl rfl) (pe_ix ix_list (pv 10) (pe_op op_mod (pv 8) pe_int) (fun _ _ => rfl)))
        (pss_one (ps_expr (pe_bm PySem.F.plainAttrs_list PySem.F.slot_list_append PySem.F.type_list_append mt_append (pv 2) (pa_cons (pe_ix ix_list (pe_lst (pa_cons (pe_tup (pa_cons pe_str (pa_cons (pv 7) (pa_cons (pv 11) pa_nil)))) (pa_cons (pe_tup (pa_cons pe_str (pa_cons (pv 7) pa_nil))) pa_nil))) (pe_callTy call_int1 rfl B.int_ bt_int (pa_cons (pe_cmpR op_eq (pv 6) pe_int (nomark _)) pa_nil)) (fun _ _ => rfl)) pa_nil))))))) (pss_one (ps_if (pt_cmpR op_eq (pv 6) pe_int (nomark _)) (pss_one (ps_expr (pe_bm PySem.F.plainAttrs_list PySem.F.slot_list_append PySem.F.type_list_append mt_append (pv 2) (pa_cons (pe_tup (pa_cons pe_str (pa_cons (pe_ix ix_list (pv 3) (pe_op op_mod (pv 8) (pe_callB call_len_seq rfl B.len_ PySem.boot_len (pa_cons (pv 3) pa_nil))) (fun _ _ => rfl)) pa_nil))) pa_nil)))) (pss_cons (ps_set (i := 12) sc.nd rfl (Or.inl rfl) (pe_ix ix_list (pe_lst (pa_cons pe_str (pa_cons pe_str (pa_cons pe_str (pa_cons pe_str (pa_cons pe_str pa_nil)))))) (pe_op op_sub (pv 6) pe_int) (fun _ _ => rfl)))
          (pss_cons (ps_if (pt_cmpR op_eq (pv 12) pe_str (nomark _)) (pss_cons (ps_set (i := 4) sc.nd rfl (Or.inl rfl) (pe_op op_add (pv 4) pe_int))
            (pss_one (ps_set (i := 12) sc.nd rfl (Or.inl rfl) (pe_ix ix_list (pe_lst (pa_cons pe_str (pa_cons pe_str pa_nil))) (pe_callTy call_int1 rfl B.int_ bt_int (pa_cons (pe_cmpR op_gt (pv 4) pe_int (nomark _)) pa_nil)) (fun _ _ => rfl))))) pss_nil)
          (pss_cons (ps_set (i := 13) sc.nd rfl (Or.inl rfl) (pe_ix ix_list (pv 3) (pe_op op_mod (pv 8) (pe_callB call_len_seq rfl B.len_ PySem.boot_len (pa_cons (pv 3) pa_nil))) (fun _ _ => rfl)))
          (pss_cons (ps_set (i := 14) sc.nd rfl (Or.inl rfl) (pe_ix ix_list (pv 3) (pe_op op_mod (pe_op op_add (pe_op op_fdiv (pv 8) pe_int) (pv 5)) (pe_callB call_len_seq rfl B.len_ PySem.boot_len (pa_cons (pv 3) pa_nil))) (fun _ _ => rfl)))
          (pss_one (ps_expr (pe_bm PySem.F.plainAttrs_list PySem.F.slot_list_append PySem.F.type_list_append mt_append (pv 2) (pa_cons (pe_tup (pa_cons (pv 12) (pa_cons (pv 7) (pa_cons (pv 13) (pa_cons (pv 14) pa_nil))))) pa_nil)))))))))))
      (pss_one (ps_if (PW.pt (pw_and (pt_cmpR op_ne (pe_ix ix_tup (pe_ix ix_list (pv 2) (pe_un un_neg pe_int) (fun _ _ => rfl)) pe_int (fun _ _ => rfl)) pe_str (nomark _)) (pw_and1 (pt_cmpR op_notIn_seq (pv 7) (pv 3) (by with_unfolding_all rfl))))) (pss_one (ps_expr (pe_bm PySem.F.plainAttrs_list PySem.F.slot_list_append PySem.F.type_list_append mt_append (pv 3) (pa_cons (pv 7) pa_nil)))) pss_nil)))))))
    (pss_one (ps_ret (pv 2))))))), ?_⟩
    refine ⟨(by first | decide | (show (0 : Int) < _; decide)), fun pr hpr => ⟨(by first | decide | (show (0 : Int) < _; decide)), fun pk hpk => ?_⟩⟩
    have hpk0 : H pk = none := (same_upd hpr).free hpk
    have npp : pr ≠ pk := ne_of_none upd_same hpk
    have sA : Same H (upd (upd H pr (.lst [])) pk (.lst [])) := fun b o e => by rw [upd_ne (ne_of_none e hpk0), upd_ne (ne_of_none e hpr)]; exact e
    refine ⟨_, rfl, a, _, rfl, .inl (sA.seq hS), _, _, rfl, rfl, ⟨by decide, by decide⟩, _, rfl, ?_, ?_, ?_⟩
    · rw [List.length_map]; omega
    · rw [List.length_map]; omega
    rw [List.length_map]
    have hN : ((cs.length : Int) / 2).toNat = cs.length / 2 := by omega
    rw [hN]
    refine for_range (fun i σ H2 => ∃ (xs : List V) (rows : List Row) (kn : List Str) (mu : Int) (v5 v6 v7 v8 v9 v10 v11 v12 v13 v14 : Option V), σ = [some (.ref a), some (.ref n), some (.ref pr), some (.ref pk), some (.int mu), v5, v6, v7, v8, v9, v10, v11, v12, v13, v14] ∧ Same H H2 ∧ H2 pr = some (.lst xs) ∧ H2 pk = some (.lst (kn.map V.str)) ∧
      RowsAt H2 xs rows ∧ rows.length = i ∧ Valid rows ∧ Among ss rows ∧ (∀ x ∈ kn, x ∈ ss ∧ ∃ q ∈ rows, wr q = some x) ∧ kn.length ≤ i ∧ Numb rows mu) ?_ ?_ ?_
    · refine ⟨[], [], [], 0, none, none, none, none, none, none, none, none, none, none, rfl, sA, ?_, upd_same, .nil, rfl, valid_nil, among_nil _, (fun _ h => nomatch h), Nat.le_refl _, numb_nil⟩
      rw [upd_ne npp, upd_same]
    · rintro i σ H2 hi ⟨xs, rows, kn, mu, v5, v6, v7, v8, v9, v10, v11, v12, v13, v14, rfl, s2, hr2, hk2, hR, hrl, hv, ham, hkn, hkl, hnb⟩
      rw [Int.zero_add]
      have hcs : 2 * i + 1 < cs.length := by omega
      have hS2 := s2.seq hS
      have hn2 := s2 n _ hn
      have hxl : xs.length = i := by rw [hR.length]; exact hrl
      obtain ⟨c0, _, hc0⟩ := at_map V.int cs (z := 2 * (i : Int)) (by omega) (by omega)
      obtain ⟨c1, _, hc1⟩ := at_map V.int cs (z := 2 * (i : Int) + 1) (by omega) (by omega)
      refine ⟨_, rfl, _, rfl, _, _, rfl, rfl, .inl ⟨by decide, by decide⟩, a, _, _, _, rfl, rfl, hS2, hc0, _, rfl, _, _, rfl, rfl, .inl ⟨by decide, by decide⟩, _, _, rfl, rfl, _, _, rfl, rfl, (by first | decide | (show (0 : Int) < _; decide)), ?_⟩
      have hlp : (0 : Int) < ((ss.map V.str).length : Int) := by rw [List.length_map]; omega
      obtain ⟨nm, hnm, hat⟩ := at_map V.str ss (z := (c0 / 8 + 5 * (i : Int)) % ((ss.map V.str).length : Int)) (Int.emod_nonneg _ (by omega)) (by have := Int.emod_lt_of_pos (c0 / 8 + 5 * (i : Int)) hlp; rw [List.length_map] at this ⊢; exact this)
      refine ⟨_, rfl, _, rfl, _, rfl, _, _, rfl, rfl, .inl ⟨by decide, by decide⟩, a, _, _, _, rfl, rfl, hS2, hc0, _, _, rfl, rfl, ⟨by decide, by decide⟩, _, rfl, _, _, rfl, rfl, .inl ⟨by decide, by decide⟩, _, _, rfl, rfl, _, rfl, n, _, rfl, .inl (SqL.of hn2), _, _, rfl, rfl, hlp, n, _, _, _, rfl, rfl, SqL.of hn2, hat, ?_⟩
      refine ⟨_, rfl, _, rfl, _, _, rfl, rfl, .inl ⟨by decide, by decide⟩, _, _, rfl, rfl, a, _, _, _, rfl, rfl, hS2, hc1, _, rfl, _, _, rfl, rfl, ?_⟩
      dsimp only [gName]
      show tSeq (tIfS _ _ _) (tIfS _ _ _) _ [some (.ref a), some (.ref n), some (.ref pr), some (.ref pk), some (.int mu), some (.int i), some (.int ((c0 + 3 * (i : Int)) % 8)), some (.str nm), some (.int (c1 + (i : Int))), v9, v10, v11, v12, v13, v14] H2
      have ht0 : 0 ≤ (c0 + 3 * (i : Int)) % 8 := by omega
      have ht8 : (c0 + 3 * (i : Int)) % 8 < 8 := by omega
      generalize (c0 + 3 * (i : Int)) % 8 = t at ht0 ht8
      generalize c1 + (i : Int) = sa
      refine seqTail (fun σ' H' => ∃ (ra : Addr) (r : Row) (mu' : Int) (v9 v10 v11 v12 v13 v14 : Option V), σ' = [some (.ref a), some (.ref n), some (.ref pr), some (.ref pk), some (.int mu'), some (.int i), some (.int t), some (.str nm), some (.int sa), v9, v10, v11, v12, v13, v14] ∧ Same H H' ∧ H' pr = some (.lst (xs ++ [.ref ra])) ∧ H' pk = some (.lst (kn.map V.str)) ∧
        RowsAt H' (xs ++ [.ref ra]) (rows ++ [r]) ∧ (∀ x ∈ uses r, x ∈ kn) ∧ (wr r = some nm ∨ ∃ x, r = .tell x) ∧ Cost mu r mu') ?_ ?_
      · rintro σ' H' ⟨ra, r, mu', v9', v10', v11', v12', v13', v14', rfl, s3, hr3, hk3, hR3, hus, hwr, hco⟩
        obtain ⟨rr, hrr, hra3⟩ : ∃ rr, rr = r ∧ H' ra = some (.tup (rowV rr)) := by
          obtain ⟨r2, e2, b, eb, hb⟩ := paired_get (i := xs.length) (a := V.ref ra) hR3 (by simp)
          cases eb
          have : r2 = r := by
            have hl : xs.length = rows.length := by rw [hxl, hrl]
            rw [hl] at e2
            simpa using e2.symm
          exact ⟨r2, this, hb⟩
        subst hrr
        have hval : Valid (rows ++ [rr]) := valid_snoc hv fun x hx => (hkn x (hus x hx)).2
        have ham' : Among ss (rows ++ [rr]) := among_snoc ham (fun x hx => (hkn x (hus x hx)).1) (fun x hx => by
          rcases hwr with e | ⟨y, e⟩
          · rw [hx] at e; rw [Option.some.inj e]; exact hnm
          · rw [e] at hx; cases hx)
        have hkn' : ∀ x ∈ kn, x ∈ ss ∧ ∃ q ∈ rows ++ [rr], wr q = some x := fun x hx => ⟨(hkn x hx).1, let ⟨q, h1, h2⟩ := (hkn x hx).2; ⟨q, List.mem_append_left _ h1, h2⟩⟩
        refine ⟨_, rfl, _, rfl, pr, _, _, _, rfl, rfl, SqL.of hr3, atI_last _ _, ra, _, _, V.str (match rr with | .set .. => "set" | .take _ => "take" | .op o .. => word o | .tell _ => "tell"), rfl, rfl, SqT.of hra3, ?_, rfl, _, rfl, ?_⟩
        · cases rr <;> exact at0
        have keep : ∀ (σ' : St), σ' = [some (.ref a), some (.ref n), some (.ref pr), some (.ref pk), some (.int mu'), some (.int i), some (.int t), some (.str nm), some (.int sa), v9', v10', v11', v12', v13', v14'] → ∃ (xs : List V) (rows : List Row) (kn : List Str) (mu : Int) (v5 v6 v7 v8 v9 v10 v11 v12 v13 v14 : Option V), σ' = [some (.ref a), some (.ref n), some (.ref pr), some (.ref pk), some (.int mu), v5, v6, v7, v8, v9, v10, v11, v12, v13, v14] ∧ Same H H' ∧ H' pr = some (.lst xs) ∧ H' pk = some (.lst (kn.map V.str)) ∧
            RowsAt H' xs rows ∧ rows.length = i + 1 ∧ Valid rows ∧ Among ss rows ∧ (∀ x ∈ kn, x ∈ ss ∧ ∃ q ∈ rows, wr q = some x) ∧ kn.length ≤ i + 1 ∧ Numb rows mu := fun σ' e =>
          ⟨xs ++ [.ref ra], rows ++ [rr], kn, mu', _, _, _, _, _, _, _, _, _, _, e, s3, hr3, hk3, hR3, by simp [hrl], hval, ham', hkn', by omega, numb_snoc hnb hco⟩
        have grow : wr rr = some nm → ∃ kn', kn' = kn ++ [nm] ∧ ∀ H4 : Hp, H4 = upd H' pk (.lst (kn'.map V.str)) → ∀ (σ' : St), σ' = [some (.ref a), some (.ref n), some (.ref pr), some (.ref pk), some (.int mu'), some (.int i), some (.int t), some (.str nm), some (.int sa), v9', v10', v11', v12', v13', v14'] → ∃ (xs : List V) (rows : List Row) (kn : List Str) (mu : Int) (v5 v6 v7 v8 v9 v10 v11 v12 v13 v14 : Option V), σ' = [some (.ref a), some (.ref n), some (.ref pr), some (.ref pk), some (.int mu), v5, v6, v7, v8, v9, v10, v11, v12, v13, v14] ∧ Same H H4 ∧ H4 pr = some (.lst xs) ∧ H4 pk = some (.lst (kn.map V.str)) ∧
            RowsAt H4 xs rows ∧ rows.length = i + 1 ∧ Valid rows ∧ Among ss rows ∧ (∀ x ∈ kn, x ∈ ss ∧ ∃ q ∈ rows, wr q = some x) ∧ kn.length ≤ i + 1 ∧ Numb rows mu := fun ew => ⟨_, rfl, fun H4 e4 σ' e => by
          subst e4
          have nk : ∀ b (us : List V), H' b = some (.tup us) → b ≠ pk := fun b us q z => by rw [z, hk3] at q; cases q
          refine ⟨xs ++ [.ref ra], rows ++ [rr], kn ++ [nm], mu', _, _, _, _, _, _, _, _, _, _, e, fun b o q => ?_, ?_, upd_same, Paired.mapP hR3 fun v r ⟨b, e1, e2⟩ => ⟨b, e1, by rw [upd_ne (nk b _ e2)]; exact e2⟩, by simp [hrl], hval, ham', fun x hx => ?_, by simp; omega, numb_snoc hnb hco⟩
          · rw [upd_ne (ne_of_none q hpk0)]; exact s3 b o q
          · rw [upd_ne npp]; exact hr3
          · rcases List.mem_append.mp hx with z | z
            · exact hkn' x z
            · rw [List.mem_singleton.mp z]
              exact ⟨hnm, rr, List.mem_append_right _ (List.mem_singleton.mpr rfl), ew⟩⟩
        cases rr with
        | tell x =>
          refine ifN rfl ?_
          exact keep _ rfl
        | set x z =>
          refine itN (by exact n_set_tell) ?_
          refine ⟨_, rfl, _, rfl, pk, _, rfl, .inl (SqL.of hk3), rfl, flat_strs _, _, rfl, ?_⟩
          rw [inV_strs]
          refine iteB (fun _ => ?_) fun _ => keep _ rfl
          obtain ⟨kn', ek, g⟩ := grow (hwr.resolve_right fun ⟨_, z⟩ => nomatch z)
          refine ⟨_, rfl, .inl ⟨rfl, _, SqL.of hk3⟩, _, rfl, pk, _, _, rfl, rfl, hk3, small1000 (by rw [List.length_map]; omega), g _ ?_ _ rfl⟩
          rw [ek]; simp
        | take x =>
          refine itN (by exact n_take_tell) ?_
          refine ⟨_, rfl, _, rfl, pk, _, rfl, .inl (SqL.of hk3), rfl, flat_strs _, _, rfl, ?_⟩
          rw [inV_strs]
          refine iteB (fun _ => ?_) fun _ => keep _ rfl
          obtain ⟨kn', ek, g⟩ := grow (hwr.resolve_right fun ⟨_, z⟩ => nomatch z)
          refine ⟨_, rfl, .inl ⟨rfl, _, SqL.of hk3⟩, _, rfl, pk, _, _, rfl, rfl, hk3, small1000 (by rw [List.length_map]; omega), g _ ?_ _ rfl⟩
          rw [ek]; simp
        | op o x y z =>
          refine itN (by exact n_word_tell o) ?_
          refine ⟨_, rfl, _, rfl, pk, _, rfl, .inl (SqL.of hk3), rfl, flat_strs _, _, rfl, ?_⟩
          rw [inV_strs]
          refine iteB (fun _ => ?_) fun _ => keep _ rfl
          obtain ⟨kn', ek, g⟩ := grow (hwr.resolve_right fun ⟨_, z⟩ => nomatch z)
          refine ⟨_, rfl, .inl ⟨rfl, _, SqL.of hk3⟩, _, rfl, pk, _, _, rfl, rfl, hk3, small1000 (by rw [List.length_map]; omega), g _ ?_ _ rfl⟩
          rw [ek]; simp
      · intro U tl
        have put : ∀ (H3 : Hp) (ra : Addr) (r : Row) (mu' : Int) (σ' : St) (v9 v10 v11 v12 v13 v14 : Option V), Same H2 H3 → H3 ra = some (.tup (rowV r)) → (∀ x ∈ uses r, x ∈ kn) → (wr r = some nm ∨ ∃ x, r = .tell x) → Cost mu r mu' →
            σ' = [some (.ref a), some (.ref n), some (.ref pr), some (.ref pk), some (.int mu'), some (.int i), some (.int t), some (.str nm), some (.int sa), v9, v10, v11, v12, v13, v14] → U σ' (upd H3 pr (.lst (xs ++ [.ref ra]))) := by
          intro H3 ra r mu' σ' w9 w10 w11 w12 w13 w14 s3 hra hus hwr hco e
          have nr : ∀ b (us : List V), H3 b = some (.tup us) → b ≠ pr := fun b us q z => by
            have := s3 pr _ hr2
            rw [z, this] at q; cases q
          refine tl _ _ ⟨ra, r, mu', w9, w10, w11, w12, w13, w14, e, fun b o q => ?_, upd_same, ?_, paired_append (Paired.mapP (hR.same s3) fun v r ⟨b, e1, e2⟩ => ⟨b, e1, by rw [upd_ne (nr b _ e2)]; exact e2⟩) (.cons ⟨ra, rfl, by rw [upd_ne (nr ra _ hra)]; exact hra⟩ .nil), hus, hwr, hco⟩
          · rw [upd_ne (ne_of_none q hpr)]; exact s3 b o (s2 b o q)
          · rw [upd_ne npp.symm]; exact s3 pk _ hk2
        have hsm : xs.length < PySem.sizeLine := small1000 (by omega)
        refine orIf (fun H3 => Same H2 H3) (fun H3 => Same H2 H3 ∧ 2 ≤ t ∧ kn ≠ []) (fun H3 s3 => ?_) (fun H3 ⟨s3, ht2, hkne⟩ => ?_) (fun UA UB hUA hUB => ?_)
        · -- set or take
          show tSeq _ _ _ [some (.ref a), some (.ref n), some (.ref pr), some (.ref pk), some (.int mu), some (.int i), some (.int t), some (.str nm), some (.int sa), v9, v10, v11, v12, v13, v14] H3
          refine ⟨_, rfl, _, _, rfl, rfl, .inr ⟨by decide, by decide⟩, _, _, rfl, rfl, ⟨by decide, by decide, (by first | decide | (show (0 : Int) < _; decide))⟩, _, _, rfl, rfl, (by first | decide | (show (0 : Int) < _; decide)), ?_⟩
          dsimp only [gName]
          show tSeq (tAsg _ _) _ _ [some (.ref a), some (.ref n), some (.ref pr), some (.ref pk), some (.int mu), some (.int i), some (.int t), some (.str nm), some (.int sa), some (.int (sa * 48271 % 10 ^ (30 : Int).toNat)), v10, v11, v12, v13, v14] H3
          have hf0 : 0 ≤ sa * 48271 % 10 ^ (30 : Int).toNat := Int.emod_nonneg _ (by decide)
          have hf1 : sa * 48271 % 10 ^ (30 : Int).toNat < 10 ^ (30 : Int).toNat := Int.emod_lt_of_pos _ (by decide)
          have e30 : (10 : Int) ^ (30 : Int).toNat = 1000000000000000000000000000000 := by decide
          replace hf1 := Int.lt_of_lt_of_le hf1 (Int.le_of_eq e30)
          generalize sa * 48271 % 10 ^ (30 : Int).toNat = far at hf0 hf1
          refine ⟨_, rfl, _, _, rfl, rfl, ⟨by decide, by decide⟩, _, rfl, _, _, rfl, rfl, _, _, rfl, rfl, (by first | decide | (show (0 : Int) < _; decide)), _, _, rfl, rfl, _, rfl, _, rfl, _, rfl, _, _, rfl, rfl, lk 6, fun pm hpm => ?_⟩
          obtain ⟨num, hnum, hatm⟩ := at_map V.int [(sa / 4 + (i : Int)) % 50 - 20, 0, -1, 1000000000000, far, 0 - far] (z := sa % 6) (by omega) (by simp only [List.length_cons, List.length_nil]; omega)
          refine ⟨_, rfl, _, rfl, _, _, rfl, rfl, (by first | decide | (show (0 : Int) < _; decide)), pm, _, _, _, rfl, rfl, SqL.of upd_same, hatm, ?_⟩
          have hns : num.natAbs < 10 ^ 30 := by
            have e31 : (10 : Nat) ^ 30 = 1000000000000000000000000000000 := by decide
            rw [e31]
            simp only [List.mem_cons, List.not_mem_nil, or_false] at hnum
            rcases hnum with e | e | e | e | e | e
            · rw [e]; omega
            · rw [e]; decide
            · rw [e]; decide
            · rw [e]; decide
            · rw [e]; omega
            · rw [e]; omega
          have s4 : Same H2 (upd H3 pm (.lst [.int ((sa / 4 + (i : Int)) % 50 - 20), .int 0, .int (-1), .int 1000000000000, .int far, .int (0 - far)])) := fun b o e => by rw [upd_ne (s3.ne e hpm)]; exact s3 b o e
          generalize upd H3 pm (.lst [.int ((sa / 4 + (i : Int)) % 50 - 20), .int 0, .int (-1), .int 1000000000000, .int far, .int (0 - far)]) = H4 at s4
          have hr4 := s4 pr _ hr2
          refine ⟨_, rfl, .inl ⟨rfl, _, SqL.of hr4⟩, _, rfl, _, rfl, lk 3, fun q1 hq1 => ⟨_, rfl, lk 2, fun q2 hq2 => ⟨lk 2, fun q3 hq3 => ?_⟩⟩⟩
          have s5 : Same H4 (upd H4 q1 (.tup [.str "set", .str nm, .int num])) := same_upd hq1
          have s6 : Same H4 (upd (upd H4 q1 (.tup [.str "set", .str nm, .int num])) q2 (.tup [.str "take", .str nm])) := s5.upd (s5.free hq2)
          have h61 : (upd (upd H4 q1 (.tup [.str "set", .str nm, .int num])) q2 (.tup [.str "take", .str nm])) q1 = some (.tup (rowV (.set nm num))) := by rw [upd_ne (ne_of_none upd_same hq2), upd_same]; rfl
          have h62 : (upd (upd H4 q1 (.tup [.str "set", .str nm, .int num])) q2 (.tup [.str "take", .str nm])) q2 = some (.tup (rowV (.take nm))) := upd_same
          generalize upd (upd H4 q1 (.tup [.str "set", .str nm, .int num])) q2 (.tup [.str "take", .str nm]) = H6 at s6 h61 h62 hq3
          have s7 : Same H6 (upd H6 q3 (.lst [.ref q1, .ref q2])) := same_upd hq3
          have s27 : Same H2 (upd H6 q3 (.lst [.ref q1, .ref q2])) := (s4.trans s6).trans s7
          have hr7 := s27 pr _ hr2
          by_cases ht1 : t = 1
          · subst ht1
            refine ⟨_, rfl, rfl, .inr ⟨_, rfl, q3, _, _, _, rfl, rfl, SqL.of upd_same, at1, pr, xs, _, rfl, rfl, hr7, hsm, ?_⟩⟩
            exact put _ q2 (.take nm) mu _ _ _ _ _ _ _ s27 (s7 q2 _ h62) (fun x hx => nomatch hx) (.inl rfl) cost_take rfl
          · have hd : decide (V.int t = V.int 1) = false := decide_eq_false fun z => ht1 (by cases z; rfl)
            refine ⟨_, rfl, rfl, .inr ⟨_, rfl, q3, _, _, .ref q1, rfl, rfl, SqL.of upd_same, ?_, pr, xs, _, rfl, rfl, hr7, hsm, ?_⟩⟩
            · rw [hd]; exact at0
            · exact put _ q1 (.set nm num) mu _ _ _ _ _ _ _ s27 (s7 q1 _ h61) (fun x hx => nomatch hx) (.inl rfl) (cost_set hns) rfl
        · -- tell, or two names
          have hk3 := s3 pk _ hk2
          have hr3 := s3 pr _ hr2
          have hkp : (0 : Int) < ((kn.map V.str).length : Int) := by
            have : 0 < kn.length := List.length_pos_iff.mpr hkne
            rw [List.length_map]; omega
          have pick : ∀ z : Int, ∃ x ∈ kn, atI (kn.map V.str) (z % ((kn.map V.str).length : Int)) = some (V.str x) := fun z =>
            at_map V.str kn (Int.emod_nonneg _ (by omega)) (by have := Int.emod_lt_of_pos z hkp; rw [List.length_map] at this ⊢; exact this)
          obtain ⟨x1, hx1, ha1⟩ := pick sa
          refine ⟨_, rfl, rfl, _, rfl, ?_⟩
          by_cases ht7 : t = 7
          · refine itD (by rw [ht7]) ?_
            refine ⟨_, rfl, .inl ⟨rfl, _, SqL.of hr3⟩, _, rfl, _, rfl, _, rfl, pk, _, rfl, .inl (SqL.of hk3), _, _, rfl, rfl, hkp, pk, _, _, _, rfl, rfl, SqL.of hk3, ha1, lk 2, fun q1 hq1 => ?_⟩
            have s4 : Same H2 (upd H3 q1 (.tup [.str "tell", .str x1])) := fun b o e => by rw [upd_ne (s3.ne e hq1)]; exact s3 b o e
            refine ⟨pr, xs, _, rfl, rfl, s4 pr _ hr2, hsm, ?_⟩
            exact put _ q1 (.tell x1) mu _ _ _ _ _ _ _ s4 upd_same (fun x hx => by rw [List.mem_singleton.mp hx]; exact hx1) (.inr ⟨_, rfl⟩) cost_tell rfl
          · refine ifD (fun z => ht7 (by cases z; rfl)) ?_
            refine ⟨(by first | decide | (show (0 : Int) < _; decide)), fun q0 hq0 => ⟨_, rfl, _, _, rfl, rfl, ?_⟩⟩
            obtain ⟨wd, hwd, haw⟩ := at_map V.str [("add" : Str), "sub", "add", "sub", "mul"] (z := t - 2) (by omega) (by simp only [List.length_cons, List.length_nil]; omega)
            obtain ⟨o, rfl⟩ : ∃ o, wd = word o := by
              simp only [List.mem_cons, List.not_mem_nil, or_false] at hwd
              rcases hwd with e | e | e | e | e
              · exact ⟨.add, e⟩
              · exact ⟨.sub, e⟩
              · exact ⟨.add, e⟩
              · exact ⟨.sub, e⟩
              · exact ⟨.mul, e⟩
            refine ⟨q0, _, _, _, rfl, rfl, SqL.of upd_same, haw, ?_⟩
            have s4 : Same H2 (upd H3 q0 (.lst [.str "add", .str "sub", .str "add", .str "sub", .str "mul"])) := fun b o e => by rw [upd_ne (s3.ne e hq0)]; exact s3 b o e
            generalize upd H3 q0 (.lst [.str "add", .str "sub", .str "add", .str "sub", .str "mul"]) = H4 at s4
            dsimp only [gName]
            show tSeq (tIfS _ _ _) _ _ [some (.ref a), some (.ref n), some (.ref pr), some (.ref pk), some (.int mu), some (.int i), some (.int t), some (.str nm), some (.int sa), v9, v10, v11, some (.str (word o)), v13, v14] H4
            refine seqTail (fun σ' H' => ∃ (o' : Kd) (mu' : Int), σ' = [some (.ref a), some (.ref n), some (.ref pr), some (.ref pk), some (.int mu'), some (.int i), some (.int t), some (.str nm), some (.int sa), v9, v10, v11, some (.str (word o')), v13, v14] ∧ Same H2 H' ∧ CostO mu o' mu') ?_ ?_
            · rintro σ' H5 ⟨o', mu', rfl, s5, hco⟩
              have hk5 := s5 pk _ hk2
              obtain ⟨x2, hx2, ha2⟩ := pick (sa / 6 + (i : Int))
              refine ⟨_, rfl, _, rfl, _, rfl, pk, _, rfl, .inl (SqL.of hk5), _, _, rfl, rfl, hkp, pk, _, _, _, rfl, rfl, SqL.of hk5, ha1, ?_⟩
              refine ⟨_, rfl, _, rfl, _, _, rfl, rfl, ⟨by decide, by decide⟩, _, rfl, _, _, rfl, rfl, _, rfl, pk, _, rfl, .inl (SqL.of hk5), _, _, rfl, rfl, hkp, pk, _, _, _, rfl, rfl, SqL.of hk5, ha2, ?_⟩
              refine ⟨_, rfl, .inl ⟨rfl, _, SqL.of (s5 pr _ hr2)⟩, _, rfl, _, rfl, _, rfl, _, rfl, lk 4, fun q1 hq1 => ?_⟩
              have s6 : Same H2 (upd H5 q1 (.tup [.str (word o'), .str nm, .str x1, .str x2])) := fun b o e => by rw [upd_ne (s5.ne e hq1)]; exact s5 b o e
              refine ⟨pr, xs, _, rfl, rfl, s6 pr _ hr2, hsm, ?_⟩
              refine put _ q1 (.op o' nm x1 x2) mu' _ _ _ _ _ _ _ s6 upd_same (fun x hx => ?_) (.inl rfl) (cost_op hco) rfl
              simp only [uses, List.mem_cons, List.not_mem_nil, or_false] at hx
              rcases hx with e | e
              · rw [e]; exact hx1
              · rw [e]; exact hx2
            · intro U2 tl2
              refine ⟨_, rfl, rfl, _, rfl, ?_⟩
              by_cases ho : o = .mul
              · subst ho
                refine itD rfl ?_
                refine ⟨_, rfl, _, _, rfl, rfl, (by first | decide | (show (0 : Int) < _; decide)), fun q1 hq1 => ⟨_, rfl, _, _, rfl, rfl, .inr ⟨_, rfl, ?_⟩⟩⟩
                have s5 : Same H2 (upd H4 q1 (.lst [.str "mul", .str "sub"])) := fun b o e => by rw [upd_ne (s4.ne e hq1)]; exact s4 b o e
                by_cases hm : (5 : Int) < mu + 1
                · refine ⟨q1, _, _, .str "sub", rfl, rfl, SqL.of upd_same, ?_, tl2 _ _ ⟨.sub, mu + 1, rfl, s5, by omega, (fun h => nomatch h)⟩⟩
                  rw [decide_eq_true hm]; exact at1
                · refine ⟨q1, _, _, .str "mul", rfl, rfl, SqL.of upd_same, ?_, tl2 _ _ ⟨.mul, mu + 1, rfl, s5, by omega, fun _ => ⟨by omega, by omega⟩⟩⟩
                  rw [decide_eq_false hm]; exact at0
              · refine ifD (fun z => ho ?_) (tl2 _ _ ⟨o, mu, rfl, s4, Int.le_refl _, fun z => absurd z ho⟩)
                have z' : word o = "mul" := V.str.inj z
                revert z'
                cases o
                · intro z'; exact absurd z' (by decide +kernel)
                · intro z'; exact absurd z' (by decide +kernel)
                · intro _; rfl
        · -- the test
          refine ⟨_, rfl, _, _, rfl, rfl, _, rfl, ?_⟩
          by_cases ht2 : t < 2
          · exact itD ht2 (hUA _ (Same.refl _))
          · refine ifD ht2 ?_
            refine ⟨_, rfl, (by first | decide | (show (0 : Int) < _; decide)), fun q hq => ⟨pk, q, _, rfl, rfl, SqL.of (by rw [upd_ne (ne_of_none hk2 hq)]; exact hk2), SqL.of upd_same, _, rfl, ?_⟩⟩
            cases kn with
            | nil => exact itB rfl (hUA _ (same_upd hq))
            | cons y ks => exact ifB rfl (hUB _ ⟨same_upd hq, by omega, by simp⟩)
    · rintro σ H2 ⟨xs, rows, kn, mu, v5, v6, v7, v8, v9, v10, v11, v12, v13, v14, rfl, s2, hr2, hk2, hR, hrl, hv, ham, hkn, hkl, hnb⟩
      exact ⟨_, rfl, k pr xs rows H2 hpr s2 hr2 hR ⟨hv, ham, by omega, _, hnb⟩⟩
end
end Fp
namespace Fp
open PySem L2
theorem app_codes (a b : Str) : (a ++ b).cps.toList = a.cps.toList ++ b.cps.toList := by
  show (a.cps ++ b.cps).toList = _
  simp
theorem app_length (a b : Str) : (a ++ b).length = a.length + b.length := by
  show (a.cps ++ b.cps).size = _
  simp [Str.length]
theorem nd_of_map {α β : Type} {f : α → β} {l : List α} (h : (l.map f).Nodup) : l.Nodup := (List.pairwise_map.mp h).imp fun hne e => hne (congrArg f e)
def digs : List Str := (List.range 14).map fun k => (Str.ofString (toString ((0 : Int) + ((k : Nat) : Int))))
theorem digs_len : digs.length = 14 := by decide +kernel
theorem digs_codes : digs.map (fun s => s.cps.toList) = [[48], [49], [50], [51], [52], [53], [54], [55], [56], [57], [49, 48], [49, 49], [49, 50], [49, 51]] := by decide +kernel
def six (ch : Nat) (x : Str) : List Str := [⟨#[ch]⟩, ⟨#[ch]⟩ ++ ".", "." ++ ⟨#[ch]⟩, "", ⟨#[ch]⟩ ++ "..", x]
theorem six_codes (ch : Nat) (x : Str) : (six ch x).map (fun s => s.cps.toList) = [[ch], [ch, 46], [46, ch], [], [ch, 46, 46], x.cps.toList] := by
  have e1 : ("." : Str).cps.toList = [46] := by decide +kernel
  have e2 : (".." : Str).cps.toList = [46, 46] := by decide +kernel
  have e3 : ("" : Str).cps.toList = [] := by decide +kernel
  simp only [six, List.map_cons, List.map_nil, app_codes, e1, e2, e3]
  rfl
def sixth (ch : Nat) (x : Str) : Prop := x = "long " ++ ⟨#[ch]⟩ ∨ x = Txt.mul ⟨#[ch]⟩ 40
theorem sixth_codes {ch : Nat} {x : Str} (h : sixth ch x) : x.cps.toList = [108, 111, 110, 103, 32, ch] ∨ x.cps.toList = List.replicate 40 ch := by
  rcases h with rfl | rfl
  · refine .inl ?_
    have e1 : ("long " : Str).cps.toList = [108, 111, 110, 103, 32] := by decide +kernel
    rw [app_codes, e1]; rfl
  · exact .inr (PyProof.Rows.mul_one_list ch 40)
theorem nd_six {ch : Nat} {x : Str} (hc : ch ≠ 46) (hx : sixth ch x) : (six ch x).Nodup := by
  refine nd_of_map (f := fun s => s.cps.toList) ?_
  rw [six_codes]
  have hc' : ¬ 46 = ch := fun e => hc e.symm
  rcases sixth_codes hx with e | e <;> rw [e] <;> simp [hc, hc', List.replicate]
theorem nd_twenty {ch : Nat} {x : Str} (hc : ch ≠ 46) (hx : sixth ch x) : (six ch x ++ digs.map fun d => (⟨#[ch]⟩ : Str) ++ d).Nodup := by
  refine nd_of_map (f := fun s => s.cps.toList) ?_
  have e : (digs.map fun d => (⟨#[ch]⟩ : Str) ++ d).map (fun s => s.cps.toList) = (digs.map fun s => s.cps.toList).map fun l => ch :: l := by
    rw [List.map_map, List.map_map]
    refine List.map_congr_left fun d _ => ?_
    show ((⟨#[ch]⟩ : Str) ++ d).cps.toList = _
    rw [app_codes]; rfl
  rw [List.map_append, six_codes, e, digs_codes]
  have hc' : ¬ 46 = ch := fun e => hc e.symm
  rcases sixth_codes hx with e | e <;> rw [e] <;> simp [hc, hc', List.replicate]
theorem letters_no_point : ∀ c ∈ ("abcdefghijklmnopqrstuvwxyzABCXYZ0189_ -" : Str).cps.toList, c ≠ 46 := by decide +kernel
theorem letters_len : ("abcdefghijklmnopqrstuvwxyzABCXYZ0189_ -" : Str).cps.toList.length = 39 := by decide +kernel
theorem signs_are : ("abcdefghijklmnopqrstuvwxyz" : Str).cps.toList = (List.range 26).map fun k => 97 + k := by decide +kernel
theorem sign_at {z : Int} (h0 : 0 ≤ z) (h1 : z < 26) : atI ("abcdefghijklmnopqrstuvwxyz" : Str).cps.toList z = some (97 + z.toNat) := by
  have e : ((z.toNat : Nat) : Int) = z := Int.toNat_of_nonneg h0
  rw [signs_are, ← e]
  refine atI_nat ?_
  rw [Int.toNat_natCast, List.getElem?_map, List.getElem?_range (by omega)]; rfl
def alike (c : Int) (p q : Str) (k : Nat) : Str := p ++ ⟨#[97 + ((c + 7 * (k : Int)) % 26).toNat]⟩ ++ q
theorem alike_inj {c : Int} {p q : Str} {j k : Nat} (hj : j < 20) (hk : k < 20) (h : alike c p q j = alike c p q k) : j = k := by
  have e := congrArg (fun s : Str => s.cps.toList) h
  simp only [alike, app_codes] at e
  have e2 : ([97 + ((c + 7 * (j : Int)) % 26).toNat] : List Nat) = [97 + ((c + 7 * (k : Int)) % 26).toNat] := by
    have := List.append_cancel_right e
    exact List.append_cancel_left this
  have e3 : 97 + ((c + 7 * (j : Int)) % 26).toNat = 97 + ((c + 7 * (k : Int)) % 26).toNat := by simpa using e2
  omega
theorem nd_alike (c : Int) (p q : Str) {n : Nat} (hn : n ≤ 20) : ((List.range n).map (alike c p q)).Nodup := by
  refine List.pairwise_map.mpr ?_
  refine List.Pairwise.imp_of_mem ?_ (List.nodup_range (n := n))
  intro a b ha hb hne e
  exact hne (alike_inj (Nat.lt_of_lt_of_le (List.mem_range.mp ha) hn) (Nat.lt_of_lt_of_le (List.mem_range.mp hb) hn) e)
section
variable {P : Program} {w : World} {K : PySem.W.Frag} {mg : Str → Option Value} {base : Heap}
def spNamesOf : Sp := fun vs H Q _ => ∃ (c : Int), vs = [.int c] ∧ ∀ (p : Addr) (ss : List Str) (H' : Hp), H p = none → Same H H' → H' p = some (.lst (ss.map V.str)) → ss.Nodup → 1 ≤ ss.length → ss.length ≤ 20 → Q (.ref p) H'
theorem fd_names_of (B : Blt mg) (F : Fn K mg "_law_names_of" (top 31)) : Fd P w K mg base 1 "_law_names_of" ["_law_cell"] spNamesOf := by
  have sc : FnScope ["_law_cell", "_law_wide", "_law_letter", "_law_some", "_law_size", "_law_spot", "_law_signs", "_law_k", "_law_sign"] ["_law_cell"] (defScope (top 31)) := ⟨rfl, rfl, rfl, by decide +kernel, rfl, by decide +kernel, by decide +kernel⟩
  refine F.fd sc (fun vs H Q E h => ?_) (fun _ _ _ _ _ _ us hl => by obtain ⟨a0, rfl⟩ := us1 hl; rfl) (fun f cdv A outer s H vs Q E hr h => ?_)
  · obtain ⟨c, rfl, _⟩ := h
    rfl
  · obtain ⟨c, rfl, k⟩ := h
    refine ⟨_, (pss_cons (ps_set (i := 1) sc.nd rfl (Or.inl rfl) (pe_op op_mul pe_int (pe_callTy call_int1 rfl B.int_ bt_int (pa_cons (pe_cmpR op_eq (pe_op op_mod (pe_op op_fdiv (pv 0) pe_int) pe_int) pe_int (nomark _)) pa_nil))))
    (pss_cons (ps_set (i := 2) sc.nd rfl (Or.inr rfl) (pe_ix ix_str pe_str (pe_op op_mod (pe_op op_fdiv (pv 0) pe_int) pe_int) (fun _ _ => rfl)))
    (pss_cons (ps_set (i := 3) sc.nd rfl (Or.inl rfl) (pe_lst (pa_cons (pv 2) (pa_cons (pe_op op_add_str (pv 2) pe_str) (pa_cons (pe_op op_add_str pe_str (pv 2)) (pa_cons pe_str (pa_cons (pe_op op_add_str (pv 2) pe_str) pa_nil)))))))
    (pss_cons (ps_expr (pe_bm PySem.F.plainAttrs_list PySem.F.slot_list_append PySem.F.type_list_append mt_append (pv 3) (pa_cons (pe_ix ix_list (pe_lst (pa_cons (pe_op op_add_str pe_str (pv 2)) (pa_cons (pe_op op_repS (pv 2) pe_int) pa_nil))) (pe_op op_mod (pe_op op_fdiv (pv 0) pe_int) pe_int) (fun _ _ => rfl)) pa_nil)))
    (pss_cons (ps_if (pt_cmpR op_gt (pv 1) pe_int (nomark _)) (pss_one (ps_set (i := 3) sc.nd rfl (Or.inl rfl) (pe_op op_cat (pv 3) (pe_comp (sc := defScope (top 31)) (fv := ["_law_letter"]) (js := [2]) ⟨rfl, rfl, by decide +kernel, by decide +kernel, rfl, by decide +kernel, by decide +kernel, by decide +kernel, rfl, by decide +kernel⟩ rfl (pi_range1 rfl B.range_ (pa_cons (pv 1) pa_nil)) (fun _ _ _ _ => pifs_nil) (fun _ _ _ _ => (pe_op op_add_str (pv 0) (pe_callTy call_str_int rfl B.str_ bt_str (pa_cons (pv 1) pa_nil)))))))) pss_nil)
    (pss_cons (ps_if (pt_cmpR op_eq (pe_op op_mod (pe_op op_fdiv (pv 0) pe_int) pe_int) pe_int (nomark _)) (pss_cons (ps_set (i := 4) sc.nd rfl (Or.inl rfl) (pe_op op_add pe_int (pe_op op_mod (pe_op op_fdiv (pv 0) pe_int) pe_int)))
      (pss_cons (ps_set (i := 5) sc.nd rfl (Or.inl rfl) (pe_op op_mod (pe_op op_fdiv (pv 0) pe_int) (pv 4)))
      (pss_cons (ps_set (i := 6) sc.nd rfl (Or.inl rfl) pe_str)
      (pss_one (ps_for PassesOwn.never rfl (pi_range1 rfl B.range_ (pa_cons (pe_callB call_len_seq rfl B.len_ PySem.boot_len (pa_cons (pv 3) pa_nil)) pa_nil)) (pg_name (i := 7) sc.nd rfl (Or.inl rfl)) (pss_cons (ps_set (i := 8) sc.nd rfl (Or.inl rfl) (pe_ix ix_str (pv 6) (pe_op op_mod (pe_op op_add (pv 0) (pe_op op_mul pe_int (pv 7))) pe_int) (fun _ _ => rfl)))
        (pss_one (ps_asg (pe_op op_add_str (pe_op op_add_str (pe_slice sl_str pe_str po_none (po_some (pv 5))) (pv 8)) (pe_slice sl_str pe_str (po_some (pe_op op_add (pv 5) pe_int)) (po_some (pv 4)))) (pg_sub (pv 3) (pv 7) set_list))))))))) pss_nil)
    (pss_one (ps_ret (pe_slice sl_list (pv 3) po_none (po_some (pe_op op_add (pe_op op_add pe_int (pe_op op_mod (pv 0) pe_int)) (pv 1)))))))))))), ?_⟩
    refine ⟨_, rfl, _, _, rfl, rfl, ⟨by decide, by decide⟩, _, _, rfl, rfl, (by first | decide | (show (0 : Int) < _; decide)), rfl, .inr ⟨_, rfl, _, _, rfl, rfl, .inl ⟨by decide, by decide⟩, ?_⟩⟩
    obtain ⟨wd, hwd, hwd2⟩ : ∃ wd : Int, (14 * if decide (V.int (c / 6 % 8) = V.int 1) = true then (1 : Int) else 0) = wd ∧ (wd = 0 ∨ wd = 14) := by
      refine ⟨_, rfl, ?_⟩
      split
      · right; rfl
      · left; rfl
    dsimp only [gName]
    show tSeq _ _ _ [some (.int c), some (.int (14 * if decide (V.int (c / 6 % 8) = V.int 1) = true then (1 : Int) else 0)), none, none, none, none, none, none, none] H
    rw [hwd]
    obtain ⟨ch, hch, hat⟩ := at_nat_list (l := ("abcdefghijklmnopqrstuvwxyzABCXYZ0189_ -" : Str).cps.toList) (z := c / 12 % 39) (by omega) (by rw [letters_len]; omega)
    have hch46 : ch ≠ 46 := letters_no_point ch hch
    refine ⟨_, rfl, _, _, rfl, rfl, ⟨by decide, by decide⟩, _, _, rfl, rfl, (by first | decide | (show (0 : Int) < _; decide)), _, _, ch, rfl, rfl, by decide +kernel, hat, ?_⟩
    have l1 : (⟨#[ch]⟩ : Str).length = 1 := rfl
    have dl : ∀ x : Str, x.length ≤ 100 → (⟨#[ch]⟩ : Str).length + x.length ≤ PySem.sizeLine ∧ x.length + (⟨#[ch]⟩ : Str).length ≤ PySem.sizeLine := fun x hx => by
      have : 101 ≤ PySem.sizeLine := (by first | decide | (show (0 : Int) < _; decide))
      rw [l1]; omega
    refine ⟨_, rfl, _, rfl, _, _, rfl, rfl, (dl _ (by decide +kernel)).1, _, rfl, _, _, rfl, rfl, (dl _ (by decide +kernel)).2, _, rfl, _, _, rfl, rfl, (dl _ (by decide +kernel)).1, lk 5, fun p0 hp0 => ?_⟩
    refine ⟨_, rfl, .inl ⟨rfl, _, SqL.of upd_same⟩, _, rfl, _, _, rfl, rfl, (dl _ (by decide +kernel)).2, _, rfl, _, _, rfl, rfl, by decide, by decide, by rw [l1]; decide, lk 2, fun p1 hp1 => ?_⟩
    obtain ⟨x5, hx5, hat5⟩ := at_map V.str [("long " : Str) ++ ⟨#[ch]⟩, Txt.mul ⟨#[ch]⟩ 40] (z := c / 5 % 2) (by omega) (by simp only [List.length_cons, List.length_nil]; omega)
    have h6 : sixth ch x5 := by
      simp only [List.mem_cons, List.not_mem_nil, or_false] at hx5
      exact hx5
    have n01 : p0 ≠ p1 := ne_of_none upd_same hp1
    refine ⟨_, rfl, _, _, rfl, rfl, ⟨by decide, by decide⟩, _, _, rfl, rfl, (by first | decide | (show (0 : Int) < _; decide)), p1, _, _, _, rfl, rfl, SqL.of upd_same, hat5, p0, _, _, rfl, rfl, by rw [upd_ne n01, upd_same], small1000 (by show 5 ≤ 1000; decide), ?_⟩
    have sA : Same H (upd (upd (upd H p0 (.lst [.str ⟨#[ch]⟩, .str (⟨#[ch]⟩ ++ "."), .str ("." ++ ⟨#[ch]⟩), .str "", .str (⟨#[ch]⟩ ++ "..")])) p1 (.lst [.str ("long " ++ ⟨#[ch]⟩), .str (Txt.mul ⟨#[ch]⟩ 40)])) p0 (.lst ([.str ⟨#[ch]⟩, .str (⟨#[ch]⟩ ++ "."), .str ("." ++ ⟨#[ch]⟩), .str "", .str (⟨#[ch]⟩ ++ "..")] ++ [.str x5]))) :=
      ((same_upd hp0).upd ((same_upd hp0).free hp1)).upd hp0
    have hA : (upd (upd (upd H p0 (.lst [.str ⟨#[ch]⟩, .str (⟨#[ch]⟩ ++ "."), .str ("." ++ ⟨#[ch]⟩), .str "", .str (⟨#[ch]⟩ ++ "..")])) p1 (.lst [.str ("long " ++ ⟨#[ch]⟩), .str (Txt.mul ⟨#[ch]⟩ 40)])) p0 (.lst ([.str ⟨#[ch]⟩, .str (⟨#[ch]⟩ ++ "."), .str ("." ++ ⟨#[ch]⟩), .str "", .str (⟨#[ch]⟩ ++ "..")] ++ [.str x5]))) p0 = some (.lst ((six ch x5).map V.str)) := upd_same
    generalize upd (upd (upd H p0 (.lst [.str ⟨#[ch]⟩, .str (⟨#[ch]⟩ ++ "."), .str ("." ++ ⟨#[ch]⟩), .str "", .str (⟨#[ch]⟩ ++ "..")])) p1 (.lst [.str ("long " ++ ⟨#[ch]⟩), .str (Txt.mul ⟨#[ch]⟩ 40)])) p0 (.lst ([.str ⟨#[ch]⟩, .str (⟨#[ch]⟩ ++ "."), .str ("." ++ ⟨#[ch]⟩), .str "", .str (⟨#[ch]⟩ ++ "..")] ++ [.str x5])) = HA at sA hA
    dsimp only [gName]
    show tSeq (tIfS _ _ _) _ _ [some (.int c), some (.int wd), some (.str ⟨#[ch]⟩), some (.ref p0), none, none, none, none, none] HA
    refine seqTail (fun σ' H' => ∃ (p : Addr) (ss : List Str), σ' = [some (.int c), some (.int wd), some (.str ⟨#[ch]⟩), some (.ref p), none, none, none, none, none] ∧ H p = none ∧ Same H H' ∧ H' p = some (.lst (ss.map V.str)) ∧ ss.Nodup ∧ (ss.length : Int) = 6 + wd) ?_ ?_
    rotate_left
    · intro U tl
      refine ⟨_, rfl, _, _, rfl, rfl, _, rfl, ?_⟩
      rcases hwd2 with e | e
      · subst e
        refine ifD ((by first | decide | (show (0 : Int) < _; decide))) (tl _ _ ⟨p0, six ch x5, rfl, hp0, sA, hA, nd_six hch46 h6, rfl⟩)
      · subst e
        refine itD ((by first | decide | (show (0 : Int) < _; decide))) ?_
        refine ⟨_, rfl, _, rfl, _, rfl, by decide, by decide, comp_range fun D hD => ⟨fun i ys H2 => i ≤ 14 ∧ Same HA H2 ∧ H2 D = some (.lst ys) ∧ ys = ((digs.take i).map fun d => (⟨#[ch]⟩ : Str) ++ d).map V.str,
          ⟨Nat.zero_le _, same_upd hD, upd_same, rfl⟩, fun i ys H2 h => h.1, ?_, ?_⟩⟩
        · rintro i ys H2 hi ⟨h1, s2, hD2, rfl⟩
          have hi : i < 14 := hi
          have hdi : digs[i]? = some (Str.ofString (toString ((0 : Int) + ((i : Nat) : Int)))) := by
            unfold digs
            rw [List.getElem?_map, List.getElem?_range hi]; rfl
          have hdl : (Str.ofString (toString ((0 : Int) + ((i : Nat) : Int)))).length ≤ 100 := by
            have hm := List.mem_of_getElem? hdi
            have all : ∀ d ∈ digs, d.length ≤ 100 := by decide +kernel
            exact all _ hm
          refine ⟨_, rfl, _, rfl, _, rfl, ?_, _, _, rfl, rfl, (dl _ hdl).1, hD2, ?_, hi, ?_, upd_same, ?_⟩
          · have : ((0 : Int) + ((i : Nat) : Int)).natAbs ≤ 14 := by omega
            refine Nat.lt_of_le_of_lt (Nat.log2_le_self _) ?_
            omega
          · refine small1000 ?_
            rw [List.length_map, List.length_map, List.length_take]; omega
          · exact fun b o e => by rw [upd_ne (ne_of_none e hD)]; exact s2 b o e
          · rw [List.take_add_one, hdi]
            simp
        · rintro ys H2 ⟨h1, s2, hD2, rfl⟩
          have hD2 : H2 D = some (.lst (((digs.take 14).map fun d => (⟨#[ch]⟩ : Str) ++ d).map V.str)) := hD2
          have e14 : digs.take 14 = digs := List.take_of_length_le ((by first | decide | (show (0 : Int) < _; decide)))
          rw [e14] at hD2
          refine ⟨p0, D, _, _, rfl, rfl, s2 p0 _ hA, hD2, (by rw [List.length_map, List.length_map, List.length_map]; show 6 + digs.length ≤ PySem.sizeLine; rw [digs_len]; decide), fun p2 hp2 => ?_⟩
          refine tl _ _ ⟨p2, six ch x5 ++ digs.map (fun d => (⟨#[ch]⟩ : Str) ++ d), rfl, (sA.trans s2).free hp2, (sA.trans s2).upd ((sA.trans s2).free hp2), ?_, nd_twenty hch46 h6, rfl⟩
          rw [upd_same, List.map_append]
    rintro σ' H' ⟨p, ss, rfl, hp, s3, h3, hnd, hlen⟩
    have hl20 : ss.length ≤ 20 := by omega
    show tSeq (tIfS _ _ _) _ _ [some (.int c), some (.int wd), some (.str ⟨#[ch]⟩), some (.ref p), none, none, none, none, none] H'
    refine seqTail (fun σ' H' => ∃ (ss' : List Str) (v4 v5 v6 v7 v8 : Option V), σ' = [some (.int c), some (.int wd), some (.str ⟨#[ch]⟩), some (.ref p), v4, v5, v6, v7, v8] ∧ Same H H' ∧ H' p = some (.lst (ss'.map V.str)) ∧ ss'.Nodup ∧ ss'.length = ss.length) ?_ ?_
    · rintro σ' H4 ⟨ss', v4, v5, v6, v7, v8, rfl, s4, h4, hnd4, hl4⟩
      refine ⟨_, rfl, _, rfl, _, _, rfl, rfl, (by first | decide | (show (0 : Int) < _; decide)), _, _, rfl, rfl, _, rfl, _, _, rfl, rfl, _, rfl, p, _, rfl, SqL.of h4, fun q hq => ?_⟩
      have hz : 0 ≤ 1 + c % 6 + wd := by omega
      rw [cut_to hz, ← List.map_take]
      refine k q (ss'.take (1 + c % 6 + wd).toNat) _ (s4.free hq) (s4.upd (s4.free hq)) upd_same (hnd4.sublist (List.take_sublist _ _)) ?_ ?_
      · rw [List.length_take]; omega
      · rw [List.length_take]; omega
    · intro U tl
      refine ⟨_, rfl, _, _, rfl, rfl, ⟨by decide, by decide⟩, _, _, rfl, rfl, (by first | decide | (show (0 : Int) < _; decide)), rfl, _, rfl, ?_⟩
      refine iteB (fun _ => ?_) (fun _ => tl _ _ ⟨ss, none, none, none, none, none, rfl, s3, h3, hnd, rfl⟩)
      refine ⟨_, rfl, _, _, rfl, rfl, ⟨by decide, by decide⟩, _, _, rfl, rfl, (by first | decide | (show (0 : Int) < _; decide)), _, _, rfl, rfl, ?_⟩
      dsimp only [gName]
      show tSeq (tAsg _ _) _ _ [some (.int c), some (.int wd), some (.str ⟨#[ch]⟩), some (.ref p), some (.int (1 + c / 936 % 8)), none, none, none, none] H'
      have hz1 : 1 ≤ 1 + c / 936 % 8 := by omega
      have hz8 : 1 + c / 936 % 8 ≤ 8 := by omega
      generalize 1 + c / 936 % 8 = sz at hz1 hz8
      refine ⟨_, rfl, _, _, rfl, rfl, ⟨by decide, by decide⟩, _, rfl, _, _, rfl, rfl, by omega, ?_⟩
      dsimp only [gName]
      show tSeq (tAsg _ _) _ _ [some (.int c), some (.int wd), some (.str ⟨#[ch]⟩), some (.ref p), some (.int sz), some (.int (c / 7488 % sz)), none, none, none] H'
      generalize c / 7488 % sz = sp
      refine ⟨_, rfl, p, _, rfl, .inl (SqL.of h3), _, rfl, ?_, ?_, ?_⟩
      · rw [List.length_map]; omega
      · rw [List.length_map]; omega
      rw [List.length_map, Int.toNat_natCast]
      generalize hpre : Txt.slice ("qrstuvwx" : Str) none (some sp) = pre
      generalize hpost : Txt.slice ("qrstuvwx" : Str) (some (sp + 1)) (some sz) = post
      have l8 : ("qrstuvwx" : Str).length = 8 := by decide +kernel
      have hprel : pre.length ≤ 8 := by rw [← hpre, ← l8]; exact Txt.slice_le _ _ _
      have hpostl : post.length ≤ 8 := by rw [← hpost, ← l8]; exact Txt.slice_le _ _ _
      refine for_range (fun i σ H2 => ∃ v7 v8, σ = [some (.int c), some (.int wd), some (.str ⟨#[ch]⟩), some (.ref p), some (.int sz), some (.int sp), some (.str "abcdefghijklmnopqrstuvwxyz"), v7, v8] ∧ Same H H2 ∧ H2 p = some (.lst (((List.range i).map (alike c pre post) ++ ss.drop i).map V.str))) ?_ ?_ ?_
      · exact ⟨none, none, rfl, s3, h3⟩
      · rintro i σ H2 hi ⟨v7, v8, rfl, s2, h2⟩
        rw [Int.zero_add]
        refine ⟨_, rfl, _, rfl, _, rfl, _, _, rfl, rfl, .inl ⟨by decide, by decide⟩, _, _, rfl, rfl, _, _, rfl, rfl, (by first | decide | (show (0 : Int) < _; decide)), _, _, _, rfl, rfl, by decide +kernel, sign_at (by omega) (by omega), ?_⟩
        have sl : ∀ n : Nat, n ≤ 100 → n ≤ PySem.sizeLine := fun n hn => Nat.le_trans hn ((by first | decide | (show (0 : Int) < _; decide)))
        refine ⟨_, rfl, _, rfl, _, rfl, by decide +kernel, ?_⟩
        rw [hpre]
        refine ⟨_, rfl, _, _, rfl, rfl, sl _ (by show pre.length + 1 ≤ 100; omega), _, rfl, _, _, rfl, rfl, _, rfl, _, rfl, _, rfl, _, rfl, by decide +kernel, ?_⟩
        rw [hpost]
        refine ⟨_, _, rfl, rfl, sl _ (by rw [app_length]; show pre.length + 1 + post.length ≤ 100; omega), ?_⟩
        refine ⟨_, rfl, _, rfl, p, _, _, i, rfl, rfl, h2, ?_, ?_⟩
        · have hlen2 : (((List.range i).map (alike c pre post) ++ ss.drop i).map V.str).length = ss.length := by
            rw [List.length_map, List.length_append, List.length_map, List.length_range, List.length_drop]; omega
          unfold ixN
          rw [if_pos (by omega), if_pos (by rw [hlen2]; omega), Int.toNat_natCast]
        · refine ⟨_, _, rfl, fun b o e => by rw [upd_ne (ne_of_none e hp)]; exact s2 b o e, ?_⟩
          rw [upd_same]
          congr 2
          have e1 : ss.drop i = ss[i] :: ss.drop (i + 1) := List.drop_eq_getElem_cons hi
          rw [e1, List.range_succ, List.map_append, List.map_append, List.map_append, List.map_append, List.set_append_right _ _ (by simp)]
          have e2 : List.drop i (ss.map V.str) = V.str ss[i] :: List.drop (i + 1) (ss.map V.str) := by rw [← List.map_drop, e1, List.map_cons, List.map_drop]
          simp [alike]
          rw [e2]; rfl
      · rintro σ H2 ⟨v7, v8, rfl, s2, h2⟩
        rw [List.drop_length, List.append_nil] at h2
        exact tl _ _ ⟨_, _, _, _, _, _, rfl, s2, h2, nd_alike c pre post hl20, by simp⟩
end
end Fp
namespace Fp
open PySem L2
section
variable {P : Program} {w : World} {K : PySem.W.Frag} {mg : Str → Option Value} {base : Heap}
def spReck : Sp := fun vs H Q _ => ∃ (o : Kd) (a b : Int), vs = [.str (word o), .int a, .int b] ∧ CMulW a b ∧ Q (.int (reck o a b)) H
theorem w_add_sub : ¬ (V.str "sub" = V.str "add") := by decide +kernel
theorem w_mul_add : ¬ (V.str "mul" = V.str "add") := by decide +kernel
theorem w_mul_sub : ¬ (V.str "mul" = V.str "sub") := by decide +kernel
theorem fd_reckoned (B : Blt mg) (F : Fn K mg "_law_reckoned" (top 37)) : Fd P w K mg base 1 "_law_reckoned" ["_law_word", "_law_one", "_law_two"] spReck := by
  have sc : FnScope ["_law_word", "_law_one", "_law_two"] ["_law_word", "_law_one", "_law_two"] (defScope (top 37)) := ⟨rfl, rfl, rfl, by decide +kernel, rfl, by decide +kernel, by decide +kernel⟩
  refine F.fd sc (fun vs H Q E h => ?_) (fun _ _ _ _ _ _ us hl => by obtain ⟨a0, a1, a2, rfl⟩ := us3 hl; rfl) (fun f cdv A outer s H vs Q E hr h => ?_)
  · obtain ⟨o, a, b, rfl, _⟩ := h
    rfl
  · obtain ⟨o, a, b, rfl, hc, k⟩ := h
    refine ⟨_, (pss_cons (ps_if (pt_cmpR op_eq (pv 0) pe_str (nomark _)) (pss_one (ps_ret (pe_op op_add (pv 1) (pv 2)))) pss_nil)
    (pss_cons (ps_if (pt_cmpR op_eq (pv 0) pe_str (nomark _)) (pss_one (ps_ret (pe_op op_sub (pv 1) (pv 2)))) pss_nil)
    (pss_one (ps_ret (pe_op op_mulW (pv 1) (pv 2)))))), ?_⟩
    cases o with
    | add => exact ⟨_, rfl, rfl, _, rfl, itD rfl ⟨_, rfl, _, rfl, _, _, rfl, rfl, k⟩⟩
    | sub => exact ⟨_, rfl, rfl, _, rfl, ifD w_add_sub ⟨_, rfl, rfl, _, rfl, itD rfl ⟨_, rfl, _, rfl, _, _, rfl, rfl, k⟩⟩⟩
    | mul => exact ⟨_, rfl, rfl, _, rfl, ifD w_mul_add ⟨_, rfl, rfl, _, rfl, ifD w_mul_sub ⟨_, rfl, _, rfl, _, _, rfl, rfl, hc, k⟩⟩⟩
structure KeptAt (H : Hp) (d l t : Addr) (x : Done) : Prop where
  m : H d = some (.dK (enc x.m))
  left : H l = some (.lst (x.left.map V.int))
  told : H t = some (.lst (x.told.map V.int))
  ne : l ≠ t
def Rest (H H' : Hp) (d l t : Addr) : Prop := ∀ b, b ≠ d → b ≠ l → b ≠ t → H' b = H b
theorem KeptAt.dl {H : Hp} {d l t : Addr} {x : Done} (h : KeptAt H d l t x) : d ≠ l := ne_of h.m h.left (fun z => nomatch z)
theorem KeptAt.dt {H : Hp} {d l t : Addr} {x : Done} (h : KeptAt H d l t x) : d ≠ t := ne_of h.m h.told (fun z => nomatch z)
def spDone : Sp := fun vs H Q _ => ∃ (a d l t : Addr) (r : GRow) (x y : Done) (i c : Nat), vs = [.ref a, .ref d, .ref l, .ref t] ∧ H a = some (.tup (growV r)) ∧ KeptAt H d l t x ∧ stepG x r = some y ∧ Bd x i c ∧ bits i c ≤ 100000 ∧ x.m.length ≤ 1000 ∧ x.told.length ≤ 1000 ∧
  ∀ H', KeptAt H' d l t y → Rest H H' d l t → Q .non H'
theorem fd_done (B : Blt mg) (D_law_reckoned : Fd P w K mg base 1 "_law_reckoned" ["_law_word", "_law_one", "_law_two"] spReck) (F : Fn K mg "_law_row_done" (top 38)) : Fd P w K mg base 2 "_law_row_done" ["_law_row", "_law_values", "_law_left", "_law_told"] spDone := by
  have sc : FnScope ["_law_row", "_law_values", "_law_left", "_law_told"] ["_law_row", "_law_values", "_law_left", "_law_told"] (defScope (top 38)) := ⟨rfl, rfl, rfl, by decide +kernel, rfl, by decide +kernel, by decide +kernel⟩
  refine F.fd sc (fun vs H Q E h => ?_) (fun _ _ _ _ _ _ us hl => by obtain ⟨a0, a1, a2, a3, rfl⟩ := us4 hl; rfl) (fun f cdv A outer s H vs Q E hr h => ?_)
  · obtain ⟨a, d, l, t, r, x, y, i, c, rfl, _⟩ := h
    rfl
  · obtain ⟨a, d, l, t, r, x, y, i, c, rfl, ha, hk, hs, hb, hbits, hml, htl, k⟩ := h
    have hu := hu_of hr
    have hT : SqT K H a (growV r) := SqT.of ha
    have big : ∀ z, Below (bits i c) z → Below 100000 z := fun z q => below_mono q hbits
    have putd : ∀ (H1 : Hp) (n : Key) (z : Int) (lf : List Int), KeptAt H1 d l t { x with left := lf } → Rest H H1 d l t → (∀ y', y' = { x with m := putZ x.m n z, left := lf } → stepG x r = some y') → ∃ b H4, V.ref d = V.ref b ∧ DPut H1 b (kV n) (.int z) H4 ∧ Q .non H4 := by
      intro H1 n z lf k1 r1 e
      have := e _ rfl
      rw [hs] at this
      cases this
      refine ⟨d, _, rfl, DPut.k k1.m (small1000 (by rw [enc_len]; exact hml)), k _ ⟨?_, ?_, ?_, k1.ne⟩ fun b h1 h2 h3 => by rw [upd_ne h1]; exact r1 b h1 h2 h3⟩
      · rw [upd_same, enc_put]
      · rw [upd_ne k1.dl.symm]; exact k1.left
      · rw [upd_ne k1.dt.symm]; exact k1.told
    refine ⟨_, (pss_one (ps_if (pt_cmpR op_eq (pe_ix ix_tup (pv 0) pe_int (fun _ _ => rfl)) pe_str (nomark _)) (pss_one (ps_expr (pe_bm PySem.F.plainAttrs_list PySem.F.slot_list_append PySem.F.type_list_append mt_append (pv 3) (pa_cons (pe_dget hu (pv 1) (pe_ix ix_tup (pv 0) pe_int (fun _ _ => rfl)) (fun _ _ => rfl)) pa_nil)))) (pss_one (ps_if (pt_cmpR op_eq (pe_ix ix_tup (pv 0) pe_int (fun _ _ => rfl)) pe_str (nomark _)) (pss_one (ps_dput hu (pv 1) (pe_ix ix_tup (pv 0) pe_int (fun _ _ => rfl)) (pe_bm PySem.F.plainAttrs_list PySem.F.slot_list_pop PySem.F.type_list_pop mt_popAt (pv 2) (pa_cons pe_int pa_nil)) rfl)) (pss_one (ps_if (pt_cmpR op_eq (pe_ix ix_tup (pv 0) pe_int (fun _ _ => rfl)) pe_str (nomark _)) (pss_one (ps_dput hu (pv 1) (pe_ix ix_tup (pv 0) pe_int (fun _ _ => rfl)) (pe_ix ix_tup (pv 0) pe_int (fun _ _ => rfl)) rfl)) (pss_one (ps_dput hu (pv 1) (pe_ix ix_tup (pv 0) pe_int (fun _ _ => rfl)) (pe_fd D_law_reckoned (hr.mono (by decide)) rfl (pa_cons (pe_ix ix_tup (pv 0) pe_int (fun _ _ => rfl)) (pa_cons (pe_dget hu (pv 1) (pe_ix ix_tup (pv 0) pe_int (fun _ _ => rfl)) (fun _ _ => rfl)) (pa_cons (pe_dget hu (pv 1) (pe_ix ix_tup (pv 0) pe_int (fun _ _ => rfl)) (fun _ _ => rfl)) pa_nil)))) rfl)))))))), ?_⟩
    cases r with
    | tell n =>
      obtain ⟨z, hz, rfl⟩ := Option.map_eq_some_iff.mp hs
      refine ⟨_, rfl, a, _, _, _, rfl, rfl, hT, at0, rfl, _, rfl, itD rfl ?_⟩
      refine ⟨_, rfl, .inl ⟨rfl, _, SqL.of hk.told⟩, _, rfl, _, rfl, a, _, _, _, rfl, rfl, hT, at1, d, .int z, rfl, ?_, ?_⟩
      · have q := DGet.k (k := n) hk.m
        rw [enc_get, hz] at q
        exact q
      refine ⟨t, _, _, rfl, rfl, hk.told, small1000 (by rw [List.length_map]; exact htl), ?_⟩
      refine k _ ⟨?_, ?_, ?_, hk.ne⟩ fun b h1 h2 h3 => by rw [upd_ne h3]
      · rw [upd_ne hk.dt]; exact hk.m
      · rw [upd_ne hk.ne]; exact hk.left
      · rw [upd_same]; simp
    | take n =>
      cases hl : x.left with
      | nil => rw [show stepG x (.take n) = none from by simp [stepG, hl]] at hs; cases hs
      | cons z lf =>
        refine ⟨_, rfl, a, _, _, _, rfl, rfl, hT, at0, rfl, _, rfl, ifD n_take_tell ?_⟩
        refine ⟨_, rfl, a, _, _, _, rfl, rfl, hT, at0, rfl, _, rfl, itD rfl ?_⟩
        have hlf := hk.left
        rw [hl] at hlf
        refine ⟨_, rfl, .inl ⟨rfl, _, SqL.of hlf⟩, l, _, 0, 0, .int z, rfl, rfl, hlf, by decide, by decide, ?_, rfl, ?_⟩
        · rw [List.map_cons, List.length_cons]
          unfold seqIndex?
          simp
        refine ⟨_, rfl, _, rfl, a, _, _, _, rfl, rfl, SqT.of (by rw [upd_ne (ne_of ha hk.left (fun z => nomatch z))]; exact ha), at1, ?_⟩
        refine putd _ n z lf ⟨?_, ?_, ?_, hk.ne⟩ (fun b h1 h2 h3 => by rw [upd_ne h2]) fun y' e => by rw [e]; simp [stepG, hl]
        · rw [upd_ne hk.dl]; exact hk.m
        · rw [upd_same]; rfl
        · rw [upd_ne hk.ne.symm]; exact hk.told
    | set n z =>
      refine ⟨_, rfl, a, _, _, _, rfl, rfl, hT, at0, rfl, _, rfl, ifD n_set_tell ?_⟩
      refine ⟨_, rfl, a, _, _, _, rfl, rfl, hT, at0, rfl, _, rfl, ifD (by decide +kernel) ?_⟩
      refine ⟨_, rfl, a, _, _, _, rfl, rfl, hT, at0, rfl, _, rfl, itD rfl ?_⟩
      refine ⟨_, rfl, a, _, _, _, rfl, rfl, hT, at2, _, rfl, _, rfl, a, _, _, _, rfl, rfl, hT, at1, ?_⟩
      exact putd H n z x.left ⟨hk.m, hk.left, hk.told, hk.ne⟩ (fun _ _ _ _ => rfl) fun y' e => by rw [e]; rfl
    | op o n p q =>
      obtain ⟨p', hp, h⟩ := Option.bind_eq_some_iff.mp hs
      obtain ⟨q', hq, _⟩ := Option.map_eq_some_iff.mp h
      refine ⟨_, rfl, a, _, _, _, rfl, rfl, hT, at0, rfl, _, rfl, ifD (n_word_tell o) ?_⟩
      refine ⟨_, rfl, a, _, _, _, rfl, rfl, hT, at0, rfl, _, rfl, ifD (by cases o <;> decide +kernel) ?_⟩
      refine ⟨_, rfl, a, _, _, _, rfl, rfl, hT, at0, rfl, _, rfl, ifD (by cases o <;> decide +kernel) ?_⟩
      have g1 := DGet.k (k := p) hk.m
      rw [enc_get, hp] at g1
      have g2 := DGet.k (k := q) hk.m
      rw [enc_get, hq] at g2
      refine ⟨_, rfl, a, _, _, _, rfl, rfl, hT, at0, _, rfl, _, rfl, a, _, _, _, rfl, rfl, hT, at2, d, .int p', rfl, g1, _, rfl, _, rfl, a, _, _, _, rfl, rfl, hT, at3, d, .int q', rfl, g2, ?_⟩
      refine ⟨o, p', q', rfl, ⟨big _ (hb.get hp), big _ (hb.get hq)⟩, ?_⟩
      refine ⟨_, rfl, _, rfl, a, _, _, _, rfl, rfl, hT, at1, ?_⟩
      exact putd H n (reck o p' q') x.left ⟨hk.m, hk.left, hk.told, hk.ne⟩ (fun _ _ _ _ => rfl) fun y' e => by rw [e]; simp [stepG, hp, hq]
def spComes (K : PySem.W.Frag) : Sp := fun vs H Q _ => ∃ (c : Int) (a : Addr) (xs : List V) (rows : List Row), vs = [.int c, .ref a] ∧ SqL K H a xs ∧ RowsAt H xs rows ∧ rows.length ≤ 100 ∧
  ∀ (p : Addr) (ns : List Int) (H' : Hp), H p = none → Same H H' → H' p = some (.lst (ns.map V.int)) → ns.length = rows.countP isTake → (∀ z ∈ ns, z.natAbs < 10 ^ 30) → Q (.ref p) H'
theorem take_word (r : Row) : ∃ v tl, rowV r = v :: tl ∧ scal v (V.str "take") = true ∧ decide (v = V.str "take") = isTake r := by
  cases r with
  | set n z => exact ⟨_, _, rfl, rfl, by show _ = false; decide +kernel⟩
  | take n => exact ⟨_, _, rfl, rfl, by show _ = true; decide +kernel⟩
  | op o n x y => exact ⟨_, _, rfl, rfl, by show _ = false; cases o <;> decide +kernel⟩
  | tell n => exact ⟨_, _, rfl, rfl, by show _ = false; decide +kernel⟩
theorem fd_comes (B : Blt mg) (F : Fn K mg "_law_comes_in" (top 32)) : Fd P w K mg base 1 "_law_comes_in" ["_law_cell", "_law_rows"] (spComes K) := by
  have sc : FnScope ["_law_cell", "_law_rows", "_law_count", "_law_numbers", "_law_k", "_law_number", "_law_far"] ["_law_cell", "_law_rows"] (defScope (top 32)) := ⟨rfl, rfl, rfl, by decide +kernel, rfl, by decide +kernel, by decide +kernel⟩
  refine F.fd sc (fun vs H Q E h => ?_) (fun _ _ _ _ _ _ us hl => by obtain ⟨a0, a1, rfl⟩ := us2 hl; rfl) (fun f cdv A outer s H vs Q E hr h => ?_)
  · obtain ⟨c, a, xs, rows, rfl, _⟩ := h
    rfl
  · obtain ⟨c, a, xs, rows, rfl, hS, hR, hlen, k⟩ := h
    have hxl : xs.length = rows.length := hR.length
    refine ⟨_, (pss_cons (ps_set (i := 2) sc.nd rfl (Or.inl rfl) (pe_callB call_len_seq rfl B.len_ PySem.boot_len (pa_cons (pe_comp (sc := defScope (top 32)) (fv := []) (js := []) ⟨rfl, rfl, by decide +kernel, by decide +kernel, rfl, by decide +kernel, by decide +kernel, by decide +kernel, rfl, by decide +kernel⟩ rfl (pi_list (pv 1)) (fun _ _ _ _ => (pifs_one (pt_cmpR op_eq (pe_ix (ix_tupK (K := K)) (pv 0) pe_int (fun _ _ => rfl)) pe_str (nomark _)))) (fun _ _ _ _ => (pv 0))) pa_nil)))
    (pss_cons (ps_set (i := 3) sc.nd rfl (Or.inl rfl) (pe_lst pa_nil))
    (pss_cons (ps_for PassesOwn.never rfl (pi_range1 rfl B.range_ (pa_cons (pv 2) pa_nil)) (pg_name (i := 4) sc.nd rfl (Or.inl rfl)) (pss_cons (ps_set (i := 5) sc.nd rfl (Or.inl rfl) (pe_op op_sub (pe_op op_mod (pe_op op_add (pe_op op_fdiv (pv 0) pe_int) (pe_op op_mul pe_int (pv 4))) pe_int) pe_int))
      (pss_cons (ps_set (i := 6) sc.nd rfl (Or.inl rfl) (pe_op op_mod (pe_op op_mul (pe_op op_add (pv 0) (pv 4)) pe_int) (pe_op op_pow pe_int pe_int)))
      (pss_one (ps_expr (pe_bm PySem.F.plainAttrs_list PySem.F.slot_list_append PySem.F.type_list_append mt_append (pv 3) (pa_cons (pe_ix ix_list (pe_lst (pa_cons (pv 5) (pa_cons pe_int (pa_cons (pe_op op_add pe_int (pv 4)) (pa_cons (pv 6) (pa_cons (pe_op op_sub pe_int (pv 6)) pa_nil)))))) (pe_op op_mod (pe_op op_add (pv 0) (pv 4)) pe_int) (fun _ _ => rfl)) pa_nil)))))))
    (pss_one (ps_ret (pv 3)))))), ?_⟩
    refine ⟨_, rfl, a, rfl, ⟨_, hS⟩, comp_list (K := K) (xs := xs) fun D hD => ⟨fun i ys H2 => i ≤ xs.length ∧ Same H H2 ∧ H2 D = some (.lst ys) ∧ ys.length = (rows.take i).countP isTake,
      ⟨Nat.zero_le _, same_upd hD, upd_same, rfl⟩, fun i ys H2 ⟨h1, s2, _⟩ => ⟨h1, s2.seq hS⟩, ?_, ?_⟩⟩
    · rintro i x ys H2 hi ⟨h1, s2, hD2, hy⟩
      have hlt : i < xs.length := (List.getElem?_eq_some_iff.mp hi).1
      obtain ⟨r, hri, b, rfl, hb⟩ := paired_get hR hi
      obtain ⟨v, tl, er, hf, hd⟩ := take_word r
      have hb2 := s2 b _ hb
      rw [er] at hb2
      have hty : rows.take (i + 1) = rows.take i ++ [r] := by rw [List.take_add_one, hri]; rfl
      refine ⟨_, rfl, b, _, _, _, rfl, rfl, SqT.of hb2, at0, hf, _, rfl, ?_⟩
      have hyl : ys.length < PySem.sizeLine := small1000 (by
        rw [hy]
        refine Nat.le_trans List.countP_le_length ?_
        rw [List.length_take]; omega)
      refine iteB (fun e => ?_) fun e => ?_
      · rw [hd] at e
        refine ⟨_, rfl, hD2, hyl, hlt, fun b o q => ?_, upd_same, ?_⟩
        · rw [upd_ne (ne_of_none q hD)]; exact s2 b o q
        · rw [hty, List.countP_append, List.length_append, hy]
          simp [e]
      · rw [hd] at e
        refine ⟨hlt, s2, hD2, ?_⟩
        rw [hty, List.countP_append, hy]
        simp [e]
    · rintro ys H2 ⟨_, s2, hD2, hy⟩
      rw [hxl, List.take_length] at hy
      refine ⟨D, _, rfl, .inl (SqL.of hD2), ?_⟩
      refine ⟨(by first | decide | (show (0 : Int) < _; decide)), fun pn hpn => ?_⟩
      have hpn0 : H pn = none := s2.free hpn
      have s3 : Same H (upd H2 pn (.lst [])) := fun b o e => by rw [upd_ne (ne_of_none e hpn0)]; exact s2 b o e
      have hcl : rows.countP isTake ≤ rows.length := List.countP_le_length
      rw [hy]
      refine ⟨_, rfl, _, rfl, ?_, ?_, ?_⟩
      · omega
      · omega
      have hN : ((rows.countP isTake : Nat) : Int).toNat = rows.countP isTake := Int.toNat_natCast _
      rw [hN]
      refine for_range (fun i σ H4 => ∃ (ns : List Int) (v4 v5 v6 : Option V), σ = [some (.int c), some (.ref a), some (.int (rows.countP isTake : Nat)), some (.ref pn), v4, v5, v6] ∧ Same H H4 ∧ H4 pn = some (.lst (ns.map V.int)) ∧ ns.length = i ∧ ∀ z ∈ ns, z.natAbs < 10 ^ 30) ?_ ?_ ?_
      · exact ⟨[], none, none, none, rfl, s3, upd_same, rfl, (fun _ h => nomatch h)⟩
      · rintro i σ H4 hi ⟨ns, v4, v5, v6, rfl, s4, hn4, hnl, hns⟩
        rw [Int.zero_add]
        refine ⟨_, rfl, _, _, rfl, rfl, ⟨by decide, by decide⟩, _, rfl, _, _, rfl, rfl, .inl ⟨by decide, by decide⟩, _, _, rfl, rfl, _, _, rfl, rfl, (by first | decide | (show (0 : Int) < _; decide)), _, _, rfl, rfl, ?_⟩
        refine ⟨_, rfl, _, rfl, _, _, rfl, rfl, _, _, rfl, rfl, .inr ⟨by decide, by decide⟩, _, _, rfl, rfl, ⟨by decide, by decide, (by first | decide | (show (0 : Int) < _; decide))⟩, _, _, rfl, rfl, (by first | decide | (show (0 : Int) < _; decide)), ?_⟩
        dsimp only [gName]
        show tDrop _ _ [some (.int c), some (.ref a), some (.int (rows.countP isTake : Nat)), some (.ref pn), some (.int i), some (.int ((c / 3 + 7 * (i : Int)) % 60 - 20)), some (.int ((c + (i : Int)) * 48271 % 10 ^ (30 : Int).toNat))] H4
        have hf0 : 0 ≤ (c + (i : Int)) * 48271 % 10 ^ (30 : Int).toNat := Int.emod_nonneg _ (by decide)
        have hf1 : (c + (i : Int)) * 48271 % 10 ^ (30 : Int).toNat < 10 ^ (30 : Int).toNat := Int.emod_lt_of_pos _ (by decide)
        have e30 : (10 : Int) ^ (30 : Int).toNat = 1000000000000000000000000000000 := by decide
        replace hf1 := Int.lt_of_lt_of_le hf1 (Int.le_of_eq e30)
        generalize (c + (i : Int)) * 48271 % 10 ^ (30 : Int).toNat = far at hf0 hf1
        have hm0 : -20 ≤ (c / 3 + 7 * (i : Int)) % 60 - 20 := by omega
        have hm1 : (c / 3 + 7 * (i : Int)) % 60 - 20 < 40 := by omega
        generalize (c / 3 + 7 * (i : Int)) % 60 - 20 = num at hm0 hm1
        obtain ⟨z, hz, hat⟩ := at_map V.int [num, 0, 1000000000000 + (i : Int), far, 0 - far] (z := (c + (i : Int)) % 5) (by omega) (by simp only [List.length_cons, List.length_nil]; omega)
        have hzs : z.natAbs < 10 ^ 30 := by
          have e31 : (10 : Nat) ^ 30 = 1000000000000000000000000000000 := by decide
          rw [e31]
          simp only [List.mem_cons, List.not_mem_nil, or_false] at hz
          rcases hz with e | e | e | e | e <;> rw [e] <;> omega
        refine ⟨_, rfl, .inl ⟨rfl, _, SqL.of hn4⟩, _, rfl, _, rfl, _, _, rfl, rfl, _, rfl, _, rfl, _, _, rfl, rfl, lk 5, fun pm hpm => ?_⟩
        refine ⟨_, rfl, _, rfl, _, _, rfl, rfl, _, _, rfl, rfl, (by first | decide | (show (0 : Int) < _; decide)), pm, _, _, _, rfl, rfl, SqL.of upd_same, hat, ?_⟩
        have npm : pn ≠ pm := ne_of_none hn4 hpm
        refine ⟨pn, _, _, rfl, rfl, by rw [upd_ne npm]; exact hn4, small1000 (by rw [List.length_map]; omega), ns ++ [z], _, _, _, rfl, fun b o e => ?_, ?_, by simp [hnl], fun y hy => ?_⟩
        · rw [upd_ne (ne_of_none e hpn0), upd_ne (s4.ne e hpm)]; exact s4 b o e
        · rw [upd_same]; simp
        · rcases List.mem_append.mp hy with q | q
          · exact hns y q
          · rw [List.mem_singleton.mp q]; exact hzs
      · rintro σ H4 ⟨ns, v4, v5, v6, rfl, s4, hn4, hnl, hns⟩
        exact ⟨_, rfl, k pn ns H4 hpn0 s4 hn4 hnl hns⟩
end
end Fp
namespace Fp
open PySem L2
theorem bd_start {ns : List Int} (h : ∀ z ∈ ns, z.natAbs < 10 ^ 30) : Bd ⟨[], ns, []⟩ 0 0 :=
  ⟨fun q hq => absurd (show q ∈ ([] : List (Key × Int)) from hq) List.not_mem_nil, fun z hz => below30 (h z hz), fun q hq => absurd (show q ∈ ([] : List Int) from hq) List.not_mem_nil⟩
theorem seqSet {v : V} {i : Nat} {u : TS} {D : Ends} {σ : St} {H : Hp} (h : u D (σ.set i (some v)) H) : tSeq (tAsg (tC v) (gName i)) u D σ H := h
structure Exc (K : PySem.W.Frag) (mg : Str → Option Value) (c : Str) (C : Addr) : Prop where
  own : OwnX K C
  is_ : excIsIn K C = true
  at_ : mg c = some (.ref C)
structure Kinds (K : PySem.W.Frag) (C Cp Cv Ci Ct : Addr) (bv bi bt : Bool) : Prop where
  mp : matchIn K C Cp true = true
  mv : matchIn K C Cv bv = true
  mi : matchIn K C Ci bi = true
  mt : matchIn K C Ct bt = true
  kv : PySem.W.kitOne K (.ref C) (.ref Cv) = some bv
  ki : PySem.W.kitOne K (.ref C) (.ref Ci) = some bi
  kt : PySem.W.kitOne K (.ref C) (.ref Ct) = some bt
  ke : PySem.W.kitOne K (.ref C) (.type "ValueError") = some true
structure Errs (K : PySem.W.Frag) (mg : Str → Option Value) (Cp Cv Ci Ct : Addr) : Prop where
  p : Exc K mg "PlaceError" Cp
  v : Exc K mg "NoValue" Cv
  i : Exc K mg "NoInput" Ci
  t : Exc K mg "TooFew" Ct
  kv : Kinds K Cv Cp Cv Ci Ct true false false
  ki : Kinds K Ci Cp Cv Ci Ct false true false
  kt : Kinds K Ct Cp Cv Ci Ct false false true
  ve : mg "ValueError" = none
theorem cut_ints (ns : List Int) (lo hi : Option Int) : ∃ cs : List Int, cutV (ns.map V.int) lo hi = cs.map V.int ∧ cs = (ns.drop (HT.sIx ns.length 0 lo)).take (HT.sIx ns.length ns.length hi - HT.sIx ns.length 0 lo) := by
  refine ⟨_, ?_, rfl⟩
  unfold cutV
  rw [List.length_map, List.map_take, List.map_drop]
theorem cut_len (n : Nat) : HT.sIx n n (some (2 + 40)) - HT.sIx n 0 (some 2) ≤ 40 := by
  have h1 : HT.sIx n n (some (2 + 40)) = min 42 n := HT.sIx_nat n n 42
  have h2 : HT.sIx n 0 (some 2) = min 2 n := HT.sIx_nat n 0 2
  omega
end Fp
namespace Fp
open PySem L2
theorem inV_ints (z : Int) (l : List Int) : inV (.int z) (l.map V.int) = decide (z ∈ l) := by
  induction l with
  | nil => simp [inV]
  | cons y r ih =>
    have e1 : inV (.int z) ((y :: r).map V.int) = (eqV (.int y) (.int z) || inV (.int z) (r.map V.int)) := by simp [inV]
    rw [e1, ih]
    have e2 : eqV (.int y) (.int z) = decide (y = z) := by simp only [eqV]; by_cases h : y = z <;> simp [h]
    rw [e2]
    by_cases h : y = z
    · subst h; simp
    · have h' : ¬ z = y := fun e => h e.symm
      simp [h, h']
theorem low_len {vs : List Int} {z : Nat} (h : ∀ y : Int, 0 ≤ y → y < z → y ∈ vs) : z ≤ vs.length := by
  have hnd : ((List.range z).map fun i : Nat => (i : Int)).Nodup := List.pairwise_map.mpr (List.nodup_range.imp fun h e => h (by omega))
  have q := nodup_sub (m := vs) hnd fun x hx => by
    obtain ⟨i, hi, rfl⟩ := List.mem_map.mp hx
    exact h _ (by omega) (by have := List.mem_range.mp hi; omega)
  rwa [List.length_map, List.length_range] at q
section
variable {P : Program} {w : World} {K : PySem.W.Frag} {mg : Str → Option Value} {base : Heap}
def spLow : Sp := fun vs H Q _ => ∃ (a : Addr) (zs : List Int), vs = [.ref a] ∧ H a = some (.lst (zs.map V.int)) ∧ ∀ z, Low zs z → Q (.int z) H
theorem fd_low (B : Blt mg) (F : Fn K mg "lowest_free" (top 16)) : Fd P w K mg base 1 "lowest_free" ["taken"] spLow := by
  have sc : FnScope ["taken", "number"] ["taken"] (defScope (top 16)) := ⟨rfl, rfl, rfl, by decide +kernel, rfl, by decide +kernel, by decide +kernel⟩
  refine F.fd sc (fun vs H Q E h => ?_) (fun _ _ _ _ _ _ us hl => by obtain ⟨a0, rfl⟩ := us1 hl; rfl) (fun f cdv A outer s H vs Q E hr h => ?_)
  · obtain ⟨a, zs, rfl, _⟩ := h
    rfl
  · obtain ⟨a, zs, rfl, ha, k⟩ := h
    refine ⟨_, (pss_cons (ps_set (i := 1) sc.nd rfl (Or.inl rfl) pe_int)
    (pss_cons (ps_while PassesOwn.never (pt_cmpR op_in_seq (pv 1) (pv 0) (by with_unfolding_all rfl)) (pss_one (ps_aug (i := 1) sc.nd rfl (Or.inl rfl) pe_int ip_add)))
    (pss_one (ps_ret (pv 1))))), ?_⟩
    dsimp only [gName]
    refine seqSet ?_
    show tSeq (tWhile _ _) _ _ [some (.ref a), some (.int 0)] H
    refine ⟨fun m σ H2 => ∃ z : Nat, σ = [some (.ref a), some (.int (z : Int))] ∧ H2 = H ∧ (∀ y : Int, 0 ≤ y → y < z → y ∈ zs) ∧ m + z = zs.length + 1, ⟨zs.length + 1, 0, rfl, rfl, fun y h1 h2 => by omega, by omega⟩, ?_⟩
    rintro m σ H2 ⟨z, rfl, rfl, hz, hm⟩
    refine ⟨_, rfl, _, rfl, a, _, rfl, .inl (SqL.of ha), rfl, flat_ints _, _, rfl, ?_⟩
    show if inV (.int (z : Int)) (zs.map V.int) = true then _ else _
    rw [inV_ints]
    by_cases hin : (z : Int) ∈ zs
    · refine itD hin ⟨fun σ' H' => ∃ m', m' < m ∧ ∃ z : Nat, σ' = [some (.ref a), some (.int (z : Int))] ∧ H' = H2 ∧ (∀ y : Int, 0 ≤ y → y < z → y ∈ zs) ∧ m' + z = zs.length + 1, fun _ _ q => q, ?_⟩
      have hz1 : ∀ y : Int, 0 ≤ y → y < ((z + 1 : Nat) : Int) → y ∈ zs := fun y h1 h2 => by
        by_cases e : y = z
        · rw [e]; exact hin
        · exact hz y h1 (by omega)
      have hl := low_len hz1
      refine ⟨_, rfl, _, _, rfl, rfl, m - 1, by omega, z + 1, ?_, rfl, hz1, by omega⟩
      show [some (.ref a), some (V.int ((z : Int) + 1))] = [some (.ref a), some (V.int ((z + 1 : Nat) : Int))]
      congr 3
    · refine ifD hin ?_
      exact ⟨_, rfl, k z ⟨by omega, hin, hz⟩⟩
theorem first_at {rows : List Row} {i : Nat} {r : Row} {x : Str} (h : rows[i]? = some r) (hx : x ∈ uses1 r) (hno : ∀ q ∈ rows.take i, ¬ x ∈ uses1 q) : firstUse rows x = ((i : Nat) : Int) := by
  have hlt : i < rows.length := (List.getElem?_eq_some_iff.mp h).1
  unfold firstUse
  congr 1
  refine (List.findIdx_eq hlt).mpr ⟨?_, fun j hj => ?_⟩
  · rw [List.getElem?_eq_getElem hlt] at h
    rw [Option.some.inj h]; exact decide_eq_true hx
  · refine decide_eq_false (hno _ ?_)
    exact List.mem_take_iff_getElem.mpr ⟨j, by omega, rfl⟩
theorem first_none {rows : List Row} {x : Str} (hno : ∀ q ∈ rows, ¬ x ∈ uses1 q) : firstUse rows x = ((rows.length : Nat) : Int) := by
  unfold firstUse
  congr 1
  exact List.findIdx_eq_length.mpr fun q hq => decide_eq_false (hno q hq)
def spFirst (K : PySem.W.Frag) : Sp := fun vs H Q _ => ∃ (x : Str) (a : Addr) (xs : List V) (rows : List Row), vs = [.str x, .ref a] ∧ H a = some (.lst xs) ∧ RowsAt H xs rows ∧ ∀ H', Same H H' → Q (.int (firstUse rows x)) H'
theorem fd_first (B : Blt mg) (D_names_used : Fd P w K mg base 1 "names_used" ["row"] spUsed) (F : Fn K mg "first_use" (top 18)) : Fd P w K mg base 2 "first_use" ["name", "later"] (spFirst K) := by
  have sc : FnScope ["name", "later", "number", "row"] ["name", "later"] (defScope (top 18)) := ⟨rfl, rfl, rfl, by decide +kernel, rfl, by decide +kernel, by decide +kernel⟩
  refine F.fd sc (fun vs H Q E h => ?_) (fun _ _ _ _ _ _ us hl => by obtain ⟨a0, a1, rfl⟩ := us2 hl; rfl) (fun f cdv A outer s H vs Q E hr h => ?_)
  · obtain ⟨x, a, xs, rows, rfl, _⟩ := h
    rfl
  · obtain ⟨x, a, xs, rows, rfl, ha, hR, k⟩ := h
    refine ⟨_, (pss_cons (ps_for PassesOwn.never rfl (pi_enum rfl B.enumerate_ (pa_cons (pv 1) pa_nil)) (pg_tup rfl (pgs_cons (pg_name (i := 2) sc.nd rfl (Or.inl rfl)) (pgs_cons (pg_name (i := 3) sc.nd rfl (Or.inl rfl)) pgs_nil))) (pss_one (ps_if (pt_cmpR op_in_seq (pv 0) (pe_fd D_names_used (hr.mono (by decide)) rfl (pa_cons (pv 3) pa_nil)) (by with_unfolding_all rfl)) (pss_one (ps_ret (pv 2))) pss_nil)))
    (pss_one (ps_ret (pe_callB call_len_seq rfl B.len_ PySem.boot_len (pa_cons (pv 1) pa_nil))))), ?_⟩
    refine ⟨_, rfl, a, xs, rfl, SqL.of ha, for_enum (K := K) (a := a) (xs := xs) (fun i σ H2 => ∃ v2 v3, σ = [some (.str x), some (.ref a), v2, v3] ∧ Same H H2 ∧ ∀ r ∈ rows.take i, ¬ x ∈ uses1 r)
      ⟨none, none, rfl, Same.refl _, by rw [List.take_zero]; exact fun _ z => nomatch z⟩ (fun i σ H2 _ ⟨_, _, _, s2, _⟩ => SqL.of (s2 a _ ha)) ?_ ?_⟩
    · rintro i y p σ H2 hi hp ⟨v2, v3, rfl, s2, hno⟩
      obtain ⟨r, hr', ra, rfl, hra⟩ := paired_get hR hi
      have s3 : Same H (upd H2 p (.tup [.int i, .ref ra])) := fun b o e => by rw [upd_ne (s2.ne e hp)]; exact s2 b o e
      refine ⟨p, _, rfl, SqT.of upd_same, rfl, _, _, rfl, _, _, rfl, rfl, ?_⟩
      generalize upd H2 p (.tup [.int i, .ref ra]) = H3 at s3
      refine ⟨_, rfl, _, rfl, ra, r, rfl, s3 ra _ hra, fun l hl => ⟨l, _, rfl, .inl (SqL.of upd_same), rfl, flat_strs _, _, rfl, ?_⟩⟩
      have s4 : Same H (upd H3 l (.lst ((uses1 r).map V.str))) := fun b o e => by rw [upd_ne (s3.ne e hl)]; exact s3 b o e
      rw [inV_strs]
      by_cases hin : x ∈ uses1 r
      · refine itD hin ⟨_, rfl, ?_⟩
        have e : firstUse rows x = ((i : Nat) : Int) := by rw [first_at hr' hin hno]
        have q := k _ s4
        rw [e] at q
        exact q
      · refine ifD hin ⟨_, _, rfl, s4, fun q hq => ?_⟩
        rw [List.take_add_one, hr'] at hq
        rcases List.mem_append.mp hq with z | z
        · exact hno q z
        · have e : q = r := List.mem_singleton.mp z
          rw [e]; exact hin
    · rintro σ H2 ⟨v2, v3, rfl, s2, hno⟩
      have hxl : xs.length = rows.length := hR.length
      rw [hxl, List.take_length] at hno
      have q := k _ s2
      rw [first_none hno, ← hxl] at q
      exact ⟨_, rfl, a, _, rfl, .inl (SqL.of (s2 a _ ha)), q⟩
def spNarrow (K : PySem.W.Frag) : Sp := fun vs H Q _ => ∃ (d a : Addr) (m : Kept) (ns : List Str), vs = [.ref d, .ref a] ∧ H d = some (.dK (enc m)) ∧ H a = some (.lst (ns.map V.str)) ∧ ns.length ≤ 900 ∧ ∀ p H', H p = none → Same H H' → H' p = some (.dK (enc (narrow m ns))) → Q (.ref p) H'
theorem narrow_len (m : Kept) (ns : List Str) : (narrow m ns).length ≤ ns.length := by
  unfold narrow
  have go : ∀ (l : List Str) (acc : Kept), (l.foldl (fun k x => match getZ m (.inr x) with | some z => putZ k (.inr x) z | none => k) acc).length ≤ acc.length + l.length := by
    intro l
    induction l with
    | nil => intro acc; simp
    | cons x l ih =>
      intro acc
      rw [List.foldl_cons, List.length_cons]
      refine Nat.le_trans (ih _) ?_
      cases getZ m (.inr x) with
      | none => show acc.length + _ ≤ _; omega
      | some z =>
        have := putZ_len acc (.inr x) z
        show (putZ acc (.inr x) z).length + _ ≤ _
        omega
  have := go ns []
  rw [List.length_nil, Nat.zero_add] at this
  exact this
theorem narrow_snoc (m : Kept) (ns : List Str) (x : Str) : narrow m (ns ++ [x]) = match getZ m (.inr x) with
  | some z => putZ (narrow m ns) (.inr x) z
  | none => narrow m ns := by
  unfold narrow
  rw [List.foldl_append]
  rfl
theorem fd_narrowed (B : Blt mg) (F : Fn K mg "narrowed" (top 19)) : Fd P w K mg base 1 "narrowed" ["where", "names"] (spNarrow K) := by
  have sc : FnScope ["where", "names", "kept", "name"] ["where", "names"] (defScope (top 19)) := ⟨rfl, rfl, rfl, by decide +kernel, rfl, by decide +kernel, by decide +kernel⟩
  refine F.fd sc (fun vs H Q E h => ?_) (fun _ _ _ _ _ _ us hl => by obtain ⟨a0, a1, rfl⟩ := us2 hl; rfl) (fun f cdv A outer s H vs Q E hr h => ?_)
  · obtain ⟨d, a, m, ns, rfl, _⟩ := h
    rfl
  · obtain ⟨d, a, m, ns, rfl, hd, ha, hl, k⟩ := h
    have hu := hu_of hr
    refine ⟨_, (pss_cons (ps_set (i := 2) sc.nd rfl (Or.inl rfl) pe_dnewK)
    (pss_cons (ps_for PassesOwn.never rfl (pi_list (pv 1)) (pg_name (i := 3) sc.nd rfl (Or.inl rfl)) (pss_one (ps_if (pt_cmp (pc_din hu (pv 3) (pv 0))) (pss_one (ps_dput hu (pv 2) (pv 3) (pe_dget hu (pv 0) (pv 3) (fun _ _ => rfl)) rfl)) pss_nil)))
    (pss_one (ps_ret (pv 2))))), ?_⟩
    intro p hp
    have s1 : Same H (upd H p (.dK [])) := same_upd hp
    refine ⟨_, rfl, a, rfl, ⟨_, SqL.of (s1 a _ ha)⟩, for_list (K := K) (a := a) (xs := ns.map V.str) (fun j σ H2 => ∃ v3, σ = [some (.ref d), some (.ref a), some (.ref p), v3] ∧ Same H H2 ∧ H2 p = some (.dK (enc (narrow m (ns.take j)))))
      ⟨none, rfl, s1, upd_same⟩ (fun j σ H2 _ ⟨_, _, e, _⟩ => SqL.of (e a _ ha)) ?_ ?_⟩
    · rintro j y σ H2 hj ⟨v3, rfl, s2, hp2⟩
      rw [List.getElem?_map] at hj
      cases ej : ns[j]? with
      | none => rw [ej] at hj; cases hj
      | some x =>
        rw [ej] at hj
        obtain rfl : V.str x = y := Option.some.inj hj
        have htk : ns.take (j + 1) = ns.take j ++ [x] := by rw [List.take_add_one, ej]; rfl
        have hd2 := s2 d _ hd
        refine ⟨_, rfl, _, rfl, d, _, rfl, DGet.k (k := .inr x) hd2, _, rfl, ?_⟩
        rw [enc_get]
        cases hz : getZ m (.inr x) with
        | none =>
          refine ifB rfl ⟨_, rfl, s2, ?_⟩
          rw [htk, narrow_snoc, hz]; exact hp2
        | some z =>
          refine itB rfl ?_
          have g : DGet H2 d (kV (.inr x)) (some (.int z)) := by
            have q := DGet.k (k := .inr x) hd2
            rw [enc_get, hz] at q
            exact q
          have hlen : (enc (narrow m (ns.take j))).length < PySem.sizeLine := small1000 (by
            rw [enc_len]
            have h1 := narrow_len m (ns.take j)
            have h2 : (ns.take j).length ≤ ns.length := List.length_take_le' ..
            omega)
          refine ⟨_, rfl, _, rfl, d, .int z, rfl, g, _, rfl, _, rfl, p, _, rfl, DPut.k (k := .inr x) hp2 hlen, _, rfl, fun b o e => ?_, ?_⟩
          · rw [upd_ne (ne_of_none e hp)]; exact s2 b o e
          · rw [upd_same, enc_put, htk, narrow_snoc, hz]
    · rintro σ H2 ⟨v3, rfl, s2, hp2⟩
      rw [List.length_map, List.take_length] at hp2
      exact ⟨_, rfl, k p H2 hp s2 hp2⟩
def needs (r : Row) : Nat := max 1 (uses1 r).length
def spNeeds : Sp := fun vs H Q _ => ∃ a r, vs = [.ref a] ∧ H a = some (.tup (rowV r)) ∧ ∀ H', Same H H' → Q (.int (needs r : Nat)) H'
theorem fd_needs (B : Blt mg) (D_names_used : Fd P w K mg base 1 "names_used" ["row"] spUsed) (F : Fn K mg "places_needed" (top 13)) : Fd P w K mg base 2 "places_needed" ["row"] spNeeds := by
  have sc : FnScope ["row"] ["row"] (defScope (top 13)) := ⟨rfl, rfl, rfl, by decide +kernel, rfl, by decide +kernel, by decide +kernel⟩
  refine F.fd sc (fun vs H Q E h => ?_) (fun _ _ _ _ _ _ us hl => by obtain ⟨a0, rfl⟩ := us1 hl; rfl) (fun f cdv A outer s H vs Q E hr h => ?_)
  · obtain ⟨a, r, rfl, _⟩ := h
    rfl
  · obtain ⟨a, r, rfl, ha, k⟩ := h
    refine ⟨_, (pss_one (ps_ret (pe_callB (call_max2 rfl) rfl B.max_ bt_max (pa_cons pe_int (pa_cons (pe_callB call_len_seq rfl B.len_ PySem.boot_len (pa_cons (pe_fd D_names_used (hr.mono (by decide)) rfl (pa_cons (pv 0) pa_nil)) pa_nil)) pa_nil))))), ?_⟩
    refine ⟨_, rfl, a, r, rfl, ha, fun l hl => ⟨l, _, rfl, .inl (SqL.of upd_same), _, _, rfl, ?_⟩⟩
    have e : (if (((uses1 r).map V.str).length : Int) > 1 then (((uses1 r).map V.str).length : Int) else 1) = ((needs r : Nat) : Int) := by
      rw [List.length_map]
      unfold needs
      split <;> omega
    rw [e]
    exact k _ (same_upd hl)
def spFew (K : PySem.W.Frag) : Sp := fun vs H Q _ => ∃ (a : Addr) (n : Int) (xs : List V) (rows : List Row), vs = [.ref a, .int n] ∧ H a = some (.lst xs) ∧ RowsAt H xs rows ∧ (∀ r ∈ rows, ((needs r : Nat) : Int) ≤ n) ∧ ∀ H', Same H H' → Q .non H'
theorem fd_few (B : Blt mg) (D_places_needed : Fd P w K mg base 2 "places_needed" ["row"] spNeeds) (F : Fn K mg "refuse_too_few" (top 14)) : Fd P w K mg base 3 "refuse_too_few" ["rows", "places"] (spFew K) := by
  have sc : FnScope ["rows", "places", "number", "row"] ["rows", "places"] (defScope (top 14)) := ⟨rfl, rfl, rfl, by decide +kernel, rfl, by decide +kernel, by decide +kernel⟩
  refine F.fd sc (fun vs H Q E h => ?_) (fun _ _ _ _ _ _ us hl => by obtain ⟨a0, a1, rfl⟩ := us2 hl; rfl) (fun f cdv A outer s H vs Q E hr h => ?_)
  · obtain ⟨a, n, xs, rows, rfl, _⟩ := h
    rfl
  · obtain ⟨a, n, xs, rows, rfl, ha, hR, hn, k⟩ := h
    refine ⟨_, (pss_one (ps_for PassesOwn.never rfl (pi_enum rfl B.enumerate_ (pa_cons (pv 0) pa_nil)) (pg_tup rfl (pgs_cons (pg_name (i := 2) sc.nd rfl (Or.inl rfl)) (pgs_cons (pg_name (i := 3) sc.nd rfl (Or.inl rfl)) pgs_nil))) (pss_one (ps_if (pt_cmpR op_gt (pe_fd D_places_needed (hr.mono (by decide)) rfl (pa_cons (pv 3) pa_nil)) (pv 1) (nomark _)) (pss_one ps_never) pss_nil)))), ?_⟩
    refine ⟨_, rfl, a, xs, rfl, SqL.of ha, for_enum (K := K) (a := a) (xs := xs) (fun i σ H2 => ∃ v2 v3, σ = [some (.ref a), some (.int n), v2, v3] ∧ Same H H2)
      ⟨none, none, rfl, Same.refl _⟩ (fun i σ H2 _ ⟨_, _, _, s2⟩ => SqL.of (s2 a _ ha)) ?_ ?_⟩
    · rintro i y p σ H2 hi hp ⟨v2, v3, rfl, s2⟩
      obtain ⟨r, hr', ra, rfl, hra⟩ := paired_get hR hi
      have s3 : Same H (upd H2 p (.tup [.int i, .ref ra])) := fun b o e => by rw [upd_ne (s2.ne e hp)]; exact s2 b o e
      refine ⟨p, _, rfl, SqT.of upd_same, rfl, _, _, rfl, _, _, rfl, rfl, ?_⟩
      generalize upd H2 p (.tup [.int i, .ref ra]) = H3 at s3
      have := hn r (List.mem_of_getElem? hr')
      refine ⟨_, rfl, ra, r, rfl, s3 ra _ hra, fun H4 s4 => ⟨_, rfl, _, _, rfl, rfl, _, rfl, ifD (by omega) ⟨_, _, rfl, s3.trans s4⟩⟩⟩
    · rintro σ H2 ⟨v2, v3, rfl, s2⟩
      exact k _ s2
def spWriting : Sp := fun vs H Q _ => ∃ (a d : Addr) (q : Int) (r : Row) (m : Kept), vs = [.ref a, .int q, .ref d] ∧ H a = some (.tup (rowV r)) ∧ H d = some (.dK (enc m)) ∧ (∃ x, wr r = some x) ∧ (∀ x ∈ uses r, ∃ z, getZ m (.inr x) = some z) ∧
  ∀ i t, OnPlace m q r i → H t = none → Q (.ref t) (upd H t (.tup (irowV i)))
theorem fd_writing (B : Blt mg) (F : Fn K mg "writing_row" (top 26)) : Fd P w K mg base 1 "writing_row" ["row", "place", "used_at"] spWriting := by
  have sc : FnScope ["row", "place", "used_at"] ["row", "place", "used_at"] (defScope (top 26)) := ⟨rfl, rfl, rfl, by decide +kernel, rfl, by decide +kernel, by decide +kernel⟩
  refine F.fd sc (fun vs H Q E h => ?_) (fun _ _ _ _ _ _ us hl => by obtain ⟨a0, a1, a2, rfl⟩ := us3 hl; rfl) (fun f cdv A outer s H vs Q E hr h => ?_)
  · obtain ⟨a, d, q, r, m, rfl, _⟩ := h
    rfl
  · obtain ⟨a, d, q, r, m, rfl, ha, hd, ⟨x, hw⟩, hus, k⟩ := h
    have hu := hu_of hr
    have hT : SqT K H a (rowV r) := SqT.of ha
    refine ⟨_, (pss_cons (ps_if (pt_cmpR op_eq (pe_ix ix_tup (pv 0) pe_int (fun _ _ => rfl)) pe_str (nomark _)) (pss_one (ps_ret (pe_tup (pa_cons pe_str (pa_cons (pv 1) pa_nil))))) pss_nil)
    (pss_cons (ps_if (pt_cmpR op_eq (pe_ix ix_tup (pv 0) pe_int (fun _ _ => rfl)) pe_str (nomark _)) (pss_one (ps_ret (pe_tup (pa_cons pe_str (pa_cons (pv 1) (pa_cons (pe_ix ix_tup (pv 0) pe_int (fun _ _ => rfl)) pa_nil)))))) pss_nil)
    (pss_one (ps_ret (pe_tup (pa_cons (pe_ix ix_tup (pv 0) pe_int (fun _ _ => rfl)) (pa_cons (pv 1) (pa_cons (pe_dget hu (pv 2) (pe_ix ix_tup (pv 0) pe_int (fun _ _ => rfl)) (fun _ _ => rfl)) (pa_cons (pe_dget hu (pv 2) (pe_ix ix_tup (pv 0) pe_int (fun _ _ => rfl)) (fun _ _ => rfl)) pa_nil))))))))), ?_⟩
    cases r with
    | tell y => cases hw
    | take y =>
      refine ⟨_, rfl, a, _, _, _, rfl, rfl, hT, at0, rfl, _, rfl, itD rfl ?_⟩
      exact ⟨_, rfl, lk 2, fun t ht => k _ t (.take y) ht⟩
    | set y z =>
      refine ⟨_, rfl, a, _, _, _, rfl, rfl, hT, at0, rfl, _, rfl, ifD (by decide +kernel) ?_⟩
      refine ⟨_, rfl, a, _, _, _, rfl, rfl, hT, at0, rfl, _, rfl, itD rfl ?_⟩
      exact ⟨_, rfl, _, rfl, a, _, _, _, rfl, rfl, hT, at2, lk 3, fun t ht => k _ t (.set y z) ht⟩
    | op o y u v =>
      refine ⟨_, rfl, a, _, _, _, rfl, rfl, hT, at0, rfl, _, rfl, ifD (by cases o <;> decide +kernel) ?_⟩
      refine ⟨_, rfl, a, _, _, _, rfl, rfl, hT, at0, rfl, _, rfl, ifD (by cases o <;> decide +kernel) ?_⟩
      obtain ⟨zu, hzu⟩ := hus u (List.mem_cons_self ..)
      obtain ⟨zv, hzv⟩ := hus v (List.mem_cons_of_mem _ (List.mem_singleton.mpr rfl))
      have gu : DGet H d (kV (.inr u)) (some (.int zu)) := by
        have g := DGet.k (k := .inr u) hd
        rw [enc_get, hzu] at g
        exact g
      have gv : DGet H d (kV (.inr v)) (some (.int zv)) := by
        have g := DGet.k (k := .inr v) hd
        rw [enc_get, hzv] at g
        exact g
      exact ⟨_, rfl, a, _, _, _, rfl, rfl, hT, at0, _, rfl, _, rfl, _, rfl, a, _, _, _, rfl, rfl, hT, at2, d, .int zu, rfl, gu, _, rfl, _, rfl, a, _, _, _, rfl, rfl, hT, at3, d, .int zv, rfl, gv, lk 4, fun t ht => k _ t (.op o y u v zu zv hzu hzv) ht⟩
end
end Fp
namespace Fp
open PySem L2
structure Mn (K : PySem.W.Frag) (C : Addr) (m qual : Str) (st : Stmt) : Prop where
  ex : ∃ f fd, Fun K m qual st f fd ∧ Meth K C m f
theorem Mn.md {P : Program} {w : World} {K : PySem.W.Frag} {mg : Str → Option Value} {base : Heap} {C : Addr} {m qual : Str} {st : Stmt} {N ps : List Str} {k : Nat} {sp : Sp} (F : Mn K C m qual st) (S : FnScope N ps (defScope st)) (len : ∀ vs H Q E, sp vs H Q E → vs.length = ps.length)
    (bind : ∀ (kV doc pm : Value) (an : Option Addr) (cdv ct : Value) (us : List Value), us.length = ps.length → bindArgs (PySem.W.fnOf m qual (defArgs st) (defBody st) (defScope st) .none kV doc pm an cdv ct) ⟨us, []⟩ = pure (ps.zip us))
    (hbody : ∀ (f : Addr) (cdv : Value) (A : Around) (outer : List Env) (s : Shared) (H : Hp) (vs : List V) (Q : VK) (E : XK), Room k (A.deeper (PyProof.Rows.envOfC qual (defScope st) s.heap.objs.size f cdv)) → sp vs H Q E →
      ∃ t, PSs (cxOf CX0 P w K mg base N qual (defScope st) f cdv A outer s H E).nox (defBody st) t ∧ t { nx := fun _ H' => Q .non H', rt := Q } (start N vs) H) : Md P w K mg base C (k + 1) m ps sp := by
  obtain ⟨f, fd, F1, hm⟩ := F.ex
  exact ⟨f, fd, F1.ok S len (hbody f), hm, F1.binds bind⟩
structure Mni (K : PySem.W.Frag) (C : Addr) (qual : Str) (st : Stmt) : Prop where
  ex : ∃ f fd, Fun K "__init__" qual st f fd ∧ Mk K C f
theorem Mni.mi {P : Program} {w : World} {K : PySem.W.Frag} {mg : Str → Option Value} {base : Heap} {C : Addr} {qual : Str} {st : Stmt} {N ps : List Str} {k : Nat} {sp : Sp} (F : Mni K C qual st) (S : FnScope N ps (defScope st)) (len : ∀ vs H Q E, sp vs H Q E → vs.length = ps.length)
    (bind : ∀ (kV doc pm : Value) (an : Option Addr) (cdv ct : Value) (us : List Value), us.length = ps.length → bindArgs (PySem.W.fnOf "__init__" qual (defArgs st) (defBody st) (defScope st) .none kV doc pm an cdv ct) ⟨us, []⟩ = pure (ps.zip us))
    (hbody : ∀ (f : Addr) (cdv : Value) (A : Around) (outer : List Env) (s : Shared) (H : Hp) (vs : List V) (Q : VK) (E : XK), Room k (A.deeper (PyProof.Rows.envOfC qual (defScope st) s.heap.objs.size f cdv)) → sp vs H Q E →
      ∃ t, PSs (cxOf CX0 P w K mg base N qual (defScope st) f cdv A outer s H E).nox (defBody st) t ∧ t { nx := fun _ H' => Q .non H', rt := Q } (start N vs) H) : Mi P w K mg base C (k + 1) ps sp := by
  obtain ⟨f, fd, F1, hm⟩ := F.ex
  exact ⟨f, fd, F1.ok S len (hbody f), hm, F1.binds bind⟩
structure RoomC (K : PySem.W.Frag) (mg : Str → Option Value) (C : Addr) : Prop where
  cl : Cls K C
  n1 : NoAttr K C "places"
  n2 : NoAttr K C "place_of"
  n3 : NoAttr K C "spot_of"
  n4 : NoAttr K C "made"
  at_ : mg "Room" = some (.ref C)
def lamPos : Pos := match defBody (top 17) with
  | [.Return (some (.Call _ _ [⟨_, .Lambda _ _ _ p, _⟩] _)) _] => p
  | _ => ⟨0, 0, 0, 0⟩
def lamQual : Str := (("latest_used" : Str) ++ ".<locals>.") ++ "<lambda>"
abbrev Tab (H : Hp) (T : Addr) : Prop := TabAt H T lamPos lamQual
abbrev BMain (mg : Str → Option Value) (base : Heap) : Prop := ∃ bm ob, mg "__builtins__" = some (.ref bm) ∧ bm ≠ builtinsNs ∧ base.get? bm = some ob ∧ ob.cls = .type "module" ∧ ob.dict = some builtinsNs ∧ ob.data = .plain
section
variable {P : Program} {w : World} {K : PySem.W.Frag} {mg : Str → Option Value} {base : Heap} {C T cc : Addr}
def spLatest (T : Addr) : Sp := fun vs H Q _ => ∃ (l a : Addr) (ns : List Str) (xs : List V) (rows : List Row), vs = [.ref l, .ref a] ∧ H l = some (.lst (ns.map V.str)) ∧ ns ≠ [] ∧ H a = some (.lst xs) ∧ RowsAt H xs rows ∧ Tab H T ∧
  ∀ x H', Latest rows ns x → SameP T H H' → Tab H' T → Q (.str x) H'
theorem tab_ne {H : Hp} {T a : Addr} {o : HO} (h : Tab H T) (ha : H a = some o) (hn : ∀ ps, o ≠ .tbl ps) : a ≠ T := fun z => by
  rcases h with h | ⟨c', _, h, _⟩
  · rw [← z, ha] at h; exact hn _ (Option.some.inj h)
  · rw [← z, ha] at h; exact hn _ (Option.some.inj h)
theorem rows_samep {H H' : Hp} {T : Addr} {xs : List V} {rows : List Row} (ht : Tab H T) (h : RowsAt H xs rows) (s : SameP T H H') : RowsAt H' xs rows := Paired.mapP h fun _ _ ⟨a, e1, e2⟩ => ⟨a, e1, s a _ (tab_ne ht e2 (fun _ z => nomatch z)) e2⟩
theorem fd_latest (B : Blt mg) (D_first_use : Fd P w K mg base 2 "first_use" ["name", "later"] (spFirst K)) (CH : PySem.W.CodeHd base cc T) (hbm : BMain mg base)
    (hcode : ∀ f oc od fd osl, mg "latest_used" = some (.ref f) → K.lookup f = some ⟨oc, od, .func fd, osl⟩ → fd.code = .ref cc) (F : Fn K mg "latest_used" (top 17)) : Fd P w K mg base 5 "latest_used" ["names", "later"] (spLatest T) := by
  have sc : FnScope ["names", "later"] ["names", "later"] (defScope (top 17)) := ⟨rfl, rfl, rfl, by decide +kernel, rfl, by decide +kernel, by decide +kernel⟩
  obtain ⟨f, fd, F1, hm⟩ := F.ex
  obtain ⟨oc, od, kV, doc, pm, an, cdv, ct, osl, rfl, lk, hcd⟩ := F1.ex
  have ecd : cdv = .ref cc := hcode f oc od _ osl hm lk
  subst ecd
  refine ⟨f, _, fn_of (CX := CX0) lk hcd sc (fun vs H Q E h => ?_) (fun A outer s H vs Q E hr hsp => ?_), hm, F1.kp, F1.binds (fun _ _ _ _ _ _ us hl => by obtain ⟨a0, a1, rfl⟩ := us2 hl; rfl), F1.lk⟩
  · obtain ⟨l, a, ns, xs, rows, rfl, _⟩ := h
    rfl
  · obtain ⟨l, a, ns, xs, rows, rfl, hl, hne, ha, hR, ht, k⟩ := hsp
    have S : LamScope "name" "later" (match defBody (top 17) with | [.Return (some (.Call _ _ [⟨_, .Lambda _ _ sc _, _⟩] _)) _] => sc | _ => { kind := .function, names := [], isGenerator := false, isCoroutine := false }) := ⟨rfl, rfl, rfl, rfl, rfl, by decide +kernel, by decide +kernel⟩
    have hz : PSs (cxOf CX0 P w K mg base ["names", "later"] "latest_used" (defScope (top 17)) f (.ref cc) A outer s H E).nox (defBody (top 17)) _ :=
      (pss_one (ps_ret (pe_maxlam (k := 2) (i := 1) (pv 0) rfl B.max_ S rfl rfl rfl (fun c hc => by have e : some (s.heap.objs.size + 1) = some c := hc; cases e; rfl) rfl CH hbm (hr.mono (by decide)) (fun _ _ _ _ _ => rfl)
        (fun f c' cl s H hr' => pe_fd D_first_use hr' rfl (pa_cons (pv 0) (pa_cons (pv 1) pa_nil))) PyProof.Rows.boot_max)))
    refine ⟨_, hz.nox, ?_⟩
    refine ⟨_, rfl, l, _, .ref a, rfl, hl, ?_, rfl, tab_ne ht hl (fun _ z => nomatch z), ht, (fun v => match v with | .str x => firstUse rows x | _ => 0), fun v H2 hv sm => ?_, fun i v H2 hv sm ht2 => ?_⟩
    · rw [List.length_map]; exact List.length_pos_iff.mpr hne
    · obtain ⟨x, hx, rfl⟩ := List.mem_map.mp hv
      have ha2 := sm a _ (tab_ne ht ha (fun _ z => nomatch z)) ha
      exact ⟨_, rfl, _, rfl, x, a, xs, rows, rfl, ha2, rows_samep ht hR sm, fun H3 s3 => ⟨rfl, s3⟩⟩
    · obtain ⟨hv1, hv2⟩ := hv
      rw [List.getElem?_map] at hv1
      obtain ⟨x, hx, rfl⟩ := Option.map_eq_some_iff.mp hv1
      refine k x H2 ⟨i, hx, fun j y hj => ?_⟩ sm ht2
      exact hv2 j (.str y) (by rw [List.getElem?_map, hj]; rfl)
end
end Fp
namespace Fp
open PySem L2
def roomF (n : Int) (pp ps pm : Addr) : List (Str × V) := [("places", .int n), ("place_of", .ref pp), ("spot_of", .ref ps), ("made", .ref pm)]
theorem rf1 {n : Int} {pp ps pm : Addr} : (roomF n pp ps pm).lookup ("places" : Str) = some (V.int n) := by rfl
theorem rf2 {n : Int} {pp ps pm : Addr} : (roomF n pp ps pm).lookup ("place_of" : Str) = some (V.ref pp) := by rfl
theorem rf3 {n : Int} {pp ps pm : Addr} : (roomF n pp ps pm).lookup ("spot_of" : Str) = some (V.ref ps) := by rfl
theorem rf4 {n : Int} {pp ps pm : Addr} : (roomF n pp ps pm).lookup ("made" : Str) = some (V.ref pm) := by rfl
theorem rp2 {n : Int} {pp ps pm : Addr} {v : Addr} : putF "place_of" (.ref v) (roomF n pp ps pm) = roomF n v ps pm := by rfl
theorem rp3 {n : Int} {pp ps pm : Addr} {v : Addr} : putF "spot_of" (.ref v) (roomF n pp ps pm) = roomF n pp v pm := by rfl
structure Rat (C T : Addr) (H : Hp) (r pp ps pm : Addr) (n : Int) (R : Rm) : Prop where
  obj : ∃ dx, H r = some (.ins C dx (roomF n pp ps pm))
  pl : H pp = some (.dK (enc R.place))
  sp : H ps = some (.dK (enc R.spot))
  md : ∃ ms, H pm = some (.lst ms) ∧ IRowsAt H ms R.made
  ne : pp ≠ ps
  tab : Tab H T
def plain : HO → Bool
  | .tbl _ => false
  | .ext _ => false
  | .tup _ => false
  | _ => true
theorem tab_upd {H : Hp} {T a : Addr} {u : HO} (h : Tab H T) (ha : ∀ o, H a = some o → plain o = true) : Tab (upd H a u) T := by
  rcases h with h | ⟨c', n, h1, h2⟩
  · exact .inl (by rw [upd_ne (fun z => by rw [z] at h; have := ha _ h; cases this)]; exact h)
  · refine .inr ⟨c', n, ?_, ?_⟩
    · rw [upd_ne (fun z => by rw [z] at h1; have := ha _ h1; cases this)]; exact h1
    · rw [upd_ne (fun z => by rw [z] at h2; have := ha _ h2; cases this)]; exact h2
theorem irows_upd {H : Hp} {a : Addr} {u : HO} {xs : List V} {rows : List IRow} (h : IRowsAt H xs rows) (ha : ∀ o, H a = some o → plain o = true) : IRowsAt (upd H a u) xs rows :=
  Paired.mapP h fun _ _ ⟨b, e1, e2⟩ => ⟨b, e1, by rw [upd_ne (fun z => by rw [z] at e2; have := ha _ e2; cases this)]; exact e2⟩
section
variable {C T : Addr} {H H' : Hp} {r pp ps pm : Addr} {n : Int} {R : Rm}
theorem Rat.rp (h : Rat C T H r pp ps pm n R) : r ≠ pp := let ⟨_, e⟩ := h.obj; ne_of e h.pl (fun z => nomatch z)
theorem Rat.rs (h : Rat C T H r pp ps pm n R) : r ≠ ps := let ⟨_, e⟩ := h.obj; ne_of e h.sp (fun z => nomatch z)
theorem Rat.rm (h : Rat C T H r pp ps pm n R) : r ≠ pm := let ⟨_, e⟩ := h.obj; let ⟨_, e2, _⟩ := h.md; ne_of e e2 (fun z => nomatch z)
theorem Rat.pm_ (h : Rat C T H r pp ps pm n R) : pp ≠ pm := let ⟨_, e2, _⟩ := h.md; ne_of h.pl e2 (fun z => nomatch z)
theorem Rat.sm (h : Rat C T H r pp ps pm n R) : ps ≠ pm := let ⟨_, e2, _⟩ := h.md; ne_of h.sp e2 (fun z => nomatch z)
theorem plain_of {a : Addr} {u : HO} (h : H a = some u) (hp : plain u = true) : ∀ o, H a = some o → plain o = true := fun o e => by rw [h] at e; cases e; exact hp
theorem Rat.putP (h : Rat C T H r pp ps pm n R) (m : Kept) : Rat C T (upd H pp (.dK (enc m))) r pp ps pm n ⟨m, R.spot, R.made⟩ := by
  obtain ⟨dx, ho⟩ := h.obj
  obtain ⟨ms, hm, hI⟩ := h.md
  have hp := plain_of h.pl rfl
  exact ⟨⟨dx, by rw [upd_ne h.rp]; exact ho⟩, upd_same, by rw [upd_ne h.ne.symm]; exact h.sp, ⟨ms, by rw [upd_ne h.pm_.symm]; exact hm, irows_upd hI hp⟩, h.ne, tab_upd h.tab hp⟩
theorem Rat.putS (h : Rat C T H r pp ps pm n R) (m : Kept) : Rat C T (upd H ps (.dK (enc m))) r pp ps pm n ⟨R.place, m, R.made⟩ := by
  obtain ⟨dx, ho⟩ := h.obj
  obtain ⟨ms, hm, hI⟩ := h.md
  have hp := plain_of h.sp rfl
  exact ⟨⟨dx, by rw [upd_ne h.rs]; exact ho⟩, by rw [upd_ne h.ne]; exact h.pl, upd_same, ⟨ms, by rw [upd_ne h.sm.symm]; exact hm, irows_upd hI hp⟩, h.ne, tab_upd h.tab hp⟩
theorem Rat.putM (h : Rat C T H r pp ps pm n R) {ms : List V} {t : Addr} {i : IRow} (hm : H pm = some (.lst ms)) (hI : IRowsAt H ms R.made) (ht : H t = some (.tup (irowV i))) : Rat C T (upd H pm (.lst (ms ++ [.ref t]))) r pp ps pm n ⟨R.place, R.spot, R.made ++ [i]⟩ := by
  obtain ⟨dx, ho⟩ := h.obj
  have hp := plain_of hm rfl
  refine ⟨⟨dx, by rw [upd_ne h.rm]; exact ho⟩, by rw [upd_ne h.pm_]; exact h.pl, by rw [upd_ne h.sm]; exact h.sp, ⟨_, upd_same, paired_append (irows_upd hI hp) (.cons ⟨t, rfl, ?_⟩ .nil)⟩, h.ne, tab_upd h.tab hp⟩
  rw [upd_ne (fun z => by rw [z, hm] at ht; cases ht)]; exact ht
theorem Rat.same (h : Rat C T H r pp ps pm n R) (s : Same H H') : Rat C T H' r pp ps pm n R := by
  obtain ⟨dx, ho⟩ := h.obj
  obtain ⟨ms, hm, hI⟩ := h.md
  exact ⟨⟨dx, s r _ ho⟩, s pp _ h.pl, s ps _ h.sp, ⟨ms, s pm _ hm, hI.same s⟩, h.ne, tab_same h.tab s⟩
theorem Rat.samep (h : Rat C T H r pp ps pm n R) (s : SameP T H H') (ht : Tab H' T) : Rat C T H' r pp ps pm n R := by
  obtain ⟨dx, ho⟩ := h.obj
  obtain ⟨ms, hm, hI⟩ := h.md
  exact ⟨⟨dx, s r _ (tab_ne h.tab ho (fun _ z => nomatch z)) ho⟩, s pp _ (tab_ne h.tab h.pl (fun _ z => nomatch z)) h.pl, s ps _ (tab_ne h.tab h.sp (fun _ z => nomatch z)) h.sp,
    ⟨ms, s pm _ (tab_ne h.tab hm (fun _ z => nomatch z)) hm, Paired.mapP hI fun _ _ ⟨b, e1, e2⟩ => ⟨b, e1, s b _ (tab_ne h.tab e2 (fun _ z => nomatch z)) e2⟩⟩, h.ne, ht⟩
end
abbrev own5 (r pp ps pm T : Addr) : List Addr := [r, pp, ps, pm, T]
def optV (o : Option Int) : V := (o.map V.int).getD .non
section
variable {P : Program} {w : World} {K : PySem.W.Frag} {mg : Str → Option Value} {base : Heap} {C T : Addr}
def spInit (C : Addr) : Sp := fun vs H Q _ => ∃ (x dx : Addr) (n : Int), vs = [.ref x, .int n] ∧ H x = some (.ins C dx []) ∧
  ∀ pp ps pm H', H pp = none → H ps = none → H pm = none → pp ≠ ps → (∀ b o, b ≠ x → H b = some o → H' b = some o) → H' x = some (.ins C dx (roomF n pp ps pm)) → H' pp = some (.dK []) → H' ps = some (.dK []) → H' pm = some (.lst []) → Q .non H'
theorem mi_init (RC : RoomC K mg C) (F : Mni K C "Room.__init__" (inClass (top 15) 0)) : Mi P w K mg base C 1 ["self", "places"] (spInit C) := by
  have sc : FnScope ["self", "places"] ["self", "places"] (defScope (inClass (top 15) 0)) := ⟨rfl, rfl, rfl, by decide +kernel, rfl, by decide +kernel, by decide +kernel⟩
  refine F.mi sc (fun vs H Q E h => ?_) (fun _ _ _ _ _ _ us hl => by obtain ⟨a0, a1, rfl⟩ := us2 hl; rfl) (fun f cdv A outer s H vs Q E hr h => ?_)
  · obtain ⟨x, dx, n, rfl, _⟩ := h
    rfl
  · obtain ⟨x, dx, n, rfl, hx, k⟩ := h
    refine ⟨_, (pss_cons (ps_fld (pv 0) (pv 1) rfl)
    (pss_cons (ps_fld (pv 0) pe_dnewK rfl)
    (pss_cons (ps_fld (pv 0) pe_dnewK rfl)
    (pss_one (ps_fld (pv 0) (pe_lst pa_nil) rfl))))), ?_⟩
    refine ⟨_, rfl, _, rfl, x, C, dx, _, rfl, hx, RC.cl, RC.n1, by decide, fun pp hpp => ?_⟩
    have npp : pp ≠ x := fun z => by rw [z, upd_same] at hpp; cases hpp
    rw [upd_ne npp] at hpp
    refine ⟨_, rfl, x, C, dx, [("places", .int n)], rfl, by rw [upd_ne npp.symm, upd_same]; rfl, RC.cl, RC.n2, (by show (1 : Nat) < 1000; decide), fun ps hps => ?_⟩
    have nps : ps ≠ x := fun z => by rw [z, upd_same] at hps; cases hps
    rw [upd_ne nps] at hps
    have nsp : ps ≠ pp := fun z => by rw [z, upd_same] at hps; cases hps
    rw [upd_ne nsp, upd_ne nps] at hps
    refine ⟨_, rfl, x, C, dx, [("places", .int n), ("place_of", .ref pp)], rfl, by rw [upd_ne nps.symm, upd_same]; rfl, RC.cl, RC.n3, (by show (2 : Nat) < 1000; decide), (by first | decide | (show (0 : Int) < _; decide)), fun pm hpm => ?_⟩
    have npm : pm ≠ x := fun z => by rw [z, upd_same] at hpm; cases hpm
    rw [upd_ne npm] at hpm
    have nms : pm ≠ ps := fun z => by rw [z, upd_same] at hpm; cases hpm
    rw [upd_ne nms, upd_ne npm] at hpm
    have nmp : pm ≠ pp := fun z => by rw [z, upd_same] at hpm; cases hpm
    rw [upd_ne nmp, upd_ne npm] at hpm
    refine ⟨_, rfl, x, C, dx, [("places", .int n), ("place_of", .ref pp), ("spot_of", .ref ps)], rfl, by rw [upd_ne npm.symm, upd_same]; rfl, RC.cl, RC.n4, (by show (3 : Nat) < 1000; decide), ?_⟩
    refine k pp ps pm _ hpp hps hpm nsp.symm (fun b o hb e => ?_) (by rw [upd_same]; rfl) ?_ ?_ ?_
    · rw [upd_ne hb, upd_ne (ne_of_none e hpm), upd_ne hb, upd_ne (ne_of_none e hps), upd_ne hb, upd_ne (ne_of_none e hpp), upd_ne hb]; exact e
    · rw [upd_ne npp, upd_ne nmp.symm, upd_ne npp, upd_ne nsp.symm, upd_ne npp, upd_same]
    · rw [upd_ne nps, upd_ne nms.symm, upd_ne nps, upd_same]
    · rw [upd_ne npm, upd_same]
def spLying (C T : Addr) : Sp := fun vs H Q _ => ∃ (r pp ps pm : Addr) (n : Int) (R : Rm) (x : Str), vs = [.ref r, .str x] ∧ Rat C T H r pp ps pm n R ∧ ∀ t, H t = none → Q (.ref t) (upd H t (.tup [.str x, optV (getZ R.place (.inr x)), optV (getZ R.spot (.inr x))]))
theorem md_lying (RC : RoomC K mg C) (F : Mn K C "lying" "Room.lying" (inClass (top 15) 1)) : Md P w K mg base C 1 "lying" ["self", "name"] (spLying C T) := by
  have sc : FnScope ["self", "name"] ["self", "name"] (defScope (inClass (top 15) 1)) := ⟨rfl, rfl, rfl, by decide +kernel, rfl, by decide +kernel, by decide +kernel⟩
  refine F.md sc (fun vs H Q E h => ?_) (fun _ _ _ _ _ _ us hl => by obtain ⟨a0, a1, rfl⟩ := us2 hl; rfl) (fun f cdv A outer s H vs Q E hr h => ?_)
  · obtain ⟨r, pp, ps, pm, n, R, x, rfl, _⟩ := h
    rfl
  · obtain ⟨r, pp, ps, pm, n, R, x, rfl, hR, k⟩ := h
    have hu := hu_of hr
    obtain ⟨dx, ho⟩ := hR.obj
    have g1 := DGet.k (k := .inr x) hR.pl
    have g2 := DGet.k (k := .inr x) hR.sp
    rw [enc_get] at g1 g2
    refine ⟨_, (pss_one (ps_ret (pe_tup (pa_cons (pv 1) (pa_cons (pe_dget1 hu (pe_fld (pv 0) rfl) (pv 1) ⟨rfl, rfl, rfl, rfl⟩) (pa_cons (pe_dget1 hu (pe_fld (pv 0) rfl) (pv 1) ⟨rfl, rfl, rfl, rfl⟩) pa_nil)))))), ?_⟩
    exact ⟨_, rfl, _, rfl, r, C, dx, _, _, rfl, ho, RC.cl, RC.n2, rf2, pp, rfl, .inl ⟨_, Rd.of hR.pl⟩, _, rfl, _, g1, _, rfl, r, C, dx, _, _, rfl, ho, RC.cl, RC.n3, rf3, ps, rfl, .inl ⟨_, Rd.of hR.sp⟩, _, rfl, _, g2, lk 3, fun t ht => k t ht⟩
def spFetch (C T : Addr) : Sp := fun vs H Q _ => ∃ (r pp ps pm : Addr) (n : Int) (R : Rm) (x : Str) (p s : Int), vs = [.ref r, .str x, .int p] ∧ Rat C T H r pp ps pm n R ∧ getZ R.spot (.inr x) = some s ∧ R.place.length ≤ 900 ∧ R.made.length ≤ 990 ∧
  ∀ H', Rat C T H' r pp ps pm n ⟨putZ R.place (.inr x) p, R.spot, R.made ++ [.fetch p s]⟩ → Kp (own5 r pp ps pm T) H H' → Q .non H'
theorem md_fetch (RC : RoomC K mg C) (F : Mn K C "fetch" "Room.fetch" (inClass (top 15) 2)) : Md P w K mg base C 1 "fetch" ["self", "name", "place"] (spFetch C T) := by
  have sc : FnScope ["self", "name", "place"] ["self", "name", "place"] (defScope (inClass (top 15) 2)) := ⟨rfl, rfl, rfl, by decide +kernel, rfl, by decide +kernel, by decide +kernel⟩
  refine F.md sc (fun vs H Q E h => ?_) (fun _ _ _ _ _ _ us hl => by obtain ⟨a0, a1, a2, rfl⟩ := us3 hl; rfl) (fun f cdv A outer s H vs Q E hr h => ?_)
  · obtain ⟨r, pp, ps, pm, n, R, x, p, s, rfl, _⟩ := h
    rfl
  · obtain ⟨r, pp, ps, pm, n, R, x, p, sp, rfl, hR, hs, hl, hml, k⟩ := h
    have hu := hu_of hr
    obtain ⟨dx, ho⟩ := hR.obj
    refine ⟨_, (pss_cons (ps_dput hu (pe_fld (pv 0) rfl) (pv 1) (pv 2) rfl)
    (pss_one (ps_expr (pe_bm PySem.F.plainAttrs_list PySem.F.slot_list_append PySem.F.type_list_append mt_append (pe_fld (pv 0) rfl) (pa_cons (pe_tup (pa_cons pe_str (pa_cons (pv 2) (pa_cons (pe_dget hu (pe_fld (pv 0) rfl) (pv 1) (fun _ _ => rfl)) pa_nil)))) pa_nil))))), ?_⟩
    refine ⟨_, rfl, _, rfl, r, C, dx, _, _, rfl, ho, RC.cl, RC.n2, rf2, _, rfl, pp, _, rfl, DPut.k (k := .inr x) hR.pl (small1000 (by rw [enc_len]; omega)), ?_⟩
    have h1 := hR.putP (putZ R.place (.inr x) p)
    rw [← enc_put] at h1
    have kp1 : Kp (own5 r pp ps pm T) H (upd H pp (.dK (putK (enc R.place) (.inr x) (.int p)))) := Kp.upd (by simp)
    generalize upd H pp (.dK (putK (enc R.place) (.inr x) (.int p))) = H1 at h1 kp1
    obtain ⟨dx1, ho1⟩ := h1.obj
    obtain ⟨ms, hm, hI⟩ := h1.md
    have hms : ms.length = R.made.length := hI.length
    have g : DGet H1 ps (kV (.inr x)) (some (.int sp)) := by
      have q := DGet.k (k := .inr x) h1.sp
      rw [enc_get, hs] at q
      exact q
    refine ⟨_, rfl, r, C, dx1, _, _, rfl, ho1, RC.cl, RC.n4, rf4, .inl ⟨rfl, _, SqL.of hm⟩, _, rfl, _, rfl, r, C, dx1, _, _, rfl, ho1, RC.cl, RC.n3, rf3, _, rfl, ps, .int sp, rfl, g, lk 3, fun t ht => ?_⟩
    have s2 : Same H1 (upd H1 t (.tup [.str "fetch", .int p, .int sp])) := same_upd ht
    refine ⟨pm, ms, _, rfl, rfl, s2 pm _ hm, small1000 (by omega), k _ ((h1.same s2).putM (i := .fetch p sp) (s2 pm _ hm) (hI.same s2) upd_same) ((kp1.trans (Same.kp s2 _)).trans (Kp.upd (by simp)))⟩
def spShelve (C T : Addr) : Sp := fun vs H Q _ => ∃ (r pp ps pm : Addr) (n : Int) (R : Rm) (x : Str) (p : Int), vs = [.ref r, .str x] ∧ Rat C T H r pp ps pm n R ∧ getZ R.place (.inr x) = some p ∧ R.spot.length ≤ 900 ∧ R.made.length ≤ 990 ∧
  ∀ R' H', Shelve R x R' → Rat C T H' r pp ps pm n R' → Kp (own5 r pp ps pm T) H H' → Q .non H'
theorem md_shelve (B : Blt mg) (RC : RoomC K mg C) (D_lowest_free : Fd P w K mg base 1 "lowest_free" ["taken"] spLow) (F : Mn K C "shelve" "Room.shelve" (inClass (top 15) 3)) : Md P w K mg base C 2 "shelve" ["self", "name"] (spShelve C T) := by
  have sc : FnScope ["self", "name"] ["self", "name"] (defScope (inClass (top 15) 3)) := ⟨rfl, rfl, rfl, by decide +kernel, rfl, by decide +kernel, by decide +kernel⟩
  refine F.md sc (fun vs H Q E h => ?_) (fun _ _ _ _ _ _ us hl => by obtain ⟨a0, a1, rfl⟩ := us2 hl; rfl) (fun f cdv A outer s H vs Q E hr h => ?_)
  · obtain ⟨r, pp, ps, pm, n, R, x, p, rfl, _⟩ := h
    rfl
  · obtain ⟨r, pp, ps, pm, n, R, x, p, rfl, hR, hx, hl, hml, k⟩ := h
    have hu := hu_of hr
    obtain ⟨dx, ho⟩ := hR.obj
    have g0 := DGet.k (k := .inr x) hR.sp
    rw [enc_get] at g0
    refine ⟨_, (pss_one (ps_if (pt_cmp (pc_dnotin hu (pv 1) (pe_fld (pv 0) rfl))) (pss_cons (ps_dput hu (pe_fld (pv 0) rfl) (pv 1) (pe_fd D_lowest_free (hr.mono (by decide)) rfl (pa_cons (pe_callTy (call_listVals rfl) rfl B.list_ bt_list (pa_cons (pe_dvals (pe_fld (pv 0) rfl)) pa_nil)) pa_nil)) rfl)
      (pss_one (ps_expr (pe_bm PySem.F.plainAttrs_list PySem.F.slot_list_append PySem.F.type_list_append mt_append (pe_fld (pv 0) rfl) (pa_cons (pe_tup (pa_cons pe_str (pa_cons (pe_dget hu (pe_fld (pv 0) rfl) (pv 1) (fun _ _ => rfl)) (pa_cons (pe_dget hu (pe_fld (pv 0) rfl) (pv 1) (fun _ _ => rfl)) pa_nil)))) pa_nil))))) pss_nil)), ?_⟩
    refine ⟨_, rfl, _, rfl, r, C, dx, _, _, rfl, ho, RC.cl, RC.n3, rf3, ps, _, rfl, g0, _, rfl, ?_⟩
    cases hz : getZ R.spot (.inr x) with
    | some z => exact ifB rfl (k R H (.there z hz) hR (Kp.refl _ _))
    | none =>
      refine itB rfl ?_
      refine ⟨_, rfl, r, C, dx, _, _, rfl, ho, RC.cl, RC.n3, rf3, ps, _, rfl, hR.sp, fun v hv => ?_⟩
      have s1 : Same H (upd H v (viewO v ps)) := same_upd hv
      have hv1 : (upd H v (viewO v ps)) v = some (viewO v ps) := upd_same
      generalize upd H v (viewO v ps) = H1 at s1 hv1
      refine ⟨v, ps, _, rfl, hv1, s1 ps _ hR.sp, fun l hl1 => ?_⟩
      rw [enc_vals]
      have s2 : Same H1 (upd H1 l (.lst ((vals R.spot).map V.int))) := same_upd hl1
      have hl2 : (upd H1 l (.lst ((vals R.spot).map V.int))) l = some (.lst ((vals R.spot).map V.int)) := upd_same
      generalize upd H1 l (.lst ((vals R.spot).map V.int)) = H2 at s2 hl2
      have hR2 := hR.same (s1.trans s2)
      obtain ⟨dx2, ho2⟩ := hR2.obj
      refine ⟨l, vals R.spot, rfl, hl2, fun sp hlow => ?_⟩
      refine ⟨_, rfl, r, C, dx2, _, _, rfl, ho2, RC.cl, RC.n3, rf3, _, rfl, ps, _, rfl, DPut.k (k := .inr x) hR2.sp (small1000 (by rw [enc_len]; omega)), ?_⟩
      have h3 := hR2.putS (putZ R.spot (.inr x) sp)
      rw [← enc_put] at h3
      have kp3 : Kp (own5 r pp ps pm T) H (upd H2 ps (.dK (putK (enc R.spot) (.inr x) (.int sp)))) := (Same.kp (s1.trans s2) _).trans (Kp.upd (by simp))
      generalize upd H2 ps (.dK (putK (enc R.spot) (.inr x) (.int sp))) = H3 at h3 kp3
      obtain ⟨dx3, ho3⟩ := h3.obj
      obtain ⟨ms, hm, hI⟩ := h3.md
      have hms : ms.length = R.made.length := hI.length
      have gs : DGet H3 ps (kV (.inr x)) (some (.int sp)) := by
        have q := DGet.k (k := .inr x) h3.sp
        rw [enc_get, getZ_put, if_pos rfl] at q
        exact q
      have gp : DGet H3 pp (kV (.inr x)) (some (.int p)) := by
        have q := DGet.k (k := .inr x) h3.pl
        rw [enc_get, hx] at q
        exact q
      refine ⟨_, rfl, r, C, dx3, _, _, rfl, ho3, RC.cl, RC.n4, rf4, .inl ⟨rfl, _, SqL.of hm⟩, _, rfl, r, C, dx3, _, _, rfl, ho3, RC.cl, RC.n3, rf3, _, rfl, ps, .int sp, rfl, gs, _, rfl, r, C, dx3, _, _, rfl, ho3, RC.cl, RC.n2, rf2, _, rfl, pp, .int p, rfl, gp, lk 3, fun t ht => ?_⟩
      have s4 : Same H3 (upd H3 t (.tup [.str "shelve", .int sp, .int p])) := same_upd ht
      exact ⟨pm, ms, _, rfl, rfl, s4 pm _ hm, small1000 (by omega), k _ _ (.new sp p hz hlow hx) ((h3.same s4).putM (i := .shelve sp p) (s4 pm _ hm) (hI.same s4) upd_same) ((kp3.trans (Same.kp s4 _)).trans (Kp.upd (by simp)))⟩
def spKeep (C T : Addr) : Sp := fun vs H Q _ => ∃ (r pp ps pm a : Addr) (n : Int) (R : Rm) (ns : List Str), vs = [.ref r, .ref a] ∧ Rat C T H r pp ps pm n R ∧ H a = some (.lst (ns.map V.str)) ∧ ns.length ≤ 900 ∧
  ∀ pp' ps' H', H pp' = none → H ps' = none → Rat C T H' r pp' ps' pm n (keepOnly R ns) → Kp (own5 r pp ps pm T) H H' → Q .non H'
theorem md_keep (RC : RoomC K mg C) (D_narrowed : Fd P w K mg base 1 "narrowed" ["where", "names"] (spNarrow K)) (F : Mn K C "keep_only" "Room.keep_only" (inClass (top 15) 5)) : Md P w K mg base C 2 "keep_only" ["self", "names"] (spKeep C T) := by
  have sc : FnScope ["self", "names"] ["self", "names"] (defScope (inClass (top 15) 5)) := ⟨rfl, rfl, rfl, by decide +kernel, rfl, by decide +kernel, by decide +kernel⟩
  refine F.md sc (fun vs H Q E h => ?_) (fun _ _ _ _ _ _ us hl => by obtain ⟨a0, a1, rfl⟩ := us2 hl; rfl) (fun f cdv A outer s H vs Q E hr h => ?_)
  · obtain ⟨r, pp, ps, pm, a, n, R, ns, rfl, _⟩ := h
    rfl
  · obtain ⟨r, pp, ps, pm, a, n, R, ns, rfl, hR, ha, hl, k⟩ := h
    obtain ⟨dx, ho⟩ := hR.obj
    obtain ⟨ms, hm, hI⟩ := hR.md
    refine ⟨_, (pss_cons (ps_fld (pv 0) (pe_fd D_narrowed (hr.mono (by decide)) rfl (pa_cons (pe_fld (pv 0) rfl) (pa_cons (pv 1) pa_nil))) rfl)
    (pss_one (ps_fld (pv 0) (pe_fd D_narrowed (hr.mono (by decide)) rfl (pa_cons (pe_fld (pv 0) rfl) (pa_cons (pv 1) pa_nil))) rfl))), ?_⟩
    refine ⟨_, rfl, r, C, dx, _, _, rfl, ho, RC.cl, RC.n2, rf2, _, rfl, pp, a, R.place, ns, rfl, hR.pl, ha, hl, fun p1 H1 hp1 s1 hp1' => ?_⟩
    have hR1 := hR.same s1
    have ho1 := s1 r _ ho
    refine ⟨_, rfl, r, C, dx, _, rfl, ho1, RC.cl, RC.n2, (by show (4 : Nat) < 1000; decide), ?_⟩
    rw [rp2]
    have hplr := plain_of ho1 rfl
    have nr1 : r ≠ p1 := ne_of_none ho hp1
    have hsp2 : (upd H1 r (.ins C dx (roomF n p1 ps pm))) ps = some (.dK (enc R.spot)) := by rw [upd_ne hR.rs.symm]; exact hR1.sp
    have hpp2 : (upd H1 r (.ins C dx (roomF n p1 ps pm))) pp = some (.dK (enc R.place)) := by rw [upd_ne hR.rp.symm]; exact hR1.pl
    have hp12 : (upd H1 r (.ins C dx (roomF n p1 ps pm))) p1 = some (.dK (enc (narrow R.place ns))) := by rw [upd_ne nr1.symm]; exact hp1'
    have ha2 : (upd H1 r (.ins C dx (roomF n p1 ps pm))) a = some (.lst (ns.map V.str)) := by rw [upd_ne (fun z => by rw [z, ho] at ha; cases ha)]; exact s1 a _ ha
    have hm2 : (upd H1 r (.ins C dx (roomF n p1 ps pm))) pm = some (.lst ms) := by rw [upd_ne hR.rm.symm]; exact s1 pm _ hm
    have hI2 := irows_upd (u := .ins C dx (roomF n p1 ps pm)) (hI.same s1) hplr
    have ht2 := tab_upd (u := .ins C dx (roomF n p1 ps pm)) hR1.tab hplr
    have ho2 : (upd H1 r (.ins C dx (roomF n p1 ps pm))) r = some (.ins C dx (roomF n p1 ps pm)) := upd_same
    have kp2 : Kp (own5 r pp ps pm T) H (upd H1 r (.ins C dx (roomF n p1 ps pm))) := (Same.kp s1 _).trans (Kp.upd (by simp))
    generalize upd H1 r (.ins C dx (roomF n p1 ps pm)) = H2 at hsp2 hpp2 hp12 ha2 hm2 hI2 ht2 ho2 kp2
    refine ⟨_, rfl, r, C, dx, _, _, rfl, ho2, RC.cl, RC.n3, rf3, _, rfl, ps, a, R.spot, ns, rfl, hsp2, ha2, hl, fun p2 H3 hp2 s3 hp2' => ?_⟩
    have ho3 := s3 r _ ho2
    refine ⟨_, rfl, r, C, dx, _, rfl, ho3, RC.cl, RC.n3, (by show (4 : Nat) < 1000; decide), ?_⟩
    rw [rp3]
    have hplr3 := plain_of ho3 rfl
    have nr2 : r ≠ p2 := ne_of_none ho2 hp2
    have n12 : p1 ≠ p2 := ne_of_none hp12 hp2
    refine k p1 p2 _ hp1 ?_ ⟨⟨dx, upd_same⟩, by rw [upd_ne nr1.symm]; exact s3 p1 _ hp12, by rw [upd_ne nr2.symm]; exact hp2', ⟨ms, by rw [upd_ne hR.rm.symm]; exact s3 pm _ hm2, irows_upd (hI2.same s3) hplr3⟩, n12, tab_upd (tab_same ht2 s3) hplr3⟩ ((kp2.trans (Same.kp s3 _)).trans (Kp.upd (by simp)))
    cases q : H p2 with
    | none => rfl
    | some o =>
      exfalso
      by_cases z : p2 ∈ own5 r pp ps pm T
      · simp only [own5, List.mem_cons, List.not_mem_nil, or_false] at z
        rcases z with z | z | z | z | z
        · exact nr2 z.symm
        · rw [z, hpp2] at hp2; cases hp2
        · rw [z, hsp2] at hp2; cases hp2
        · rw [z, hm2] at hp2; cases hp2
        · rcases ht2 with t | ⟨_, _, t, _⟩ <;> (rw [z, t] at hp2; cases hp2)
      · rw [kp2 p2 o z q] at hp2; cases hp2
end
end Fp
namespace L2
open PySem PySem.Spec PyProof.Rows
theorem comp_dict {d : Addr} {o : Obj} {kvs : List (Key × V)} {js : List Nat} {tt : TT} {te : TE} {σ : St} {H : Hp} {Q : VK}
    (h : ∀ D, H D = none → ∃ Pv : Nat → List V → Hp → Prop, Pv 0 [] (upd H D (.lst [])) ∧ (∀ i ys H, Pv i ys H → i ≤ kvs.length ∧ H d = some (.frz o (.dK kvs))) ∧
      (∀ i p ys H, kvs[i]? = some p → Pv i ys H → tt (fvals js σ ++ [some (kV p.1)]) H fun c H2 => if c = true then te (fvals js σ ++ [some (kV p.1)]) H2 fun y H3 => H3 D = some (.lst ys) ∧ ys.length < sizeLine ∧ Pv (i + 1) (ys ++ [y]) (upd H3 D (.lst (ys ++ [y]))) else Pv (i + 1) ys H2) ∧
      ∀ ys H, Pv kvs.length ys H → Q (.ref D) H) : compRun js tt te (Itd d o kvs) σ H Q := by
  intro D hD
  obtain ⟨Pv, h0, hl, hs, hd⟩ := h D hD
  refine ⟨kvs.length, Pv, h0, fun i ys H p => ?_⟩
  obtain ⟨hi, q⟩ := hl i ys H p
  refine ⟨hi, ?_⟩
  by_cases hlt : i < kvs.length
  · refine .inr ⟨⟨q, hlt⟩, fun x H' y => ?_⟩
    obtain ⟨rfl, pr, hp, rfl⟩ := y
    exact hs i pr ys _ hp p
  · have e : i = kvs.length := by omega
    subst e
    exact .inl ⟨⟨q, Nat.le_refl _⟩, hd ys H p⟩
end L2
namespace Fp
open PySem L2
theorem apart_len {m : Kept} {live : List Str} (h : Apart m live) : m.length ≤ live.length := by
  have := nodup_sub (l := keysZ m) (m := live.map (Sum.inr : Str → Key)) h.nd fun k hk => by
    obtain ⟨z, hz⟩ := Option.isSome_iff_exists.mp (getZ_key hk)
    obtain ⟨x, hx, rfl⟩ := h.nm k z hz
    exact List.mem_map.mpr ⟨x, hx, rfl⟩
  unfold keysZ at this
  rwa [List.length_map, List.length_map] at this
theorem shelve_len {R R' : Rm} {x : Str} (h : Shelve R x R') : R'.made.length ≤ R.made.length + 1 := by
  cases h with
  | there z h => omega
  | new s p h1 h2 h3 => simp
theorem empty_len {c : List Row} {n : Int} {st : List Str} {R R' : Rm} {p : Int} (h : Empty c n st R R' p) : R'.made.length ≤ R.made.length + 1 := by
  cases h with
  | free _ h hp => omega
  | full q _ x R1 h hq hx hs hS => show R1.made.length ≤ _; exact shelve_len hS
theorem fetch_len {c : List Row} {n : Int} {us l : List Str} {R R' : Rm} (h : Fetch c n us l R R') : R'.made.length ≤ R.made.length + 2 * l.length := by
  induction h with
  | nil R => simp
  | has x l R R' z h t ih => rw [List.length_cons]; omega
  | get x l R R1 R' p s h he hs t ih =>
    have := empty_len he
    simp only [List.length_append, List.length_cons, List.length_nil] at ih ⊢
    omega
theorem uses1_len (r : Row) : (uses1 r).length ≤ 2 := by
  cases r with
  | op o n x y => by_cases e : x = y <;> simp [uses1, e]
  | _ => simp [uses1]
theorem put_len {c : List Row} {n : Int} {r : Row} {needed : List Str} {R R' : Rm} (h : PutRow c n r needed R R') : R'.made.length ≤ R.made.length + 6 := by
  have hu := uses1_len r
  cases h with
  | tell x R1 p e hf hp =>
    have := fetch_len hf
    simp only [List.length_append, List.length_cons, List.length_nil]
    omega
  | write x R1 R2 q i e hf he hi =>
    have h1 := fetch_len hf
    have h2 := empty_len he
    have h3 : (keepOnly R1 (others r needed)).made.length = R1.made.length := rfl
    simp only [List.length_append, List.length_cons, List.length_nil]
    omega
theorem fetch_snoc {c : List Row} {n : Int} {us l : List Str} {R R1 : Rm} (h : Fetch c n us l R R1) : ∀ {x : Str} {R2 : Rm}, Fetch c n us [x] R1 R2 → Fetch c n us (l ++ [x]) R R2 := by
  induction h with
  | nil R => exact fun h => h
  | has x l R R' z h t ih => exact fun h' => .has _ _ _ _ z h (ih h')
  | get x l R R1 R' p s h he hs t ih => exact fun h' => .get _ _ _ _ _ p s h he hs (ih h')
section
variable {C T : Addr} {H H' : Hp} {r pp ps pm : Addr} {n : Int} {R R' : Rm}
theorem Rat.notup (h : Rat C T H r pp ps pm n R) : ∀ a ∈ own5 r pp ps pm T, ∀ us, H a ≠ some (.tup us) := by
  obtain ⟨dx, ho⟩ := h.obj
  obtain ⟨ms, hm, _⟩ := h.md
  intro a ha us e
  simp only [own5, List.mem_cons, List.not_mem_nil, or_false] at ha
  rcases ha with z | z | z | z | z
  · rw [z, ho] at e; cases e
  · rw [z, h.pl] at e; cases e
  · rw [z, h.sp] at e; cases e
  · rw [z, hm] at e; cases e
  · rcases h.tab with t | ⟨_, _, t, _⟩ <;> (rw [z, t] at e; cases e)
theorem Rat.there (h : Rat C T H r pp ps pm n R) : ∀ a ∈ own5 r pp ps pm T, H a ≠ none := by
  obtain ⟨dx, ho⟩ := h.obj
  obtain ⟨ms, hm, _⟩ := h.md
  intro a ha e
  simp only [own5, List.mem_cons, List.not_mem_nil, or_false] at ha
  rcases ha with z | z | z | z | z
  · rw [z, ho] at e; cases e
  · rw [z, h.pl] at e; cases e
  · rw [z, h.sp] at e; cases e
  · rw [z, hm] at e; cases e
  · rcases h.tab with t | ⟨_, _, t, _⟩ <;> (rw [z, t] at e; cases e)
theorem Rat.out (h : Rat C T H r pp ps pm n R) {a : Addr} {xs : List V} (ha : H a = some (.lst xs)) (hn : a ≠ pm) : a ∉ own5 r pp ps pm T := by
  obtain ⟨dx, ho⟩ := h.obj
  intro z
  simp only [own5, List.mem_cons, List.not_mem_nil, or_false] at z
  rcases z with z | z | z | z | z
  · rw [z, ho] at ha; cases ha
  · rw [z, h.pl] at ha; cases ha
  · rw [z, h.sp] at ha; cases ha
  · exact hn z
  · rcases h.tab with t | ⟨_, _, t, _⟩ <;> (rw [z, t] at ha; cases ha)
theorem Rat.outD (h : Rat C T H r pp ps pm n R) {a : Addr} {kvs : List (Key × V)} (ha : H a = some (.dK kvs)) (h1 : a ≠ pp) (h2 : a ≠ ps) : a ∉ own5 r pp ps pm T := by
  obtain ⟨dx, ho⟩ := h.obj
  obtain ⟨ms, hm, _⟩ := h.md
  intro z
  simp only [own5, List.mem_cons, List.not_mem_nil, or_false] at z
  rcases z with z | z | z | z | z
  · rw [z, ho] at ha; cases ha
  · exact h1 z
  · exact h2 z
  · rw [z, hm] at ha; cases ha
  · rcases h.tab with t | ⟨_, _, t, _⟩ <;> (rw [z, t] at ha; cases ha)
theorem Rat.rows (h : Rat C T H r pp ps pm n R) (k : Kp (own5 r pp ps pm T) H H') {xs : List V} {rows : List Row} (hR : RowsAt H xs rows) : RowsAt H' xs rows := Paired.mapP hR fun _ _ ⟨a, e1, e2⟩ => ⟨a, e1, k a _ (fun z => h.notup a z _ e2) e2⟩
theorem Rat.back (h : Rat C T H' r pp ps pm n R) (k : Kp (own5 r pp ps pm T) H H') {a : Addr} (ha : H' a = none) : H a = none := by
  cases q : H a with
  | none => rfl
  | some o =>
    by_cases z : a ∈ own5 r pp ps pm T
    · exact absurd ha (h.there a z)
    · rw [k a o z q] at ha; cases ha
theorem SameP.kp {T : Addr} {H H' : Hp} (h : SameP T H H') {l : List Addr} (hT : T ∈ l) : Kp l H H' := fun b o n e => h b o (fun z => n (by rw [z]; exact hT)) e
end
section
variable {P : Program} {w : World} {K : PySem.W.Frag} {mg : Str → Option Value} {base : Heap} {C T : Addr}
theorem outs_snoc (m : Kept) (p : Key × Int) (stay : List Str) : outs (m ++ [p]) stay = if nmOf p.1 ∈ stay then outs m stay else outs m stay ++ [nmOf p.1] := by
  unfold outs
  rw [List.map_append, List.filter_append]
  by_cases h : nmOf p.1 ∈ stay <;> simp [h]
def spEmpty (C T : Addr) : Sp := fun vs H Q _ => ∃ (r pp ps pm st la : Addr) (n : Int) (R : Rm) (live stay l : List Str) (xs : List V) (rows : List Row), vs = [.ref r, .ref st, .ref la] ∧ Rat C T H r pp ps pm n R ∧ Good n live R ∧ live.length ≤ 800 ∧ R.made.length ≤ 980 ∧
  H st = some (.lst (stay.map V.str)) ∧ H la = some (.lst xs) ∧ la ≠ pm ∧ RowsAt H xs rows ∧ ((l.length : Nat) : Int) < n ∧ (∀ x ∈ stay, (∃ z, getZ R.place (.inr x) = some z) → x ∈ l) ∧
  ∀ R' p H', Empty rows n stay R R' p → Rat C T H' r pp ps pm n R' → Kp (own5 r pp ps pm T) H H' → Q (.int p) H'
theorem md_empty (B : Blt mg) (RC : RoomC K mg C) (D_lowest_free : Fd P w K mg base 1 "lowest_free" ["taken"] spLow) (D_latest_used : Fd P w K mg base 5 "latest_used" ["names", "later"] (spLatest T)) (D_Room_shelve : Md P w K mg base C 2 "shelve" ["self", "name"] (spShelve C T))
    (F : Mn K C "empty_place" "Room.empty_place" (inClass (top 15) 4)) : Md P w K mg base C 6 "empty_place" ["self", "staying", "later"] (spEmpty C T) := by
  have sc : FnScope ["self", "staying", "later", "place", "leaving"] ["self", "staying", "later"] (defScope (inClass (top 15) 4)) := ⟨rfl, rfl, rfl, by decide +kernel, rfl, by decide +kernel, by decide +kernel⟩
  refine F.md sc (fun vs H Q E h => ?_) (fun _ _ _ _ _ _ us hl => by obtain ⟨a0, a1, a2, rfl⟩ := us3 hl; rfl) (fun f cdv A outer s H vs Q E hr h => ?_)
  · obtain ⟨r, pp, ps, pm, st, la, n, R, live, stay, l, xs, rows, rfl, _⟩ := h
    rfl
  · obtain ⟨r, pp, ps, pm, st, la, n, R, live, stay, l, xs, rows, rfl, hR, G, hlive, hml, hst, hla, hlp, hrows, hl, hstay, k⟩ := h
    have hu := hu_of hr
    obtain ⟨dx, ho⟩ := hR.obj
    have hpl := apart_len G.pl
    have hsl := apart_len G.sp
    refine ⟨_, (pss_cons (ps_set (i := 3) sc.nd rfl (Or.inl rfl) (pe_fd D_lowest_free (hr.mono (by decide)) rfl (pa_cons (pe_callTy (call_listVals rfl) rfl B.list_ bt_list (pa_cons (pe_dvals (pe_fld (pv 0) rfl)) pa_nil)) pa_nil)))
    (pss_cons (ps_if (pt_cmpR op_lt (pv 3) (pe_fld (pv 0) rfl) (nomark _)) (pss_one (ps_ret (pv 3))) pss_nil)
    (pss_cons (ps_set (i := 4) sc.nd rfl (Or.inl rfl) (pe_fd D_latest_used (hr.mono (by decide)) rfl (pa_cons (pe_fast (pe_comp (sc := defScope (inClass (top 15) 4)) (fv := ["staying"]) (js := [1]) ⟨rfl, rfl, by decide +kernel, by decide +kernel, rfl, by decide +kernel, by decide +kernel, by decide +kernel, rfl, by decide +kernel⟩ rfl (pi_dict (pe_fld (pv 0) rfl)) (fun _ _ _ _ => (pifs_one (pt_cmpR (op_notIn_seqK (K := K)) (pv 1) (pv 0) (by with_unfolding_all rfl)))) (fun _ _ _ _ => (pv 1)))) (pa_cons (pv 2) pa_nil))))
    (pss_cons (ps_expr (pe_md (pv 0) RC.cl D_Room_shelve (hr.mono (by decide)) (pa_cons (pv 4) pa_nil)))
    (pss_one (ps_ret (pe_dpop1 (pe_fld (pv 0) rfl) (pv 4) ⟨rfl, rfl, rfl, rfl⟩))))))), ?_⟩
    refine ⟨_, rfl, r, C, dx, _, _, rfl, ho, RC.cl, RC.n2, rf2, pp, _, rfl, hR.pl, fun v hv => ?_⟩
    have s1 : Same H (upd H v (viewO v pp)) := same_upd hv
    have hv1 : (upd H v (viewO v pp)) v = some (viewO v pp) := upd_same
    generalize upd H v (viewO v pp) = H1 at s1 hv1
    refine ⟨v, pp, _, rfl, hv1, s1 pp _ hR.pl, fun l1 hl1 => ?_⟩
    rw [enc_vals]
    have s2 : Same H1 (upd H1 l1 (.lst ((vals R.place).map V.int))) := same_upd hl1
    have hl2 : (upd H1 l1 (.lst ((vals R.place).map V.int))) l1 = some (.lst ((vals R.place).map V.int)) := upd_same
    generalize upd H1 l1 (.lst ((vals R.place).map V.int)) = H2 at s2 hl2
    have s02 : Same H H2 := s1.trans s2
    have hR2 := hR.same s02
    have ho2 := s02 r _ ho
    refine ⟨l1, vals R.place, rfl, hl2, fun q hlow => ?_⟩
    refine ⟨_, rfl, _, rfl, r, C, dx, _, _, rfl, ho2, RC.cl, RC.n1, rf1, _, _, rfl, rfl, _, rfl, ?_⟩
    by_cases hq : q < n
    · exact itD hq ⟨_, rfl, k R q H2 (.free q hlow hq) hR2 (Same.kp s02 _)⟩
    · refine ifD hq ?_
      have hnq : n ≤ q := by omega
      obtain ⟨y0, z0, hy0, hys0⟩ := out_of G hlow hnq l hl hstay
      refine ⟨pp, _, hR2.pl, fun o => ?_⟩
      have sF : ∀ b u, b ≠ pp → H2 b = some u → (upd H2 pp (.frz o (.dK (enc R.place)))) b = some u := fun b u hb e => by rw [upd_ne hb]; exact e
      have hFp : (upd H2 pp (.frz o (.dK (enc R.place)))) pp = some (.frz o (.dK (enc R.place))) := upd_same
      have hoF := sF r _ hR2.rp ho2
      have hstF := sF st _ (fun z => by rw [z, hR.pl] at hst; cases hst) (s02 st _ hst)
      have fF : ∀ b, (upd H2 pp (.frz o (.dK (enc R.place)))) b = none → H2 b = none := fun b e => by
        by_cases hb : b = pp
        · rw [hb, upd_same] at e; cases e
        · rw [upd_ne hb] at e; exact e
      generalize hHF : upd H2 pp (.frz o (.dK (enc R.place))) = HF at sF hFp hoF hstF fF
      have key : ∀ (i : Nat) (p : Key × Int), R.place[i]? = some p → ∃ x, p.1 = Sum.inr x := fun i p e => by
        obtain ⟨x, _, q⟩ := G.pl.nm p.1 p.2 (getZ_of G.pl.nd (List.mem_of_getElem? e))
        exact ⟨x, q⟩
      refine ⟨_, rfl, r, C, dx, _, _, rfl, hoF, RC.cl, RC.n2, rf2, pp, o, _, rfl, hFp, comp_dict fun D hD => ⟨fun i ys H3 => i ≤ (enc R.place).length ∧ Same HF H3 ∧ H3 D = some (.lst ys) ∧ ys = (outs (R.place.take i) stay).map V.str,
        ⟨Nat.zero_le _, same_upd hD, upd_same, rfl⟩, fun i ys H3 ⟨h1, s3, _⟩ => ⟨h1, s3 pp _ hFp⟩, ?_, ?_⟩⟩
      · rintro i p' ys H3 hi ⟨h1, s3, hD3, rfl⟩
        have hi' : (R.place[i]?).map (fun p => (p.1, V.int p.2)) = some p' := by
          have e : (enc R.place)[i]? = (R.place[i]?).map (fun p => (p.1, V.int p.2)) := by unfold enc; rw [List.getElem?_map]
          rw [← e]; exact hi
        obtain ⟨p, hp, rfl⟩ := Option.map_eq_some_iff.mp hi'
        obtain ⟨x, hx⟩ := key i p hp
        have hlt : i < (enc R.place).length := (List.getElem?_eq_some_iff.mp hi).1
        have htk : R.place.take (i + 1) = R.place.take i ++ [p] := by rw [List.take_add_one, hp]; rfl
        have hnm : nmOf p.1 = x := by rw [hx]; rfl
        show tTest _ _ _ _
        have ekv : kV (p.1, V.int p.2).1 = V.str x := by show kV p.1 = _; rw [hx]; rfl
        rw [ekv]
        refine ⟨_, rfl, _, rfl, st, _, rfl, .inl (SqL.of (s3 st _ hstF)), rfl, flat_strs _, _, rfl, ?_⟩
        show if (!inV (.str x) (stay.map V.str)) = true then _ else _
        rw [inV_strs]
        by_cases hin : x ∈ stay
        · refine ifN hin ⟨hlt, s3, hD3, ?_⟩
          rw [htk, outs_snoc, hnm, if_pos hin]
        · refine itN hin ?_
          refine ⟨_, rfl, hD3, small1000 ?_, hlt, fun b u e => ?_, upd_same, ?_⟩
          · rw [List.length_map]
            refine Nat.le_trans (List.length_filter_le _ _) ?_
            rw [List.length_map, List.length_take]
            omega
          · rw [upd_ne (ne_of_none e hD)]; exact s3 b u e
          · rw [htk, outs_snoc, hnm, if_neg hin, List.map_append]; rfl
      · rintro ys H3 ⟨_, s3, hD3, rfl⟩
        have ele : (enc R.place).length = R.place.length := enc_len _
        rw [ele, List.take_length] at hD3
        refine ⟨s3 pp _ hFp, ?_⟩
        have hD2 : H2 D = none := fF D hD
        have s4 : Same H2 (upd H3 pp (.dK (enc R.place))) := fun b u e => by
          by_cases hb : b = pp
          · rw [hb, hR2.pl] at e; cases e; rw [hb, upd_same]
          · rw [upd_ne hb]; exact s3 b u (sF b u hb e)
        have nDp : D ≠ pp := fun z => by rw [z, hR2.pl] at hD2; cases hD2
        have hD4 : (upd H3 pp (.dK (enc R.place))) D = some (.lst ((outs R.place stay).map V.str)) := by rw [upd_ne nDp]; exact hD3
        generalize upd H3 pp (.dK (enc R.place)) = H4 at s4 hD4
        have s04 : Same H H4 := s02.trans s4
        have hR4 := hR.same s04
        have memo : ∀ x, x ∈ outs R.place stay ↔ (∃ z, getZ R.place (.inr x) = some z) ∧ ¬ x ∈ stay := fun x => by
          unfold outs
          rw [List.mem_filter, List.mem_map]
          constructor
          · rintro ⟨⟨p, hp, rfl⟩, h2⟩
            obtain ⟨i, hi⟩ := List.getElem?_of_mem hp
            obtain ⟨x, hx⟩ := key i p hi
            refine ⟨⟨p.2, ?_⟩, by simpa using h2⟩
            have := getZ_of (k := p.1) (z := p.2) G.pl.nd hp
            rw [hx] at this ⊢
            exact this
          · rintro ⟨⟨z, hz⟩, h2⟩
            exact ⟨⟨(.inr x, z), getZ_pair hz, rfl⟩, by simpa using h2⟩
        refine ⟨_, rfl, D, la, outs R.place stay, xs, rows, rfl, hD4, List.ne_nil_of_mem ((memo y0).mpr ⟨⟨z0, hy0⟩, hys0⟩), s04 la _ hla, hrows.same s04, hR4.tab, fun x H5 hLx sp5 ht5 => ?_⟩
        have hx : x ∈ outs R.place stay := by obtain ⟨i, q, _⟩ := hLx; exact List.mem_of_getElem? q
        obtain ⟨⟨p, hp⟩, hxs⟩ := (memo x).mp hx
        have hR5 := hR4.samep sp5 ht5
        obtain ⟨dx5, ho5⟩ := hR5.obj
        have kp5 : Kp (own5 r pp ps pm T) H H5 := (Same.kp s04 _).trans (SameP.kp sp5 (by simp))
        refine ⟨_, rfl, r, dx5, _, rfl, ho5, by rfl, _, rfl, r, pp, ps, pm, n, R, x, p, rfl, hR5, hp, by omega, by omega, fun R1 H6 hS hR6 kp6 => ?_⟩
        obtain ⟨dx6, ho6⟩ := hR6.obj
        have hp1 : getZ R1.place (.inr x) = some p := by
          cases hS with
          | there z h => exact hp
          | new s p' h1 h2 h3 => exact hp
        refine ⟨_, rfl, r, C, dx6, _, _, rfl, ho6, RC.cl, RC.n2, rf2, pp, rfl, .inl ⟨_, Rd.of hR6.pl⟩, _, rfl, _, .inr x, .int p, hR6.pl, rfl, getZ_val hp1, ?_⟩
        rw [enc_drop]
        exact k _ p _ (.full q p x R1 hlow hnq hp hxs hS hLx) (hR6.putP (dropZ R1.place (.inr x))) ((kp5.trans kp6).trans (Kp.upd (by simp)))
end
end Fp
namespace Fp
open PySem L2
section
variable {P : Program} {w : World} {K : PySem.W.Frag} {mg : Str → Option Value} {base : Heap} {C T : Addr}
def spFetchUsed (C T : Addr) : Sp := fun vs H Q _ => ∃ (r pp ps pm u la : Addr) (n : Int) (R : Rm) (live us : List Str) (xs : List V) (rows : List Row), vs = [.ref u, .ref r, .ref la] ∧ Rat C T H r pp ps pm n R ∧ Good n live R ∧ live.length ≤ 800 ∧ R.made.length ≤ 970 ∧
  H u = some (.lst (us.map V.str)) ∧ u ≠ pm ∧ H la = some (.lst xs) ∧ la ≠ pm ∧ RowsAt H xs rows ∧ us.length ≤ 2 ∧ us.Nodup ∧ ((us.length : Nat) : Int) ≤ n ∧ (∀ x ∈ us, x ∈ live) ∧
  ∀ R' H', Fetch rows n us us R R' → Rat C T H' r pp ps pm n R' → Kp (own5 r pp ps pm T) H H' → Q .non H'
theorem fd_fetchUsed (B : Blt mg) (RC : RoomC K mg C) (D_Room_fetch : Md P w K mg base C 1 "fetch" ["self", "name", "place"] (spFetch C T)) (D_Room_empty_place : Md P w K mg base C 6 "empty_place" ["self", "staying", "later"] (spEmpty C T))
    (F : Fn K mg "fetch_used" (top 25)) : Fd P w K mg base 7 "fetch_used" ["used", "room", "later"] (spFetchUsed C T) := by
  have sc : FnScope ["used", "room", "later", "name"] ["used", "room", "later"] (defScope (top 25)) := ⟨rfl, rfl, rfl, by decide +kernel, rfl, by decide +kernel, by decide +kernel⟩
  refine F.fd sc (fun vs H Q E h => ?_) (fun _ _ _ _ _ _ us hl => by obtain ⟨a0, a1, a2, rfl⟩ := us3 hl; rfl) (fun f cdv A outer s H vs Q E hr h => ?_)
  · obtain ⟨r, pp, ps, pm, u, la, n, R, live, us, xs, rows, rfl, _⟩ := h
    rfl
  · obtain ⟨r, pp, ps, pm, u, la, n, R, live, us, xs, rows, rfl, hR, G, hlive, hml, hu, hup, hla, hlp, hrows, hul, hund, hun, hsub, k⟩ := h
    have hu2 := hu
    have hu' := hu_of hr
    have ou := hR.out hu hup
    have ola := hR.out hla hlp
    refine ⟨_, (by have hu := hu'; exact (pss_one (ps_for PassesOwn.never rfl (pi_list (pv 0)) (pg_name (i := 3) sc.nd rfl (Or.inl rfl)) (pss_one (ps_if (pt_cmp (pc_dnotin hu (pv 3) (pe_fld (pv 1) rfl))) (pss_one (ps_expr (pe_md (pv 1) RC.cl D_Room_fetch (hr.mono (by decide)) (pa_cons (pv 3) (pa_cons (pe_md (pv 1) RC.cl D_Room_empty_place (hr.mono (by decide)) (pa_cons (pv 0) (pa_cons (pv 2) pa_nil))) pa_nil))))) pss_nil))))), ?_⟩
    refine ⟨_, rfl, u, rfl, ⟨_, SqL.of hu⟩, for_list (K := K) (a := u) (xs := us.map V.str) (fun j σ H2 => ∃ (R1 : Rm) (v3 : Option V), σ = [some (.ref u), some (.ref r), some (.ref la), v3] ∧ Fetch rows n us (us.take j) R R1 ∧ Rat C T H2 r pp ps pm n R1 ∧ Kp (own5 r pp ps pm T) H H2)
      ⟨R, none, rfl, .nil R, hR, Kp.refl _ _⟩ (fun j σ H2 _ ⟨_, _, _, _, _, kp⟩ => SqL.of (kp u _ ou hu)) ?_ ?_⟩
    · rintro j y σ H2 hj ⟨R1, v3, rfl, hF, hR1, kp⟩
      rw [List.getElem?_map] at hj
      cases ej : us[j]? with
      | none => rw [ej] at hj; cases hj
      | some x =>
        rw [ej] at hj
        obtain rfl : V.str x = y := Option.some.inj hj
        have hx : x ∈ us := List.mem_of_getElem? ej
        have hjl : j < us.length := (List.getElem?_eq_some_iff.mp ej).1
        have htk : us.take (j + 1) = us.take j ++ [x] := by rw [List.take_add_one, ej]; rfl
        have G1 := (fetched G (fun y hy => List.take_subset _ _ hy) hsub hF).1
        have hlen := fetch_len hF
        have htl : (us.take j).length ≤ 1 := by rw [List.length_take]; omega
        have hp1 := apart_len G1.pl
        obtain ⟨dx, ho⟩ := hR1.obj
        have g := DGet.k (k := .inr x) hR1.pl
        rw [enc_get] at g
        refine ⟨_, rfl, _, rfl, r, C, dx, _, _, rfl, ho, RC.cl, RC.n2, rf2, pp, _, rfl, g, _, rfl, ?_⟩
        cases hz : getZ R1.place (.inr x) with
        | some z =>
          refine ifB rfl ⟨R1, _, rfl, ?_, hR1, kp⟩
          rw [htk]
          exact fetch_snoc hF (.has x [] R1 R1 z hz (.nil R1))
        | none =>
          refine itB rfl ?_
          refine ⟨_, rfl, r, dx, _, rfl, ho, by rfl, _, rfl, _, rfl, r, dx, _, rfl, ho, by rfl, _, rfl, _, rfl, r, pp, ps, pm, u, la, n, R1, live, us, us.erase x, xs, rows, rfl, hR1, G1, hlive, by omega, kp u _ ou hu, kp la _ ola hla, hlp, hR.rows kp hrows, ?_, fun y hy hyz => ?_, fun R2 p H3 hE hR2 kp2 => ?_⟩
          · rw [List.length_erase_of_mem hx]; omega
          · by_cases e : y = x
            · rw [e, hz] at hyz; obtain ⟨_, q⟩ := hyz; cases q
            · exact (List.mem_erase_of_ne e).mpr hy
          · have E := freed G1 hE
            have hs : ∃ s, getZ R2.spot (.inr x) = some s := by
              rcases E.good.all x (hsub x hx) with ⟨z, q⟩ | q
              · rw [E.sub _ _ q] at hz; cases hz
              · exact q
            obtain ⟨sp, hsp⟩ := hs
            have hp2 := apart_len E.good.pl
            have he := empty_len hE
            refine ⟨r, pp, ps, pm, n, R2, x, p, sp, rfl, hR2, hsp, by omega, by omega, fun H4 hR4 kp4 => ?_⟩
            refine ⟨_, _, rfl, ?_, hR4, (kp.trans kp2).trans kp4⟩
            rw [htk]
            exact fetch_snoc hF (.get x [] R1 R2 _ p sp hz hE hsp (.nil _))
    · rintro σ H2 ⟨R1, v3, rfl, hF, hR1, kp⟩
      rw [List.length_map, List.take_length] at hF
      exact k R1 H2 hF hR1 kp
end
end Fp
namespace Fp
open PySem L2
theorem others_snoc (r : Row) (l : List Str) (x : Str) : others r (l ++ [x]) = if wr r = some x then others r l else others r l ++ [x] := by
  unfold others drop1
  cases h : wr r with
  | none => simp
  | some y =>
    simp only [List.filter_append]
    by_cases e : x = y
    · simp [e]
    · have e' : ¬ y = x := fun q => e q.symm
      simp [e, e']
theorem others_len (r : Row) (l : List Str) : (others r l).length ≤ l.length := drop1_len l (wr r)
theorem ahead_len (r : Row) (l : List Str) : (ahead r l).length ≤ l.length + 2 := by
  have h1 := fold_put1_len (uses1 r) (drop1 l (wr r))
  have h2 := drop1_len l (wr r)
  have h3 := uses1_len r
  unfold ahead
  omega
theorem uses1_nodup (r : Row) : (uses1 r).Nodup := by
  cases r with
  | op o n x y => by_cases e : x = y <;> simp [uses1, e]
  | _ => simp [uses1]
theorem Kp.change {H H1 H2 : Hp} {r pp ps pm T pp' ps' : Addr} (a : Kp (own5 r pp ps pm T) H H1) (b : Kp (own5 r pp' ps' pm T) H1 H2) (h1 : H pp' = none) (h2 : H ps' = none) : Kp (own5 r pp ps pm T) H H2 := fun c o n e => by
  refine b c o (fun z => ?_) (a c o n e)
  simp only [own5, List.mem_cons, List.not_mem_nil, or_false] at z n
  rcases z with z | z | z | z | z
  · exact n (.inl z)
  · rw [z, h1] at e; cases e
  · rw [z, h2] at e; cases e
  · exact n (.inr (.inr (.inr (.inl z))))
  · exact n (.inr (.inr (.inr (.inr z))))
section
variable {P : Program} {w : World} {K : PySem.W.Frag} {mg : Str → Option Value} {base : Heap} {C T : Addr}
def spPut (C T : Addr) : Sp := fun vs H Q _ => ∃ (r pp ps pm a nd la : Addr) (n : Int) (R : Rm) (needed : List Str) (row : Row) (xs : List V) (rows : List Row), vs = [.ref a, .ref r, .ref nd, .ref la] ∧ H a = some (.tup (rowV row)) ∧ Rat C T H r pp ps pm n R ∧ Good n (ahead row needed) R ∧ needed.length ≤ 700 ∧ R.made.length ≤ 900 ∧
  H nd = some (.lst (needed.map V.str)) ∧ nd ≠ pm ∧ H la = some (.lst xs) ∧ la ≠ pm ∧ RowsAt H xs rows ∧ ((needs row : Nat) : Int) ≤ n ∧
  ∀ R' pp' ps' H', PutRow rows n row needed R R' → H pp' = none → H ps' = none → Rat C T H' r pp' ps' pm n R' → Kp (own5 r pp ps pm T) H H' → Q .non H'
theorem fd_put (B : Blt mg) (RC : RoomC K mg C) (D_names_used : Fd P w K mg base 1 "names_used" ["row"] spUsed) (D_name_written : Fd P w K mg base 1 "name_written" ["row"] spWritten) (D_fetch_used : Fd P w K mg base 7 "fetch_used" ["used", "room", "later"] (spFetchUsed C T))
    (D_Room_keep_only : Md P w K mg base C 2 "keep_only" ["self", "names"] (spKeep C T)) (D_Room_empty_place : Md P w K mg base C 6 "empty_place" ["self", "staying", "later"] (spEmpty C T)) (D_writing_row : Fd P w K mg base 1 "writing_row" ["row", "place", "used_at"] spWriting)
    (F : Fn K mg "put_row" (top 24)) : Fd P w K mg base 8 "put_row" ["row", "room", "needed", "later"] (spPut C T) := by
  have sc : FnScope ["row", "room", "needed", "later", "used_at", "written", "place"] ["row", "room", "needed", "later"] (defScope (top 24)) := ⟨rfl, rfl, rfl, by decide +kernel, rfl, by decide +kernel, by decide +kernel⟩
  refine F.fd sc (fun vs H Q E h => ?_) (fun _ _ _ _ _ _ us hl => by obtain ⟨a0, a1, a2, a3, rfl⟩ := us4 hl; rfl) (fun f cdv A outer s H vs Q E hr h => ?_)
  · obtain ⟨r, pp, ps, pm, a, nd, la, n, R, needed, row, xs, rows, rfl, _⟩ := h
    rfl
  · obtain ⟨r, pp, ps, pm, a, nd, la, n, R, needed, row, xs, rows, rfl, ha, hR, G, hnl, hml, hnd, hnp, hla, hlp, hrows, hneeds, k⟩ := h
    have hu := hu_of hr
    have hal := ahead_len row needed
    have hul := uses1_len row
    have hn1 : ((uses1 row).length : Int) ≤ n := by unfold needs at hneeds; omega
    have hn2 : (1 : Int) ≤ n := by unfold needs at hneeds; omega
    have hua : ∀ x ∈ uses1 row, x ∈ ahead row needed := fun x hx => mem_ahead'.mpr (.inr hx)
    have hoa : ∀ x ∈ others row needed, x ∈ ahead row needed := fun x hx => mem_ahead'.mpr (.inl hx)
    refine ⟨_, (pss_cons (ps_expr (pe_fd D_fetch_used (hr.mono (by decide)) rfl (pa_cons (pe_fd D_names_used (hr.mono (by decide)) rfl (pa_cons (pv 0) pa_nil)) (pa_cons (pv 1) (pa_cons (pv 3) pa_nil)))))
    (pss_cons (ps_set (i := 4) sc.nd rfl (Or.inl rfl) (pe_callTy call_dictOf rfl B.dict_ bt_dict (pa_cons (pe_fld (pv 1) rfl) pa_nil)))
    (pss_cons (ps_set (i := 5) sc.nd rfl (Or.inr rfl) (pe_fd D_name_written (hr.mono (by decide)) rfl (pa_cons (pv 0) pa_nil)))
    (pss_cons (ps_expr (pe_md (pv 1) RC.cl D_Room_keep_only (hr.mono (by decide)) (pa_cons (pe_comp (sc := defScope (top 24)) (fv := ["written"]) (js := [5]) ⟨rfl, rfl, by decide +kernel, by decide +kernel, rfl, by decide +kernel, by decide +kernel, by decide +kernel, rfl, by decide +kernel⟩ rfl (pi_list (pv 2)) (fun _ _ _ _ => (pifs_one (pt_cmpR op_ne (pv 1) (pv 0) (nomark _)))) (fun _ _ _ _ => (pv 1))) pa_nil)))
    (pss_cons (ps_if (pt_cmp (pc_isN (pv 5))) (pss_cons (ps_expr (pe_bm PySem.F.plainAttrs_list PySem.F.slot_list_append PySem.F.type_list_append mt_append (pe_fld (pv 1) rfl) (pa_cons (pe_tup (pa_cons pe_str (pa_cons (pe_dget hu (pv 4) (pe_ix ix_tup (pv 0) pe_int (fun _ _ => rfl)) (fun _ _ => rfl)) pa_nil))) pa_nil)))
      (pss_one ps_retN)) pss_nil)
    (pss_cons (ps_set (i := 6) sc.nd rfl (Or.inl rfl) (pe_md (pv 1) RC.cl D_Room_empty_place (hr.mono (by decide)) (pa_cons (pe_lst pa_nil) (pa_cons (pv 3) pa_nil))))
    (pss_cons (ps_expr (pe_bm PySem.F.plainAttrs_list PySem.F.slot_list_append PySem.F.type_list_append mt_append (pe_fld (pv 1) rfl) (pa_cons (pe_fd D_writing_row (hr.mono (by decide)) rfl (pa_cons (pv 0) (pa_cons (pv 6) (pa_cons (pv 4) pa_nil)))) pa_nil)))
    (pss_one (ps_if (pt_cmpR op_in_seq (pv 5) (pv 2) (by with_unfolding_all rfl)) (pss_one (ps_dput hu (pe_fld (pv 1) rfl) (pv 5) (pv 6) rfl)) pss_nil))))))))), ?_⟩
    refine ⟨_, rfl, a, row, rfl, ha, fun u hu1 => ?_⟩
    have s1 : Same H (upd H u (.lst ((uses1 row).map V.str))) := same_upd hu1
    have hu2 : (upd H u (.lst ((uses1 row).map V.str))) u = some (.lst ((uses1 row).map V.str)) := upd_same
    generalize upd H u (.lst ((uses1 row).map V.str)) = H1 at s1 hu2
    have nup : u ≠ pm := fun z => by obtain ⟨ms, hm, _⟩ := hR.md; rw [z, hm] at hu1; cases hu1
    refine ⟨_, rfl, _, rfl, r, pp, ps, pm, u, la, n, R, ahead row needed, uses1 row, xs, rows, rfl, hR.same s1, G, by omega, by omega, hu2, nup, s1 la _ hla, hlp, hrows.same s1, hul, uses1_nodup row, hn1, hua, fun R1 H2 hF hR2 kp2' => ?_⟩
    have kp2 : Kp (own5 r pp ps pm T) H H2 := (Same.kp s1 _).trans kp2'
    have hFd := fetched G (fun _ h => h) hua hF
    have G1 := hFd.1
    have hFl := fetch_len hF
    have hp1 := apart_len G1.pl
    have ha2 := kp2 a _ (fun z => hR.notup a z _ ha) ha
    have hnd2 := kp2 nd _ (hR.out hnd hnp) hnd
    have hla2 := kp2 la _ (hR.out hla hlp) hla
    have hrows2 := hR.rows kp2 hrows
    obtain ⟨dx, ho⟩ := hR2.obj
    refine ⟨_, rfl, r, C, dx, _, _, rfl, ho, RC.cl, RC.n2, rf2, pp, _, rfl, hR2.pl, fun du hdu => ?_⟩
    have s3 : Same H2 (upd H2 du (.dK (enc R1.place))) := same_upd hdu
    have hdu3 : (upd H2 du (.dK (enc R1.place))) du = some (.dK (enc R1.place)) := upd_same
    generalize upd H2 du (.dK (enc R1.place)) = H3 at s3 hdu3
    have hR3 := hR2.same s3
    have ndp : du ≠ pp := fun z => by rw [z, hR2.pl] at hdu; cases hdu
    have nds : du ≠ ps := fun z => by rw [z, hR2.sp] at hdu; cases hdu
    have ha3 := s3 a _ ha2
    have hnd3 := s3 nd _ hnd2
    refine ⟨_, rfl, a, row, rfl, ha3, fun wv hwv => ?_⟩
    obtain ⟨dx3, ho3⟩ := hR3.obj
    dsimp only [gName]
    show tSeq (tDrop _) _ _ [some (.ref a), some (.ref r), some (.ref nd), some (.ref la), some (.ref du), some wv, none] H3
    refine ⟨_, rfl, r, dx3, _, rfl, ho3, by rfl, _, rfl, nd, rfl, ⟨_, SqL.of hnd3⟩, comp_list (K := K) (xs := needed.map V.str) fun D hD => ⟨fun i ys H4 => i ≤ (needed.map V.str).length ∧ Same H3 H4 ∧ H4 D = some (.lst ys) ∧ ys = (others row (needed.take i)).map V.str,
      ⟨Nat.zero_le _, same_upd hD, upd_same, by unfold others drop1; cases wr row <;> rfl⟩, fun i ys H4 ⟨h1, s4, _⟩ => ⟨h1, SqL.of (s4 nd _ hnd3)⟩, ?_, ?_⟩⟩
    · rintro i y ys H4 hi ⟨h1, s4, hD4, rfl⟩
      have hlt : i < (needed.map V.str).length := (List.getElem?_eq_some_iff.mp hi).1
      rw [List.getElem?_map] at hi
      cases ei : needed[i]? with
      | none => rw [ei] at hi; cases hi
      | some x =>
        rw [ei] at hi
        obtain rfl : V.str x = y := Option.some.inj hi
        have htk : needed.take (i + 1) = needed.take i ++ [x] := by rw [List.take_add_one, ei]; rfl
        have hsc : scal (V.str x) wv = true := by
          cases hw : wr row with
          | none => rw [hw] at hwv; rw [hwv]; rfl
          | some y => rw [hw] at hwv; rw [hwv]; rfl
        refine ⟨_, rfl, _, rfl, hsc, _, rfl, ?_⟩
        have hd : (V.str x = wv) ↔ wr row = some x := by
          cases hw : wr row with
          | none => rw [hw] at hwv; rw [hwv]; exact ⟨(fun z => nomatch z), (fun z => nomatch z)⟩
          | some y => rw [hw] at hwv; rw [hwv]; exact ⟨(fun z => by have z : V.str x = V.str y := z; injection z with z; rw [z]), (fun z => by rw [Option.some.inj z]; rfl)⟩
        by_cases hw : wr row = some x
        · refine ifN (hd.mpr hw) ⟨hlt, s4, hD4, ?_⟩
          rw [htk, others_snoc, if_pos hw]
        · refine itN (fun z => hw (hd.mp z)) ?_
          refine ⟨_, rfl, hD4, small1000 ?_, hlt, fun b o e => ?_, upd_same, ?_⟩
          · rw [List.length_map]
            have h1 := others_len row (needed.take i)
            have h2 : (needed.take i).length ≤ needed.length := List.length_take_le' ..
            omega
          · rw [upd_ne (ne_of_none e hD)]; exact s4 b o e
          · rw [htk, others_snoc, if_neg hw, List.map_append]; rfl
    · rintro ys H4 ⟨_, s4, hD4, rfl⟩
      rw [List.length_map, List.take_length] at hD4
      have hR4 := hR3.same s4
      have hol := others_len row needed
      refine ⟨r, pp, ps, pm, D, n, R1, others row needed, rfl, hR4, hD4, by omega, fun pp' ps' H5 hp5 hs5 hR5 kp5 => ?_⟩
      have kp4 : Kp (own5 r pp ps pm T) H H4 := kp2.trans (Same.kp (s3.trans s4) _)
      have kpA : Kp (own5 r pp ps pm T) H H5 := kp4.trans kp5
      have hpn : H pp' = none := hR4.back kp4 hp5
      have hsn : H ps' = none := hR4.back kp4 hs5
      have hdu4 := s4 du _ hdu3
      have hdu5 := kp5 du _ (hR4.outD hdu4 ndp nds) hdu4
      have ndp' : du ≠ pp' := fun z => by rw [z, hp5] at hdu4; cases hdu4
      have nds' : du ≠ ps' := fun z => by rw [z, hs5] at hdu4; cases hdu4
      have ha5 := kpA a _ (fun z => hR.notup a z _ ha) ha
      have hnd5 := kpA nd _ (hR.out hnd hnp) hnd
      have hla5 := kpA la _ (hR.out hla hlp) hla
      have hrows5 := hR.rows kpA hrows
      have G2 := good_keep G1 hoa
      have hT5 : SqT K H5 a (rowV row) := SqT.of ha5
      obtain ⟨dx5, ho5⟩ := hR5.obj
      obtain ⟨ms, hm5, hI5⟩ := hR5.md
      have hms : ms.length = R1.made.length := hI5.length
      have hused : ∀ x ∈ uses row, ∃ z, getZ R1.place (.inr x) = some z := fun x hx => hFd.2.2 x (mem_uses1.mpr hx)
      refine ⟨_, rfl, _, rfl, ?_⟩
      cases hw : wr row with
      | none =>
        rw [hw] at hwv
        obtain ⟨x, rfl⟩ : ∃ x, row = .tell x := by
          cases row with
          | tell x => exact ⟨x, rfl⟩
          | set x z => cases hw
          | take x => cases hw
          | op o x y z => cases hw
        refine itD hwv ?_
        obtain ⟨p, hp⟩ := hused x (List.mem_singleton.mpr rfl)
        have g : DGet H5 du (kV (.inr x)) (some (.int p)) := by
          have q := DGet.k (k := .inr x) hdu5
          rw [enc_get, hp] at q
          exact q
        refine ⟨_, rfl, r, C, dx5, _, _, rfl, ho5, RC.cl, RC.n4, rf4, .inl ⟨rfl, _, SqL.of hm5⟩, _, rfl, _, rfl, a, _, _, _, rfl, rfl, hT5, at1, du, .int p, rfl, g, lk 2, fun t ht => ?_⟩
        have s6 : Same H5 (upd H5 t (.tup [.str "tell", .int p])) := same_upd ht
        refine ⟨pm, ms, _, rfl, rfl, s6 pm _ hm5, small1000 (by omega), ?_⟩
        refine k _ pp' ps' _ (.tell x R1 p rfl hF hp) hpn hsn ((hR5.same s6).putM (i := .tell p) (s6 pm _ hm5) (hI5.same s6) upd_same) ?_
        exact Kp.change (kpA.trans (Same.kp s6 _)) (Kp.upd (by simp)) hpn hsn
      | some x =>
        rw [hw] at hwv
        subst hwv
        refine ifD (fun z => nomatch z) ?_
        refine ⟨_, rfl, r, dx5, _, rfl, ho5, by rfl, (by first | decide | (show (0 : Int) < _; decide)), fun e he => ?_⟩
        have s6 : Same H5 (upd H5 e (.lst [])) := same_upd he
        have he6 : (upd H5 e (.lst [])) e = some (.lst []) := upd_same
        generalize upd H5 e (.lst []) = H6 at s6 he6
        refine ⟨_, rfl, r, pp', ps', pm, e, la, n, keepOnly R1 (others row needed), others row needed, [], [], xs, rows, rfl, hR5.same s6, G2, by omega, ?_, he6, s6 la _ hla5, hlp, hrows5.same s6, ?_, (fun _ h => nomatch h), fun R2 q H7 hE hR7 kp7 => ?_⟩
        · show R1.made.length ≤ 980
          omega
        · show ((0 : Nat) : Int) < n
          omega
        have kpB : Kp (own5 r pp' ps' pm T) H5 H7 := (Same.kp s6 _).trans kp7
        have F2 := freed G2 hE
        have hEl := empty_len hE
        have hEl2 : R2.made.length ≤ R1.made.length + 1 := hEl
        have ha7 := kpB a _ (fun z => hR5.notup a z _ ha5) ha5
        have hdu7 := kpB du _ (hR5.outD hdu5 ndp' nds') hdu5
        have hnd7 := kpB nd _ (hR5.out hnd5 hnp) hnd5
        obtain ⟨dx7, ho7⟩ := hR7.obj
        obtain ⟨ms7, hm7, hI7⟩ := hR7.md
        have hms7 : ms7.length = R2.made.length := hI7.length
        refine ⟨_, rfl, r, C, dx7, _, _, rfl, ho7, RC.cl, RC.n4, rf4, .inl ⟨rfl, _, SqL.of hm7⟩, _, rfl, _, rfl, _, rfl, a, du, q, row, R1.place, rfl, ha7, hdu7, ⟨x, hw⟩, hused, fun i t hi ht => ?_⟩
        have s8 : Same H7 (upd H7 t (.tup (irowV i))) := same_upd ht
        refine ⟨pm, ms7, _, rfl, rfl, s8 pm _ hm7, small1000 (by omega), ?_⟩
        have hR9 := (hR7.same s8).putM (i := i) (s8 pm _ hm7) (hI7.same s8) upd_same
        have kp9 : Kp (own5 r pp' ps' pm T) H5 (upd (upd H7 t (.tup (irowV i))) pm (.lst (ms7 ++ [.ref t]))) := (kpB.trans (Same.kp s8 _)).trans (Kp.upd (by simp))
        have hnd9 : (upd (upd H7 t (.tup (irowV i))) pm (.lst (ms7 ++ [.ref t]))) nd = some (.lst (needed.map V.str)) := by rw [upd_ne hnp]; exact s8 nd _ hnd7
        generalize upd (upd H7 t (.tup (irowV i))) pm (.lst (ms7 ++ [.ref t])) = H9 at hR9 kp9 hnd9
        refine ⟨_, rfl, _, rfl, nd, _, rfl, .inl (SqL.of hnd9), rfl, flat_strs _, _, rfl, ?_⟩
        show if inV (.str x) (needed.map V.str) = true then _ else _
        rw [inV_strs]
        by_cases hin : x ∈ needed
        · refine itD hin ?_
          obtain ⟨dx9, ho9⟩ := hR9.obj
          have hp2 := apart_len F2.good.pl
          have hR9p : H9 pp' = some (.dK (enc R2.place)) := hR9.pl
          refine ⟨_, rfl, _, rfl, r, C, dx9, _, _, rfl, ho9, RC.cl, RC.n2, rf2, _, rfl, pp', _, rfl, DPut.k (k := .inr x) hR9p (small1000 (by rw [enc_len]; omega)), ?_⟩
          have hRA := hR9.putP (putZ R2.place (.inr x) q)
          rw [← enc_put] at hRA
          have hP := PutRow.write (c := rows) (n := n) (needed := needed) x R1 R2 q i hw hF hE hi
          rw [if_pos hin] at hP
          exact k _ pp' ps' _ hP hpn hsn hRA (Kp.change kpA (kp9.trans (Kp.upd (by simp))) hpn hsn)
        · refine ifD hin ?_
          have hP := PutRow.write (c := rows) (n := n) (needed := needed) x R1 R2 q i hw hF hE hi
          rw [if_neg hin] at hP
          exact k _ pp' ps' _ hP hpn hsn hR9 (Kp.change kpA kp9 hpn hsn)
end
end Fp
namespace Fp
open PySem L2
def R0 : Rm := ⟨[], [], []⟩
def stAt (Rs : List Rm) : Nat → Rm
  | 0 => R0
  | i + 1 => Rs.getD i R0
theorem stAt_le {Rs : List Rm} {R : Rm} {i : Nat} (h : i ≤ Rs.length) : stAt (Rs ++ [R]) i = stAt Rs i := by
  cases i with
  | zero => rfl
  | succ i =>
    show (Rs ++ [R]).getD i R0 = Rs.getD i R0
    rw [List.getD_eq_getElem?_getD, List.getD_eq_getElem?_getD, List.getElem?_append_left (by omega)]
theorem stAt_last {Rs : List Rm} {R : Rm} {i : Nat} (h : i = Rs.length) : stAt (Rs ++ [R]) (i + 1) = R := by
  show (Rs ++ [R]).getD i R0 = R
  rw [List.getD_eq_getElem?_getD, h]
  simp
def Puts (n : Int) (rows : List Row) (ls : List (List Str)) (Rs : List Rm) : Prop := ∀ i r l, i < Rs.length → rows[i]? = some r → ls[i]? = some l → PutRow (rows.drop (i + 1)) n r l (stAt Rs i) (stAt Rs (i + 1))
theorem puts_snoc {n : Int} {rows : List Row} {ls : List (List Str)} {Rs : List Rm} {R : Rm} {r : Row} {l : List Str} (h : Puts n rows ls Rs) (hr : rows[Rs.length]? = some r) (hl : ls[Rs.length]? = some l) (hp : PutRow (rows.drop (Rs.length + 1)) n r l (stAt Rs Rs.length) R) : Puts n rows ls (Rs ++ [R]) := by
  intro i r' l' hi hr' hl'
  rw [List.length_append] at hi
  simp only [List.length_cons, List.length_nil] at hi
  by_cases e : i = Rs.length
  · subst e
    rw [hr] at hr'
    rw [hl] at hl'
    cases hr'
    cases hl'
    rw [stAt_le (Nat.le_refl _), stAt_last rfl]
    exact hp
  · have hi' : i < Rs.length := by omega
    rw [stAt_le (by omega), stAt_le (by omega)]
    exact h i r' l' hi' hr' hl'
def lvAt (ls : List (List Str)) : Nat → List Str
  | 0 => []
  | j + 1 => ls.getD j []
theorem Good.congr {n : Int} {l l' : List Str} {R : Rm} (G : Good n l R) (h : ∀ x, x ∈ l ↔ x ∈ l') : Good n l' R :=
  ⟨G.pl.mono fun x hx => (h x).mp hx, G.sp.mono fun x hx => (h x).mp hx, G.lt, fun x hx => G.all x ((h x).mpr hx)⟩
theorem need_valid {rows : List Row} (hv : Valid rows) (x : Str) : need rows x = false := by
  have go : ∀ (k : Nat), k ≤ rows.length → (∀ q ∈ rows.take (rows.length - k), wr q ≠ some x) → need (rows.drop (rows.length - k)) x = false := by
    intro k
    induction k with
    | zero => intro _ _; rw [Nat.sub_zero, List.drop_length]; rfl
    | succ k ih =>
      intro hk hno
      have hlt : rows.length - (k + 1) < rows.length := by omega
      rw [List.drop_eq_getElem_cons hlt, need_cons]
      have hg : rows[rows.length - (k + 1)]? = some rows[rows.length - (k + 1)] := List.getElem?_eq_getElem hlt
      rw [if_neg]
      · by_cases hw : wr rows[rows.length - (k + 1)] = some x
        · rw [if_pos hw]
        · rw [if_neg hw]
          have e : rows.length - (k + 1) + 1 = rows.length - k := by omega
          rw [e]
          refine ih (by omega) fun q hq => ?_
          rw [← e, List.take_add_one, hg] at hq
          rcases List.mem_append.mp hq with z | z
          · exact hno q z
          · rw [List.mem_singleton.mp z]; exact hw
      · intro hu
        obtain ⟨q, hq, e⟩ := hv _ _ hg x hu
        exact hno q hq e
  have := go rows.length (Nat.le_refl _) (by rw [Nat.sub_self, List.take_zero]; exact (fun q hq => nomatch hq))
  rwa [Nat.sub_self, List.drop_zero] at this
theorem live_at {rows : List Row} {ls : List (List Str)} (hv : Valid rows) (ht : Told rows ls) {j : Nat} {r : Row} {l : List Str} (hr : rows[j]? = some r) (hl : ls[j]? = some l) : ∀ x, x ∈ lvAt ls j ↔ x ∈ ahead r l := by
  intro x
  have hlt : j < rows.length := (List.getElem?_eq_some_iff.mp hr).1
  have hd : rows.drop j = r :: rows.drop (j + 1) := by
    rw [List.drop_eq_getElem_cons hlt]
    congr 1
    rw [List.getElem?_eq_getElem hlt] at hr
    exact Option.some.inj hr
  have key : x ∈ ahead r l ↔ need (rows.drop j) x = true := by
    rw [hd, need_cons, mem_ahead, (ht.2 j l hl).mem x]
    by_cases hu : x ∈ uses r
    · simp [hu]
    · by_cases hw : wr r = some x
      · simp [hu, hw]
      · simp [hu, hw]
  rw [key]
  cases j with
  | zero =>
    rw [List.drop_zero, need_valid hv]
    exact ⟨(fun h => nomatch h), (fun h => nomatch h)⟩
  | succ j =>
    have hlt2 : j < ls.length := by rw [ht.1]; omega
    have e : ls[j]? = some ls[j] := List.getElem?_eq_getElem hlt2
    show x ∈ ls.getD j [] ↔ _
    rw [List.getD_eq_getElem?_getD, e]
    exact (ht.2 j _ e).mem x
theorem puts_good {n : Int} {rows : List Row} {ls : List (List Str)} {Rs : List Rm} (hv : Valid rows) (ht : Told rows ls) (h : Puts n rows ls Rs) : ∀ j, j ≤ Rs.length → j ≤ rows.length → Good n (lvAt ls j) (stAt Rs j) := by
  intro j
  induction j with
  | zero => intro _ _; exact good_nil n
  | succ j ih =>
    intro h1 h2
    obtain ⟨r, hr⟩ : ∃ r, rows[j]? = some r := ⟨_, List.getElem?_eq_getElem (by omega)⟩
    obtain ⟨l, hl⟩ : ∃ l, ls[j]? = some l := ⟨_, List.getElem?_eq_getElem (by rw [ht.1]; omega)⟩
    have G := (ih (by omega) (by omega)).congr (live_at hv ht hr hl)
    have q := put_good G (h j r l (by omega) hr hl)
    have e : lvAt ls (j + 1) = l := by show ls.getD j [] = l; rw [List.getD_eq_getElem?_getD, hl]; rfl
    rw [e]
    exact q
theorem puts_len {n : Int} {rows : List Row} {ls : List (List Str)} {Rs : List Rm} (ht : ls.length = rows.length) (h : Puts n rows ls Rs) : ∀ j, j ≤ Rs.length → j ≤ rows.length → (stAt Rs j).made.length ≤ 6 * j := by
  intro j
  induction j with
  | zero => intro _ _; exact Nat.le_refl _
  | succ j ih =>
    intro h1 h2
    obtain ⟨r, hr⟩ : ∃ r, rows[j]? = some r := ⟨_, List.getElem?_eq_getElem (by omega)⟩
    obtain ⟨l, hl⟩ : ∃ l, ls[j]? = some l := ⟨_, List.getElem?_eq_getElem (by omega)⟩
    have := put_len (h j r l (by omega) hr hl)
    have := ih (by omega) (by omega)
    omega
def LyingAt (H : Hp) (R : Rm) (us : List V) (l : List Str) : Prop := Paired (fun y x => ∃ u, y = V.ref u ∧ H u = some (.tup [.str x, optV (getZ R.place (.inr x)), optV (getZ R.spot (.inr x))])) us l
def WalkAt (pm pw : Addr) (H : Hp) (zs : List V) (qs : List (Rm × List Str)) : Prop := Paired (fun v q => ∃ t l us, v = V.ref t ∧ H t = some (.tup [.int ((q.1.made.length : Nat) : Int), .ref l]) ∧ H l = some (.lst us) ∧ l ≠ pm ∧ l ≠ pw ∧ LyingAt H q.1 us q.2) zs qs
theorem LyingAt.same {H H' : Hp} (s : Same H H') {R : Rm} {us : List V} {l : List Str} (h : LyingAt H R us l) : LyingAt H' R us l := Paired.mapP h fun _ _ ⟨u, e1, e2⟩ => ⟨u, e1, s u _ e2⟩
theorem WalkAt.same {pm pw : Addr} {H H' : Hp} (s : Same H H') {zs : List V} {qs : List (Rm × List Str)} (h : WalkAt pm pw H zs qs) : WalkAt pm pw H' zs qs := Paired.mapP h fun _ _ ⟨t, l, us, e1, e2, e3, e4, e4', e5⟩ => ⟨t, l, us, e1, s t _ e2, s l _ e3, e4, e4', e5.same s⟩
theorem Rat.walk {C T : Addr} {H H' : Hp} {r pp ps pm pw : Addr} {n : Int} {R : Rm} (h : Rat C T H r pp ps pm n R) (k : Kp (own5 r pp ps pm T) H H') {zs : List V} {qs : List (Rm × List Str)} (hw : WalkAt pm pw H zs qs) : WalkAt pm pw H' zs qs :=
  Paired.mapP hw fun _ _ ⟨t, l, us, e1, e2, e3, e4, e4', e5⟩ => ⟨t, l, us, e1, k t _ (fun z => h.notup t z _ e2) e2, k l _ (h.out e3 e4) e3, e4, e4', Paired.mapP e5 fun _ _ ⟨u, f1, f2⟩ => ⟨u, f1, k u _ (fun z => h.notup u z _ f2) f2⟩⟩
section
variable {P : Program} {w : World} {K : PySem.W.Frag} {mg : Str → Option Value} {base : Heap} {C T : Addr}
def spRW (C T : Addr) : Sp := fun vs H Q _ => ∃ (a : Addr) (n : Int) (xs : List V) (rows : List Row) (ns : List Str), vs = [.ref a, .int n] ∧ H a = some (.lst xs) ∧ RowsAt H xs rows ∧ Valid rows ∧ Among ns rows ∧ ns.length ≤ 60 ∧ rows.length ≤ 100 ∧ (∀ r ∈ rows, ((needs r : Nat) : Int) ≤ n) ∧ Tab H T ∧
  ∀ t pm pw ys zs ls Rs H', SameP T H H' → Tab H' T → H' t = some (.tup [.ref pm, .ref pw]) → H' pm = some (.lst ys) → IRowsAt H' ys (stAt Rs rows.length).made → H' pw = some (.lst zs) → WalkAt pm pw H' zs (Rs.zip ls) → Rs.length = rows.length → Told rows ls → Puts n rows ls Rs → H pm = none → H pw = none → Q (.ref t) H'
theorem fd_rw (B : Blt mg) (RC : RoomC K mg C) (D_living : Fd P w K mg base 3 "living" ["rows"] (spLiving K)) (D_refuse_too_few : Fd P w K mg base 3 "refuse_too_few" ["rows", "places"] (spFew K)) (D_Room_init : Mi P w K mg base C 1 ["self", "places"] (spInit C))
    (D_put_row : Fd P w K mg base 8 "put_row" ["row", "room", "needed", "later"] (spPut C T)) (D_Room_lying : Md P w K mg base C 1 "lying" ["self", "name"] (spLying C T)) (F : Fn K mg "rows_and_walk" (top 23)) : Fd P w K mg base 9 "rows_and_walk" ["rows", "places"] (spRW C T) := by
  have sc : FnScope ["rows", "places", "needed_behind", "room", "walk", "number", "row", "needed"] ["rows", "places"] (defScope (top 23)) := ⟨rfl, rfl, rfl, by decide +kernel, rfl, by decide +kernel, by decide +kernel⟩
  refine F.fd sc (fun vs H Q E h => ?_) (fun _ _ _ _ _ _ us hl => by obtain ⟨a0, a1, rfl⟩ := us2 hl; rfl) (fun f cdv A outer s H vs Q E hr h => ?_)
  · obtain ⟨a, n, xs, rows, ns, rfl, _⟩ := h
    rfl
  · obtain ⟨a, n, xs, rows, ns, rfl, ha, hR, hv, ham, hns, hlen, hfew, htab, k⟩ := h
    have hxl : xs.length = rows.length := hR.length
    refine ⟨_, (pss_cons (ps_set (i := 2) sc.nd rfl (Or.inl rfl) (pe_fd D_living (hr.mono (by decide)) rfl (pa_cons (pv 0) pa_nil)))
    (pss_cons (ps_expr (pe_fd D_refuse_too_few (hr.mono (by decide)) rfl (pa_cons (pv 0) (pa_cons (pv 1) pa_nil))))
    (pss_cons (ps_set (i := 3) sc.nd rfl (Or.inr rfl) (pe_mi D_Room_init (hr.mono (by decide)) rfl RC.at_ (pa_cons (pv 1) pa_nil)))
    (pss_cons (ps_set (i := 4) sc.nd rfl (Or.inl rfl) (pe_lst pa_nil))
    (pss_cons (ps_for PassesOwn.never rfl (pi_enum rfl B.enumerate_ (pa_cons (pv 0) pa_nil)) (pg_tup rfl (pgs_cons (pg_name (i := 5) sc.nd rfl (Or.inl rfl)) (pgs_cons (pg_name (i := 6) sc.nd rfl (Or.inl rfl)) pgs_nil))) (pss_cons (ps_set (i := 7) sc.nd rfl (Or.inl rfl) (pe_ix ix_list (pv 2) (pv 5) (fun _ _ => rfl)))
      (pss_cons (ps_expr (pe_fd D_put_row (hr.mono (by decide)) rfl (pa_cons (pv 6) (pa_cons (pv 3) (pa_cons (pv 7) (pa_cons (pe_slice sl_list (pv 0) (po_some (pe_op op_add (pv 5) pe_int)) po_none) pa_nil))))))
      (pss_one (ps_expr (pe_bm PySem.F.plainAttrs_list PySem.F.slot_list_append PySem.F.type_list_append mt_append (pv 4) (pa_cons (pe_tup (pa_cons (pe_callB call_len_seq rfl B.len_ PySem.boot_len (pa_cons (pe_fld (pv 3) rfl) pa_nil)) (pa_cons (pe_comp (sc := defScope (top 23)) (fv := ["room"]) (js := [3]) ⟨rfl, rfl, by decide +kernel, by decide +kernel, rfl, by decide +kernel, by decide +kernel, by decide +kernel, rfl, by decide +kernel⟩ rfl (pi_list (pv 7)) (fun _ _ _ _ => pifs_nil) (fun _ _ _ _ => (pe_md (pv 0) RC.cl D_Room_lying (hr.mono (by decide)) (pa_cons (pv 1) pa_nil)))) pa_nil))) pa_nil)))))))
    (pss_one (ps_ret (pe_tup (pa_cons (pe_fld (pv 3) rfl) (pa_cons (pv 4) pa_nil)))))))))), ?_⟩
    refine ⟨_, rfl, a, xs, rows, ns, rfl, SqL.of ha, hR, hv, ham, hns, by omega, fun pf ys0 ls H1 s1 hf1 hP1 hT => ?_⟩
    refine ⟨_, rfl, _, rfl, a, n, xs, rows, rfl, s1 a _ ha, hR.same s1, hfew, fun H2 s2 => ?_⟩
    have s02 : Same H H2 := s1.trans s2
    have hf2 := s2 pf _ hf1
    have hP2 : Paired (StrsAt H2) ys0 ls := Paired.mapP hP1 fun _ _ q => q.same s2
    have hyl0 : ys0.length = rows.length := by rw [hP2.length]; exact hT.1
    refine ⟨_, rfl, fun r dx hr2 hdx hdr => ?_⟩
    refine ⟨r, dx, n, rfl, upd_same, fun pp ps pm H3 hpp hps hpm hne keep3 ho3 hpl3 hsp3 hpm3 => ⟨rfl, ?_⟩⟩
    have frz : ∀ b, (upd (upd H2 dx (.own r)) r (.ins C dx [])) b = none → H2 b = none := fun b e => by
      have n1 : b ≠ r := fun z => by rw [z, upd_same] at e; cases e
      rw [upd_ne n1] at e
      have n2 : b ≠ dx := fun z => by rw [z, upd_same] at e; cases e
      rw [upd_ne n2] at e
      exact e
    have s23 : Same H2 H3 := fun b o e => keep3 b o (ne_of_none e hr2) (by rw [upd_ne (ne_of_none e hr2), upd_ne (ne_of_none e hdx)]; exact e)
    have hpp2 := frz pp hpp
    have hps2 := frz ps hps
    have hpm2 := frz pm hpm
    have hRat3 : Rat C T H3 r pp ps pm n R0 := ⟨⟨dx, ho3⟩, hpl3, hsp3, ⟨[], hpm3, .nil⟩, hne, tab_same htab (s02.trans s23)⟩
    refine ⟨(by first | decide | (show (0 : Int) < _; decide)), fun pw hpw => ?_⟩
    have s34 : Same H3 (upd H3 pw (.lst [])) := same_upd hpw
    have hpw4 : (upd H3 pw (.lst [])) pw = some (.lst []) := upd_same
    generalize upd H3 pw (.lst []) = H4 at s34 hpw4
    have npwm : pw ≠ pm := fun z => by rw [z, hpm3] at hpw; cases hpw
    have hpw2 : H2 pw = none := s23.free hpw
    have s24 := s23.trans s34
    dsimp only [gName]
    show tSeq (tFor _ _ _) _ _ [some (.ref a), some (.int n), some (.ref pf), some (.ref r), some (.ref pw), none, none, none] H4
    refine ⟨_, rfl, a, xs, rfl, SqL.of (s24 a _ (s02 a _ ha)), for_enum (K := K) (a := a) (xs := xs) (fun j σ H' => ∃ (Rs : List Rm) (pp ps : Addr) (zs : List V) (v5 v6 v7 : Option V), σ = [some (.ref a), some (.int n), some (.ref pf), some (.ref r), some (.ref pw), v5, v6, v7] ∧ Rs.length = j ∧ Puts n rows ls Rs ∧
      Rat C T H' r pp ps pm n (stAt Rs j) ∧ SameP T H2 H' ∧ H2 pp = none ∧ H2 ps = none ∧ H' pw = some (.lst zs) ∧ WalkAt pm pw H' zs (Rs.zip (ls.take j)))
      ⟨[], pp, ps, [], none, none, none, rfl, rfl, (fun i r l hi => by simp at hi), hRat3.same s34, Same.p s24, hpp2, hps2, hpw4, .nil⟩ (fun j σ H' _ ⟨_, _, _, _, _, _, _, _, _, _, _, sp, _⟩ => SqL.of (sp a _ (tab_ne (tab_same htab s02) (s02 a _ ha) (fun _ z => nomatch z)) (s02 a _ ha))) ?_ ?_⟩
    · rintro j y p σ H' hj hp ⟨Rs, pp, ps, zs, v5, v6, v7, rfl, hRl, hPuts, hRat, sp, hppn, hpsn, hpwz, hW⟩
      obtain ⟨row, hrow, ra, rfl, hra⟩ := paired_get hR hj
      have hjl : j < rows.length := (List.getElem?_eq_some_iff.mp hrow).1
      have htab2 := tab_same htab s02
      have old : ∀ b o, (∀ ps, o ≠ HO.tbl ps) → H2 b = some o → H' b = some o := fun b o ho e => sp b o (tab_ne htab2 e ho) e
      have sA : Same H' (upd H' p (.tup [.int j, .ref ra])) := same_upd hp
      refine ⟨p, _, rfl, SqT.of upd_same, rfl, _, _, rfl, _, _, rfl, rfl, ?_⟩
      generalize upd H' p (.tup [.int j, .ref ra]) = HA at sA
      dsimp only [gName]
      show tSeq (tAsg _ _) _ _ [some (.ref a), some (.int n), some (.ref pf), some (.ref r), some (.ref pw), some (.int j), some (.ref ra), v7] HA
      obtain ⟨l, hl⟩ : ∃ l, ls[j]? = some l := ⟨_, List.getElem?_eq_getElem (by rw [hT.1]; exact hjl)⟩
      obtain ⟨yv, hyv, nd, rfl, hnd2⟩ := paired_get' hP2 hl
      have hfA := sA pf _ (old pf _ (by intro _ z; cases z) hf2)
      refine ⟨_, rfl, _, rfl, pf, _, _, .ref nd, rfl, rfl, SqL.of hfA, atI_nat hyv, ?_⟩
      have hndA := sA nd _ (old nd _ (by intro _ z; cases z) hnd2)
      have nndm : nd ≠ pm := fun z => by rw [z, hpm2] at hnd2; cases hnd2
      have hraA : HA ra = some (.tup (rowV row)) := sA ra _ (old ra _ (by intro _ z; cases z) (s02 ra _ hra))
      have hRatA := hRat.same sA
      have haA := sA a _ (old a _ (by intro _ z; cases z) (s02 a _ ha))
      have hRA : RowsAt HA xs rows := Paired.mapP hR fun _ _ ⟨b, e1, e2⟩ => ⟨b, e1, sA b _ (old b _ (by intro _ z; cases z) (s02 b _ e2))⟩
      refine ⟨_, rfl, _, rfl, _, rfl, _, rfl, _, rfl, _, _, rfl, rfl, _, rfl, a, xs, rfl, SqL.of haA, fun la hla => ?_⟩
      have hz1 : (((j : Int) + 1)).toNat = j + 1 := by omega
      rw [cut_from (show (0 : Int) ≤ (j : Int) + 1 by omega), hz1]
      have sB : Same HA (upd HA la (.lst (xs.drop (j + 1)))) := same_upd hla
      have hlaB : (upd HA la (.lst (xs.drop (j + 1)))) la = some (.lst (xs.drop (j + 1))) := upd_same
      generalize upd HA la (.lst (xs.drop (j + 1))) = HB at sB hlaB
      have nlam : la ≠ pm := fun z => by obtain ⟨ms, hm, _⟩ := hRatA.md; rw [z, hm] at hla; cases hla
      have G := (puts_good hv hT hPuts j (by omega) (by omega)).congr (live_at hv hT hrow hl)
      have hll : l.length ≤ 60 := by
        have : l.length ≤ ns.length := len_le_of_subset (hT.2 j l hl).nd fun x hx => need_mem (ham.drop _) (((hT.2 j l hl).mem x).mp hx)
        omega
      have hml := puts_len hT.1 hPuts j (by omega) (by omega)
      have hRatB := hRatA.same sB
      refine ⟨r, pp, ps, pm, ra, nd, la, n, stAt Rs j, l, row, _, _, rfl, sB ra _ hraA, hRatB, G, by omega, by omega, sB nd _ hndA, nndm, hlaB, nlam, paired_drop (j + 1) (hRA.same sB), hfew row (List.mem_of_getElem? hrow), fun R' pp' ps' HC hPut hppC hpsC hRatC kpC => ?_⟩
      have sAB := sA.trans sB
      have hpwC : HC pw = some (.lst zs) := kpC pw _ (hRatB.out (sAB pw _ hpwz) npwm) (sAB pw _ hpwz)
      have hndC := kpC nd _ (hRatB.out (sB nd _ hndA) nndm) (sB nd _ hndA)
      have spC : SameP T H2 HC := fun b o hb e => by
        have e1 := sAB b _ (sp b o hb e)
        refine kpC b o (fun z => ?_) e1
        simp only [own5, List.mem_cons, List.not_mem_nil, or_false] at z
        rcases z with z | z | z | z | z
        · rw [z, hr2] at e; cases e
        · rw [z, hppn] at e; cases e
        · rw [z, hpsn] at e; cases e
        · rw [z, hpm2] at e; cases e
        · exact hb z
      have hWC : WalkAt pm pw HC zs (Rs.zip (ls.take j)) := hRatB.walk kpC (hW.same sAB)
      have fr2 : ∀ b, HB b = none → H2 b = none := fun b e => by
        cases q : H2 b with
        | none => rfl
        | some o =>
          by_cases hb : b = T
          · rcases hRatB.tab with t | ⟨_, _, t, _⟩ <;> (rw [hb, t] at e; cases e)
          · rw [sAB b _ (sp b o hb q)] at e; cases e
      obtain ⟨dxC, hoC⟩ := hRatC.obj
      obtain ⟨msC, hmC, hIC⟩ := hRatC.md
      have hmsl : msC.length = R'.made.length := hIC.length
      have hput := put_len hPut
      refine ⟨_, rfl, .inl ⟨rfl, _, SqL.of hpwC⟩, _, rfl, r, C, dxC, _, _, rfl, hoC, RC.cl, RC.n4, rf4, pm, _, rfl, .inl (SqL.of hmC), ?_⟩
      refine ⟨_, rfl, nd, rfl, ⟨_, SqL.of hndC⟩, comp_list (K := K) (xs := l.map V.str) fun D hD => ⟨fun i us HD => i ≤ (l.map V.str).length ∧ Same HC HD ∧ HD D = some (.lst us) ∧ LyingAt HD R' us (l.take i) ∧ us.length = i,
        ⟨Nat.zero_le _, same_upd hD, upd_same, .nil, rfl⟩, fun i us HD ⟨h1, s5, _⟩ => ⟨h1, SqL.of (s5 nd _ hndC)⟩, ?_, ?_⟩⟩
      · rintro i y us HD hi ⟨h1, s5, hD5, hL5, hul⟩
        have hlt : i < (l.map V.str).length := (List.getElem?_eq_some_iff.mp hi).1
        rw [List.getElem?_map] at hi
        cases ei : l[i]? with
        | none => rw [ei] at hi; cases hi
        | some x =>
          rw [ei] at hi
          obtain rfl : V.str x = y := Option.some.inj hi
          have htk : l.take (i + 1) = l.take i ++ [x] := by rw [List.take_add_one, ei]; rfl
          rw [List.length_map] at hlt
          refine ⟨_, rfl, r, dxC, _, rfl, s5 r _ hoC, by rfl, _, rfl, r, pp', ps', pm, n, R', x, rfl, hRatC.same s5, fun u hu5 => ?_⟩
          have nuD : D ≠ u := ne_of_none hD5 hu5
          have s6 : Same HD (upd HD u (.tup [.str x, optV (getZ R'.place (.inr x)), optV (getZ R'.spot (.inr x))])) := same_upd hu5
          have hu6 : (upd HD u (.tup [.str x, optV (getZ R'.place (.inr x)), optV (getZ R'.spot (.inr x))])) u = some (.tup [.str x, optV (getZ R'.place (.inr x)), optV (getZ R'.spot (.inr x))]) := upd_same
          generalize upd HD u (.tup [.str x, optV (getZ R'.place (.inr x)), optV (getZ R'.spot (.inr x))]) = HE at s6 hu6
          have notD : ∀ b ts, HE b = some (.tup ts) → b ≠ D := fun b ts e z => by rw [z, s6 D _ hD5] at e; cases e
          refine ⟨s6 D _ hD5, small1000 (by omega), by rw [List.length_map]; exact hlt, fun b o e => ?_, upd_same, ?_, by simp [hul]⟩
          · rw [upd_ne (ne_of_none e hD)]; exact s6 b o (s5 b o e)
          · rw [htk]
            exact paired_append (Paired.mapP (hL5.same s6) fun _ _ ⟨b, e1, e2⟩ => ⟨b, e1, by rw [upd_ne (notD b _ e2)]; exact e2⟩) (.cons ⟨u, rfl, by rw [upd_ne (notD u _ hu6)]; exact hu6⟩ .nil)
      · rintro us HD ⟨_, s5, hD5, hL5, hul⟩
        rw [List.length_map, List.take_length] at hL5
        refine ⟨lk 2, fun t ht => ?_⟩
        have s6 : Same HD (upd HD t (.tup [.int ((msC.length : Nat) : Int), .ref D])) := same_upd ht
        have ht6 : (upd HD t (.tup [.int ((msC.length : Nat) : Int), .ref D])) t = some (.tup [.int ((msC.length : Nat) : Int), .ref D]) := upd_same
        generalize upd HD t (.tup [.int ((msC.length : Nat) : Int), .ref D]) = HE at s6 ht6
        have sCE := s5.trans s6
        have hpwE := sCE pw _ hpwC
        have hzl : zs.length = j := by
          rw [hW.length, List.length_zip, List.length_take, hRl, hT.1]
          omega
        have nDm : D ≠ pm := fun z => by rw [z, hmC] at hD; cases hD
        have nDw : D ≠ pw := fun z => by rw [z, hpwC] at hD; cases hD
        refine ⟨pw, zs, _, rfl, rfl, hpwE, small1000 (by omega), ?_⟩
        have hpl := plain_of hpwE rfl
        have hRatE := hRatC.same sCE
        have npw : ∀ (b : Addr) (u : V), b ∈ own5 r pp' ps' pm T → b ≠ pw := fun b _ hb z => hRatE.out hpwE npwm (by rw [← z]; exact hb)
        obtain ⟨dxE, hoE⟩ := hRatE.obj
        obtain ⟨msE, hmE, hIE⟩ := hRatE.md
        have hRatF : Rat C T (upd HE pw (.lst (zs ++ [.ref t]))) r pp' ps' pm n R' := ⟨⟨dxE, by rw [upd_ne (npw r .non (by simp))]; exact hoE⟩, by rw [upd_ne (npw pp' .non (by simp))]; exact hRatE.pl, by rw [upd_ne (npw ps' .non (by simp))]; exact hRatE.sp, ⟨msE, by rw [upd_ne (npw pm .non (by simp))]; exact hmE, irows_upd hIE hpl⟩, hRatE.ne, tab_upd hRatE.tab hpl⟩
        have hzip : (Rs ++ [R']).zip (ls.take (j + 1)) = Rs.zip (ls.take j) ++ [(R', l)] := by
          have htk : ls.take (j + 1) = ls.take j ++ [l] := by rw [List.take_add_one, hl]; rfl
          rw [htk, List.zip_append (by rw [List.length_take, hRl, hT.1]; omega)]
          rfl
        have hWE := hWC.same sCE
        have wl : ∀ (b : Addr) (ts : List V), HE b = some (.tup ts) → b ≠ pw := fun b ts e z => by rw [z, hpwE] at e; cases e
        refine ⟨Rs ++ [R'], pp', ps', zs ++ [.ref t], _, _, _, rfl, by simp [hRl], puts_snoc hPuts (by rw [hRl]; exact hrow) (by rw [hRl]; exact hl) (by rw [hRl]; exact hPut), ?_, fun b o hb e => ?_, fr2 pp' hppC, fr2 ps' hpsC, upd_same, ?_⟩
        · rw [stAt_last hRl.symm]; exact hRatF
        · rw [upd_ne (fun z => by rw [z, hpw2] at e; cases e)]; exact sCE b o (spC b o hb e)
        · rw [hzip]
          refine paired_append (Paired.mapP hWE fun _ _ ⟨t1, l1, us1, e1, e2, e3, e4, e4', e5⟩ => ⟨t1, l1, us1, e1, by rw [upd_ne (wl t1 _ e2)]; exact e2, by rw [upd_ne e4']; exact e3, e4, e4', Paired.mapP e5 fun _ _ ⟨u, f1, f2⟩ => ⟨u, f1, by rw [upd_ne (wl u _ f2)]; exact f2⟩⟩) (.cons ⟨t, D, us, rfl, ?_, by rw [upd_ne nDw]; exact s6 D _ hD5, nDm, nDw, Paired.mapP (hL5.same s6) fun _ _ ⟨u, f1, f2⟩ => ⟨u, f1, by rw [upd_ne (wl u _ f2)]; exact f2⟩⟩ .nil)
          rw [upd_ne (wl t _ ht6), ht6, hmsl]
    · rintro σ H' ⟨Rs, pp, ps, zs, v5, v6, v7, rfl, hRl, hPuts, hRat, sp, hppn, hpsn, hpwz, hW⟩
      rw [hxl] at hRl hRat hW
      obtain ⟨dx', ho'⟩ := hRat.obj
      obtain ⟨ms, hm, hI⟩ := hRat.md
      refine ⟨_, rfl, r, C, dx', _, _, rfl, ho', RC.cl, RC.n4, rf4, _, rfl, lk 2, fun t ht => ?_⟩
      have sA : Same H' (upd H' t (.tup [.ref pm, .ref pw])) := same_upd ht
      have hlst : ls.take rows.length = ls := by rw [← hT.1, List.take_length]
      rw [hlst] at hW
      have sp0 : SameP T H H' := fun b o hb e => sp b o hb (s02 b o e)
      exact k t pm pw ms zs ls Rs _ (sp0.trans (Same.p sA)) (tab_same hRat.tab sA) upd_same (sA pm _ hm) (hI.same sA) (sA pw _ hpwz) (hW.same sA) hRl hT hPuts (s02.free hpm2) (s02.free hpw2)
end
end Fp
namespace Fp
open PySem L2
theorem shelve_made {n : Int} {live : List Str} {R R' : Rm} {x : Str} (G : Good n live R) (h : Shelve R x R') : ∃ l, R'.made = R.made ++ l ∧ ∀ i ∈ l, Move n i := by
  cases h with
  | there z h => exact ⟨[], by simp, (fun _ h => nomatch h)⟩
  | new s p h1 hs hp => exact ⟨[.shelve s p], rfl, fun i hi => by rw [List.mem_singleton.mp hi]; exact ⟨hs.1, G.pl.pos _ _ hp, G.lt _ _ hp⟩⟩
theorem empty_made {c : List Row} {n : Int} {live st : List Str} {R R' : Rm} {p : Int} (G : Good n live R) (h : Empty c n st R R' p) : ∃ l, R'.made = R.made ++ l ∧ ∀ i ∈ l, Move n i := by
  cases h with
  | free _ h hp => exact ⟨[], by simp, (fun _ h => nomatch h)⟩
  | full q _ x R1 h hq hx hs hS =>
    obtain ⟨l, e, h⟩ := shelve_made G hS
    exact ⟨l, e, h⟩
theorem fetch_made {c : List Row} {n : Int} {live us : List Str} (hu : ∀ x ∈ us, x ∈ live) {l : List Str} {R R' : Rm} (F : Fetch c n us l R R') : Good n live R → (∀ x ∈ l, x ∈ us) → ∃ m, R'.made = R.made ++ m ∧ ∀ i ∈ m, Move n i := by
  induction F with
  | nil R => exact fun _ _ => ⟨[], by simp, (fun _ h => nomatch h)⟩
  | has x l R R' z h t ih => exact fun G hl => ih G fun y hy => hl y (List.mem_cons_of_mem _ hy)
  | get x l R R1 R' p s h he hs t ih =>
    intro G hl
    obtain ⟨m1, e1, h1⟩ := empty_made G he
    have E := freed G he
    obtain ⟨m2, e2, h2⟩ := ih (fetched1 G (hu x (hl x (List.mem_cons_self ..))) h he) fun y hy => hl y (List.mem_cons_of_mem _ hy)
    refine ⟨m1 ++ ([.fetch p s] ++ m2), ?_, fun i hi => ?_⟩
    · rw [e2]
      show (R1.made ++ [.fetch p s]) ++ m2 = _
      rw [e1]
      simp
    · rcases List.mem_append.mp hi with q | q
      · exact h1 i q
      · rcases List.mem_append.mp q with q | q
        · rw [List.mem_singleton.mp q]; exact ⟨E.p0, E.pn, E.good.sp.pos _ _ hs⟩
        · exact h2 i q
theorem put_made {c : List Row} {n : Int} {r : Row} {needed : List Str} {R R' : Rm} (G : Good n (ahead r needed) R) (P : PutRow c n r needed R R') : ∃ l i, R'.made = R.made ++ (l ++ [i]) ∧ (∀ m ∈ l, Move n m) ∧ Own n r i := by
  have hu : ∀ x ∈ uses1 r, x ∈ ahead r needed := fun x hx => mem_ahead'.mpr (.inr hx)
  have ho : ∀ x ∈ others r needed, x ∈ ahead r needed := fun x hx => mem_ahead'.mpr (.inl hx)
  cases P with
  | tell x R1 p e hf hp =>
    have G1 := (fetched G (fun _ h => h) hu hf).1
    obtain ⟨m, e1, h1⟩ := fetch_made hu hf G (fun _ h => h)
    subst e
    exact ⟨m, .tell p, by show R1.made ++ [.tell p] = _; rw [e1, List.append_assoc], h1, .tell x p (G1.pl.pos _ _ hp) (G1.lt _ _ hp)⟩
  | write x R1 R2 q i e hf he hi =>
    have G1 := (fetched G (fun _ h => h) hu hf).1
    have G2 := good_keep G1 ho
    have F := freed G2 he
    obtain ⟨m1, e1, h1⟩ := fetch_made hu hf G (fun _ h => h)
    obtain ⟨m2, e2, h2⟩ := empty_made G2 he
    have e2' : R2.made = R1.made ++ m2 := e2
    refine ⟨m1 ++ m2, i, by show R2.made ++ [i] = _; rw [e2', e1]; simp, fun m hm => ?_, ?_⟩
    · rcases List.mem_append.mp hm with z | z
      · exact h1 m z
      · exact h2 m z
    · cases hi with
      | set w k => exact .set _ _ _ F.p0 F.pn
      | take w => exact .take _ _ F.p0 F.pn
      | op o w a b pa pb ha hb => exact .op _ _ _ _ _ _ _ F.p0 F.pn (G1.pl.pos _ _ ha) (G1.lt _ _ ha) (G1.pl.pos _ _ hb) (G1.lt _ _ hb)
def isMove : IRow → Bool
  | .shelve .. => true
  | .fetch .. => true
  | _ => false
theorem move_is {n : Int} {i : IRow} (h : Move n i) : isMove i = true := by
  cases i with
  | shelve s p => rfl
  | fetch p s => rfl
  | _ => exact h.elim
theorem own_not {n : Int} {r : Row} {i : IRow} (h : Own n r i) : isMove i = false := by cases h <;> rfl
def iword : IRow → Str
  | .set .. => "set"
  | .take _ => "take"
  | .op o .. => word o
  | .tell _ => "tell"
  | .shelve .. => "shelve"
  | .fetch .. => "fetch"
def nword : Row → Str
  | .set .. => "set"
  | .take _ => "take"
  | .op o .. => word o
  | .tell _ => "tell"
theorem iword_at0 (r : IRow) : atI (irowV r) 0 = some (.str (iword r)) := by cases r <;> exact at0
theorem nword_at0 (r : Row) : atI (rowV r) 0 = some (.str (nword r)) := by cases r <;> exact at0
theorem own_word {n : Int} {r : Row} {i : IRow} (h : Own n r i) : iword i = nword r := by cases h <;> rfl
def OkRow (n : Int) (i : IRow) : Prop := Move n i ∨ ∃ r, Own n r i
def mulR (i : IRow) : Bool := isMulP (toP i)
theorem own_mul {n : Int} {r : Row} {i : IRow} (h : Own n r i) : mulR i = isMul r := by
  cases h with
  | op o x a b p q s => cases o <;> rfl
  | _ => rfl
theorem move_mul {n : Int} {i : IRow} (h : Move n i) : mulR i = false := by
  cases i with
  | shelve s p => rfl
  | fetch p s => rfl
  | _ => exact h.elim
theorem own_small {n : Int} {r : Row} {i : IRow} (h : Own n r i) (hs : Small r) : SmallP (toP i) := by
  cases h with
  | set x k p => exact fun n' z e => by cases e; exact hs _ _ rfl
  | take x p => exact (fun _ _ e => nomatch e)
  | op o x a b p q s => exact (fun _ _ e => nomatch e)
  | tell x p => exact (fun _ _ e => nomatch e)
theorem move_small {n : Int} {i : IRow} (h : Move n i) : SmallP (toP i) := by
  cases i with
  | shelve s p => exact trivial
  | fetch p s => exact trivial
  | _ => exact h.elim
structure MadeOk (n : Int) (rows : List Row) (made : List IRow) : Prop where
  ok : ∀ i ∈ made, OkRow n i
  words : (made.filter fun i => !isMove i).map iword = rows.map nword
  muls : made.countP mulR = rows.countP isMul
  small : (∀ r ∈ rows, Small r) → ∀ i ∈ made, SmallP (toP i)
theorem made_nil (n : Int) : MadeOk n [] [] := ⟨(fun _ h => nomatch h), rfl, rfl, (fun _ _ h => nomatch h)⟩
theorem made_snoc {n : Int} {rows : List Row} {made l : List IRow} {r : Row} {i : IRow} (h : MadeOk n rows made) (hl : ∀ m ∈ l, Move n m) (ho : Own n r i) : MadeOk n (rows ++ [r]) (made ++ (l ++ [i])) := by
  have fl : (l.filter fun i => !isMove i) = [] := by
    rw [List.filter_eq_nil_iff]
    intro m hm
    simp [move_is (hl m hm)]
  have fm : l.countP mulR = 0 := by
    rw [List.countP_eq_zero]
    intro m hm
    simp [move_mul (hl m hm)]
  refine ⟨fun m hm => ?_, ?_, ?_, fun hs m hm => ?_⟩
  · rcases List.mem_append.mp hm with q | q
    · exact h.ok m q
    · rcases List.mem_append.mp q with q | q
      · exact .inl (hl m q)
      · rw [List.mem_singleton.mp q]; exact .inr ⟨r, ho⟩
  · rw [List.filter_append, List.filter_append, fl, List.map_append, h.words, List.map_append]
    congr 1
    simp [own_not ho, own_word ho]
  · rw [List.countP_append, List.countP_append, fm, h.muls, List.countP_append]
    simp [own_mul ho]
  · rcases List.mem_append.mp hm with q | q
    · exact h.small (fun r hr => hs r (List.mem_append_left _ hr)) m q
    · rcases List.mem_append.mp q with q | q
      · exact move_small (hl m q)
      · rw [List.mem_singleton.mp q]; exact own_small ho (hs r (List.mem_append_right _ (List.mem_singleton.mpr rfl)))
theorem puts_made {n : Int} {rows : List Row} {ls : List (List Str)} {Rs : List Rm} (hv : Valid rows) (ht : Told rows ls) (h : Puts n rows ls Rs) : ∀ j, j ≤ Rs.length → j ≤ rows.length → MadeOk n (rows.take j) (stAt Rs j).made := by
  intro j
  induction j with
  | zero => intro _ _; exact made_nil n
  | succ j ih =>
    intro h1 h2
    obtain ⟨r, hr⟩ : ∃ r, rows[j]? = some r := ⟨_, List.getElem?_eq_getElem (by omega)⟩
    obtain ⟨l, hl⟩ : ∃ l, ls[j]? = some l := ⟨_, List.getElem?_eq_getElem (by rw [ht.1]; omega)⟩
    have G := (puts_good hv ht h j (by omega) (by omega)).congr (live_at hv ht hr hl)
    obtain ⟨m, i, e, hm, ho⟩ := put_made G (h j r l (by omega) hr hl)
    rw [e, List.take_add_one, hr]
    exact made_snoc (ih (by omega) (by omega)) hm ho
theorem puts_link {n : Int} {rows : List Row} {ls : List (List Str)} {Rs : List Rm} {ns : List Int} (hv : Valid rows) (ht : Told rows ls) (h : Puts n rows ls Rs) (hc : rows.countP isTake ≤ ns.length) : ∀ j, j ≤ Rs.length → j ≤ rows.length →
    ∃ d x, runN ⟨[], ns, []⟩ (rows.take j) = some d ∧ runP (startP ns) ((stAt Rs j).made.map toP) = some x ∧ Link d (stAt Rs j) x := by
  intro j
  induction j with
  | zero => intro _ _; exact ⟨_, _, rfl, rfl, ⟨(fun _ _ e => nomatch e), (fun _ _ e => nomatch e)⟩, rfl, rfl⟩
  | succ j ih =>
    intro h1 h2
    obtain ⟨r, hr⟩ : ∃ r, rows[j]? = some r := ⟨_, List.getElem?_eq_getElem (by omega)⟩
    obtain ⟨l, hl⟩ : ∃ l, ls[j]? = some l := ⟨_, List.getElem?_eq_getElem (by rw [ht.1]; omega)⟩
    have G := (puts_good hv ht h j (by omega) (by omega)).congr (live_at hv ht hr hl)
    obtain ⟨d, x, hd, hx, L⟩ := ih (by omega) (by omega)
    have htk : rows.take (j + 1) = rows.take j ++ [r] := by rw [List.take_add_one, hr]; rfl
    obtain ⟨d', hd'⟩ : ∃ d', runN ⟨[], ns, []⟩ (rows.take (j + 1)) = some d' := by
      rcases run_pre hv ns (j + 1) h2 with ⟨q, h, _⟩ | ⟨_, q⟩
      · exact ⟨q, h⟩
      · exact absurd (Nat.le_trans ((List.take_sublist (j + 1) rows).countP_le) hc) (Nat.not_le.mpr q)
    have hst : stepN d r = some d' := by
      rw [htk, runN_snoc, hd] at hd'
      exact hd'
    obtain ⟨x', m, i, Ld, L', _, _⟩ := sim_put G (h j r l (by omega) hr hl) L hst
    refine ⟨d', x', hd', ?_, L'⟩
    rw [Ld.1, List.map_append, runP_append, hx]
    exact Ld.2
end Fp
namespace Fp
open PySem L2
section
variable {P : Program} {w : World} {K : PySem.W.Frag} {mg : Str → Option Value} {base : Heap}
def spUsesG : Sp := fun vs H Q _ => ∃ a r, vs = [.ref a] ∧ H a = some (.tup (growV r)) ∧ ∀ p H', H p = none → Same H H' → H' p = some (.lst ((usesG r).map kV)) → Q (.ref p) H'
theorem fd_usesG (B : Blt mg) (F : Fn K mg "_law_uses" (top 33)) : Fd P w K mg base 1 "_law_uses" ["_law_row"] spUsesG := by
  have sc : FnScope ["_law_row"] ["_law_row"] (defScope (top 33)) := ⟨rfl, rfl, rfl, by decide +kernel, rfl, by decide +kernel, by decide +kernel⟩
  refine F.fd sc (fun vs H Q E h => ?_) (fun _ _ _ _ _ _ us hl => by obtain ⟨a0, rfl⟩ := us1 hl; rfl) (fun f cdv A outer s H vs Q E hr h => ?_)
  · obtain ⟨a, r, rfl, _⟩ := h
    rfl
  · obtain ⟨a, r, rfl, ha, k⟩ := h
    have hT : SqT K H a (growV r) := SqT.of ha
    refine ⟨_, (pss_cons (ps_if (pt_cmpR op_eq (pe_ix ix_tup (pv 0) pe_int (fun _ _ => rfl)) pe_str (nomark _)) (pss_one (ps_ret (pe_lst (pa_cons (pe_ix ix_tup (pv 0) pe_int (fun _ _ => rfl)) pa_nil)))) pss_nil)
    (pss_one (ps_ret (pe_op op_rep (pe_callTy call_list_of rfl B.list_ bt_list (pa_cons (pe_slice sl_tup (pv 0) (po_some pe_int) po_none) pa_nil)) (pe_callTy call_int1 rfl B.int_ bt_int (pa_cons (pe_cmpR op_in_seq (pe_ix ix_tup (pv 0) pe_int (fun _ _ => rfl)) (pe_lst (pa_cons pe_str (pa_cons pe_str (pa_cons pe_str pa_nil)))) (by with_unfolding_all rfl)) pa_nil)))))), ?_⟩
    have rest : ∀ (z y : V) (tl : List V) (n : Nat), growV r = z :: y :: tl → flatV z = true → tl.length = n → z ≠ .str "tell" → (inV z [.str "add", .str "sub", .str "mul"] = true → tl = (usesG r).map kV) → (inV z [.str "add", .str "sub", .str "mul"] = false → (usesG r).map kV = []) →
        (tIfS (tTest (tOp rEq (tOp (rIxT K) (tVar 0) (tC (.int 0))) (tC (.str "tell")))) (tRet (tLst (tCons (tOp (rIxT K) (tVar 0) (tC (.int 1))) tNil))) tNext) { nx := (tRet (tOp rRep (tCB (fun xs H Q => ∃ p ys, xs = [.ref p] ∧ (SqL K H p ys ∨ SqT K H p ys) ∧ ∀ l, H l = none → Q (.ref l) (upd H l (.lst ys))) (tCons (tSl (rSlT K) (tVar 0) (tPart (tC (.int 2))) tNoPart) tNil))
          (tCB (fun xs H Q => (∃ i, xs = [.int i] ∧ Q (.int i) H) ∨ ∃ k, xs = [.bl k] ∧ Q (.int (if k then 1 else 0)) H) (tCons (tOp (rIn K false) (tOp (rIxT K) (tVar 0) (tC (.int 0))) (tLst (tCons (tC (.str "add")) (tCons (tC (.str "sub")) (tCons (tC (.str "mul")) tNil))))) tNil)))) { nx := fun _ H' => Q .non H', rt := Q }, rt := Q } [some (.ref a)] H := by
      intro z y tl n er hf hn hz h1 h2
      rw [er] at hT
      refine ⟨_, rfl, a, _, _, _, rfl, rfl, hT, at0, ?_, _, rfl, ifD hz ?_⟩
      · cases z <;> first | rfl | cases hf
      have hcut : cutV (z :: y :: tl) (some 2) none = tl := by
        have e1 : HT.sIx (z :: y :: tl).length 0 (some 2) = 2 := by
          have := HT.sIx_nat (z :: y :: tl).length 0 2
          rw [List.length_cons, List.length_cons] at this ⊢
          have e : min 2 (tl.length + 1 + 1) = 2 := by omega
          rw [e] at this
          exact this
        unfold cutV
        rw [e1, HT.sIx_none]
        show (tl.take _) = tl
        rw [List.take_of_length_le]
        simp only [List.length_cons]; omega
      refine ⟨_, rfl, _, rfl, a, _, rfl, hT, fun q => ?_, fun t ht => ?_⟩
      · have := HT.sIx_nat (z :: y :: tl).length 0 2
        have e : HT.sIx (z :: y :: tl).length 0 (some 2) = min 2 (tl.length + 2) := this
        rw [e] at q
        omega
      rw [hcut]
      refine ⟨t, tl, rfl, .inr (SqT.of upd_same), fun l hl => ?_⟩
      have nta : a ≠ t := ne_of_none ha ht
      have ha2 : (upd (upd H t (.tup tl)) l (.lst tl)) a = some (.tup (growV r)) := by
        rw [upd_ne (ne_of_none (by rw [upd_ne nta]; exact ha) hl), upd_ne nta]; exact ha
      have s2 : Same H (upd (upd H t (.tup tl)) l (.lst tl)) := fun b o e => by
        rw [upd_ne (ne_of_none (by rw [upd_ne (ne_of_none e ht)]; exact e) hl), upd_ne (ne_of_none e ht)]; exact e
      have hl2 : (upd (upd H t (.tup tl)) l (.lst tl)) l = some (.lst tl) := upd_same
      generalize upd (upd H t (.tup tl)) l (.lst tl) = H2 at ha2 s2 hl2
      rw [er] at ha2
      refine ⟨_, rfl, a, _, _, _, rfl, rfl, SqT.of ha2, at0, by decide, fun m hm => ?_⟩
      refine ⟨m, _, rfl, .inl (SqL.of upd_same), hf, rfl, .inr ⟨_, rfl, ?_⟩⟩
      have nml : l ≠ m := ne_of_none hl2 hm
      have hl3 : (upd H2 m (.lst [.str "add", .str "sub", .str "mul"])) l = some (.lst tl) := by rw [upd_ne nml]; exact hl2
      have s3 : Same H (upd H2 m (.lst [.str "add", .str "sub", .str "mul"])) := fun b o e => by rw [upd_ne (s2.ne e hm)]; exact s2 b o e
      refine ⟨l, _, tl, rfl, rfl, hl3, ?_, ?_, ?_, fun p hp => k p _ (s3.free hp) (fun b o e => by rw [upd_ne (s3.ne e hp)]; exact s3 b o e) ?_⟩
      · exact (b01 _).1
      · exact (b01 _).2
      · have : tl.length ≤ 2 := by
          have e : (growV r).length ≤ 4 := by cases r <;> simp [growV]
          rw [er] at e; simp only [List.length_cons] at e; omega
        have e2 : ∀ b : Bool, tl.length * (if b then (1 : Int) else 0).toNat ≤ 2 := fun b => by cases b <;> simp <;> omega
        refine Nat.le_trans (e2 _) (by decide)
      · rw [upd_same]
        congr 2
        cases hb : inV z [.str "add", .str "sub", .str "mul"] with
        | true =>
          rw [← h1 hb]
          simp
        | false =>
          rw [h2 hb]
          simp
    cases r with
    | tell n =>
      refine ⟨_, rfl, a, _, _, _, rfl, rfl, hT, at0, rfl, _, rfl, itD rfl ?_⟩
      exact ⟨_, rfl, a, _, _, _, rfl, rfl, hT, at1, lk 1, fun p hp => k p _ hp (same_upd hp) upd_same⟩
    | set n z => exact rest (.str "set") (kV n) [.int z] 1 rfl rfl rfl (by decide +kernel) (fun h => absurd h (by decide +kernel)) (fun _ => rfl)
    | take n => exact rest (.str "take") (kV n) [] 0 rfl rfl rfl (by decide +kernel) (fun h => absurd h (by decide +kernel)) (fun _ => rfl)
    | op o n x y => exact rest (.str (word o)) (kV n) [kV x, kV y] 2 rfl rfl rfl (by cases o <;> decide +kernel) (fun _ => rfl) (fun h => absurd h (by cases o <;> decide +kernel))
structure PlacesAt (H : Hp) (d sh l t : Addr) (x : DoneP) : Prop extends KeptAt H d l t x.d where
  shelf : H sh = some (.dK (enc x.shelf))
  nes : sh ≠ d
def spOn : Sp := fun vs H Q _ => ∃ (a d sh l t : Addr) (r : PRow) (x : DoneP) (i c : Nat), vs = [.ref a, .ref d, .ref sh, .ref l, .ref t] ∧ H a = some (.tup (prowV r)) ∧ PlacesAt H d sh l t x ∧ BdP x i c ∧ bits i c ≤ 100000 ∧ x.d.m.length ≤ 1000 ∧ x.shelf.length ≤ 1000 ∧ x.d.told.length ≤ 1000 ∧
  (stepP x r = none → ∀ H', Same H H' → Q (.bl false) H') ∧ ∀ y, stepP x r = some y → ∀ H', PlacesAt H' d sh l t y → (∀ b o, b ≠ d → b ≠ sh → b ≠ l → b ≠ t → H b = some o → H' b = some o) → Q (.bl true) H'
theorem n_row_shelve (r : GRow) : ∃ v tl, growV r = v :: tl ∧ scal v (V.str "shelve") = true ∧ scal v (V.str "fetch") = true ∧ scal v (V.str "take") = true ∧ ¬ (v = V.str "shelve") ∧ ¬ (v = V.str "fetch") ∧ (v = V.str "take" ↔ ∃ n, r = .take n) := by
  cases r with
  | set n z => exact ⟨_, _, rfl, rfl, rfl, rfl, by decide +kernel, by decide +kernel, ⟨fun e => absurd e (by decide +kernel), fun ⟨_, e⟩ => nomatch e⟩⟩
  | take n => exact ⟨_, _, rfl, rfl, rfl, rfl, by decide +kernel, by decide +kernel, ⟨fun _ => ⟨n, rfl⟩, fun _ => rfl⟩⟩
  | op o n x y => exact ⟨_, _, rfl, rfl, rfl, rfl, by cases o <;> decide +kernel, by cases o <;> decide +kernel, ⟨fun e => absurd e (by cases o <;> decide +kernel), fun ⟨_, e⟩ => nomatch e⟩⟩
  | tell n => exact ⟨_, _, rfl, rfl, rfl, rfl, by decide +kernel, by decide +kernel, ⟨fun e => absurd e (by decide +kernel), fun ⟨_, e⟩ => nomatch e⟩⟩
theorem fd_on (B : Blt mg) (D_law_uses : Fd P w K mg base 1 "_law_uses" ["_law_row"] spUsesG) (D_law_row_done : Fd P w K mg base 2 "_law_row_done" ["_law_row", "_law_values", "_law_left", "_law_told"] spDone) (F : Fn K mg "_law_on_places" (top 40)) : Fd P w K mg base 3 "_law_on_places" ["_law_row", "_law_here", "_law_shelf", "_law_left", "_law_told"] spOn := by
  have sc : FnScope ["_law_row", "_law_here", "_law_shelf", "_law_left", "_law_told", "_law_place"] ["_law_row", "_law_here", "_law_shelf", "_law_left", "_law_told"] (defScope (top 40)) := ⟨rfl, rfl, rfl, by decide +kernel, rfl, by decide +kernel, by decide +kernel⟩
  refine F.fd sc (fun vs H Q E h => ?_) (fun _ _ _ _ _ _ us hl => by obtain ⟨a0, a1, a2, a3, a4, rfl⟩ := us5 hl; rfl) (fun f cdv A outer s H vs Q E hr h => ?_)
  · obtain ⟨a, d, sh, l, t, r, x, i, c, rfl, _⟩ := h
    rfl
  · obtain ⟨a, d, sh, l, t, r, x, i, c, rfl, ha, hk, hb, hbits, hml, hsl, htl, kn, ky⟩ := h
    have hu := hu_of hr
    have hu0 : (A.deeper (PyProof.Rows.envOfC "_law_on_places" (defScope (top 40)) s.heap.objs.size f cdv)).units < PySem.cLine := hr.units0
    have hT : SqT K H a (prowV r) := SqT.of ha
    have gd : ∀ k, DGet H d (kV k) ((getZ x.d.m k).map V.int) := fun k => by
      have q := DGet.k (k := k) hk.m
      rw [enc_get] at q
      exact q
    have gs : ∀ k, DGet H sh (kV k) ((getZ x.shelf k).map V.int) := fun k => by
      have q := DGet.k (k := k) hk.shelf
      rw [enc_get] at q
      exact q
    refine ⟨_, (pss_cons (ps_if (pt_cmpR op_eq (pe_ix ix_tup (pv 0) pe_int (fun _ _ => rfl)) pe_str (nomark _)) (pss_cons (ps_if (pt_cmp (pc_dnotin hu (pe_ix ix_tup (pv 0) pe_int (fun _ _ => rfl)) (pv 1))) (pss_one (ps_ret pe_bl)) pss_nil)
      (pss_cons (ps_dput hu (pv 2) (pe_ix ix_tup (pv 0) pe_int (fun _ _ => rfl)) (pe_dget hu (pv 1) (pe_ix ix_tup (pv 0) pe_int (fun _ _ => rfl)) (fun _ _ => rfl)) rfl)
      (pss_one (ps_ret pe_bl)))) pss_nil)
    (pss_cons (ps_if (pt_cmpR op_eq (pe_ix ix_tup (pv 0) pe_int (fun _ _ => rfl)) pe_str (nomark _)) (pss_cons (ps_if (pt_cmp (pc_dnotin hu (pe_ix ix_tup (pv 0) pe_int (fun _ _ => rfl)) (pv 2))) (pss_one (ps_ret pe_bl)) pss_nil)
      (pss_cons (ps_dput hu (pv 1) (pe_ix ix_tup (pv 0) pe_int (fun _ _ => rfl)) (pe_dget hu (pv 2) (pe_ix ix_tup (pv 0) pe_int (fun _ _ => rfl)) (fun _ _ => rfl)) rfl)
      (pss_one (ps_ret pe_bl)))) pss_nil)
    (pss_cons (ps_for PassesOwn.never rfl (pi_list (pe_fd D_law_uses (hr.mono (by decide)) rfl (pa_cons (pv 0) pa_nil))) (pg_name (i := 5) sc.nd rfl (Or.inl rfl)) (pss_one (ps_if (pt_cmp (pc_dnotin hu (pv 5) (pv 1))) (pss_one (ps_ret pe_bl)) pss_nil)))
    (pss_cons (ps_if (PW.pt (pw_and (pt_cmpR op_eq (pe_ix ix_tup (pv 0) pe_int (fun _ _ => rfl)) pe_str (nomark _)) (pw_and1 (pt_cmpR (op_eqNil hu0) (pv 3) (pe_lst pa_nil) (nomark _))))) (pss_one (ps_ret pe_bl)) pss_nil)
    (pss_cons (ps_expr (pe_fd D_law_row_done (hr.mono (by decide)) rfl (pa_cons (pv 0) (pa_cons (pv 1) (pa_cons (pv 3) (pa_cons (pv 4) pa_nil))))))
    (pss_one (ps_ret pe_bl))))))), ?_⟩
    cases r with
    | shelve s p =>
      refine ⟨_, rfl, a, _, _, _, rfl, rfl, hT, at0, rfl, _, rfl, itD rfl ?_⟩
      refine ⟨_, rfl, a, _, _, _, rfl, rfl, hT, at2, _, rfl, d, _, rfl, gd p, _, rfl, ?_⟩
      cases hz : getZ x.d.m p with
      | none => exact itB rfl (kn (by show (getZ x.d.m p).map _ = none; rw [hz]; rfl) H (Same.refl _))
      | some z =>
        refine ifB rfl ?_
        have g := gd p
        rw [hz] at g
        refine ⟨_, rfl, _, rfl, a, _, _, _, rfl, rfl, hT, at2, d, .int z, rfl, g, _, rfl, _, rfl, a, _, _, _, rfl, rfl, hT, at1, sh, _, rfl, DPut.k hk.shelf (small1000 (by rw [enc_len]; exact hsl)), ?_⟩
        have nsl : l ≠ sh := ne_of hk.left hk.shelf (fun z => nomatch z)
        have nst : t ≠ sh := ne_of hk.told hk.shelf (fun z => nomatch z)
        refine ky _ (show (getZ x.d.m p).map _ = _ by rw [hz]; rfl) _ ⟨⟨?_, ?_, ?_, hk.ne⟩, ?_, hk.nes⟩ fun b o _ h2 _ _ e => by rw [upd_ne h2]; exact e
        · rw [upd_ne hk.nes.symm]; exact hk.m
        · rw [upd_ne nsl]; exact hk.left
        · rw [upd_ne nst]; exact hk.told
        · rw [upd_same, enc_put]
    | fetch p s =>
      refine ⟨_, rfl, a, _, _, _, rfl, rfl, hT, at0, rfl, _, rfl, ifD (by decide +kernel) ?_⟩
      refine ⟨_, rfl, a, _, _, _, rfl, rfl, hT, at0, rfl, _, rfl, itD rfl ?_⟩
      refine ⟨_, rfl, a, _, _, _, rfl, rfl, hT, at2, _, rfl, sh, _, rfl, gs s, _, rfl, ?_⟩
      cases hz : getZ x.shelf s with
      | none => exact itB rfl (kn (by show (getZ x.shelf s).map _ = none; rw [hz]; rfl) H (Same.refl _))
      | some z =>
        refine ifB rfl ?_
        have g := gs s
        rw [hz] at g
        refine ⟨_, rfl, _, rfl, a, _, _, _, rfl, rfl, hT, at2, sh, .int z, rfl, g, _, rfl, _, rfl, a, _, _, _, rfl, rfl, hT, at1, d, _, rfl, DPut.k hk.m (small1000 (by rw [enc_len]; exact hml)), ?_⟩
        refine ky _ (show (getZ x.shelf s).map _ = _ by rw [hz]; rfl) _ ⟨⟨?_, ?_, ?_, hk.ne⟩, ?_, hk.nes⟩ fun b o h1 _ _ _ e => by rw [upd_ne h1]; exact e
        · rw [upd_same, enc_put]
        · rw [upd_ne hk.dl.symm]; exact hk.left
        · rw [upd_ne hk.dt.symm]; exact hk.told
        · rw [upd_ne hk.nes]; exact hk.shelf
    | row r =>
      obtain ⟨v, tl, er, c1, c2, c3, n1, n2, n3⟩ := n_row_shelve r
      have ha0 : H a = some (.tup (growV r)) := ha
      have hT0 : SqT K H a (v :: tl) := SqT.of (by rw [ha0, er])
      have non : stepG x.d r = none → stepP x (.row r) = none := fun e => by show (stepG x.d r).map _ = none; rw [e]; rfl
      refine ⟨_, rfl, a, _, _, _, rfl, rfl, hT0, at0, c1, _, rfl, ifD n1 ?_⟩
      refine ⟨_, rfl, a, _, _, _, rfl, rfl, hT0, at0, c2, _, rfl, ifD n2 ?_⟩
      refine ⟨_, rfl, a, r, rfl, ha0, fun pu H1 hpu s1 hu1 => ?_⟩
      refine ⟨pu, rfl, ⟨_, SqL.of hu1⟩, for_list (K := K) (a := pu) (xs := (usesG r).map kV) (fun j σ H' => ∃ v5, σ = [some (.ref a), some (.ref d), some (.ref sh), some (.ref l), some (.ref t), v5] ∧ H' = H1 ∧ ∀ k ∈ (usesG r).take j, (getZ x.d.m k).isSome = true)
        ⟨none, rfl, rfl, (fun k h => by simp at h)⟩ (fun j σ H' _ ⟨_, _, e, _⟩ => by rw [e]; exact SqL.of hu1) ?_ ?_⟩
      · rintro j y σ H' hj ⟨v5, rfl, rfl, hall⟩
        rw [List.getElem?_map] at hj
        cases ej : (usesG r)[j]? with
        | none => rw [ej] at hj; cases hj
        | some k =>
          rw [ej] at hj
          obtain rfl : kV k = y := Option.some.inj hj
          have g : DGet H' d (kV k) ((getZ x.d.m k).map V.int) := by
            have q := DGet.k (k := k) (s1 d _ hk.m)
            rw [enc_get] at q
            exact q
          refine ⟨_, rfl, _, rfl, d, _, rfl, g, _, rfl, ?_⟩
          cases hz : getZ x.d.m k with
          | none => exact itB rfl (kn (non (stepG_lack (List.mem_of_getElem? ej) hz)) H' s1)
          | some z =>
            refine ifB rfl ⟨_, rfl, rfl, fun q hq => ?_⟩
            rw [List.take_add_one, ej] at hq
            rcases List.mem_append.mp hq with e | e
            · exact hall q e
            · rw [List.mem_singleton.mp e, hz]; rfl
      · rintro σ H' ⟨v5, rfl, rfl, hall⟩
        rw [List.length_map, List.take_length] at hall
        have hT1 : SqT K H' a (v :: tl) := SqT.of (by rw [s1 a _ ha0, er])
        have hl1 := s1 l _ hk.left
        have last : ∀ (σ' : St) (H2 : Hp), σ' = [some (.ref a), some (.ref d), some (.ref sh), some (.ref l), some (.ref t), v5] → Same H H2 → (∀ n, r = .take n → x.d.left ≠ []) → ∀ D : Ends, D.rt = Q → tSeq (tDrop (tCall spDone [] E0 (tCons (tVar 0) (tCons (tVar 1) (tCons (tVar 3) (tCons (tVar 4) tNil)))))) (tRet (tC (.bl true))) D σ' H2 := by
          rintro σ' H2 rfl s2 hdry D hD
          obtain ⟨y, hy⟩ : ∃ y, stepG x.d r = some y := by
            cases q : stepG x.d r with
            | some y => exact ⟨y, rfl⟩
            | none =>
              rcases stepG_none q with ⟨n, e1, e2⟩ | ⟨k, h1, h2⟩
              · exact absurd e2 (hdry n e1)
              · have := hall k h1
                rw [h2] at this; cases this
          refine ⟨_, rfl, _, rfl, _, rfl, _, rfl, a, d, l, t, r, x.d, y, i, c, rfl, s2 a _ ha0, ⟨s2 d _ hk.m, s2 l _ hk.left, s2 t _ hk.told, hk.ne⟩, hy, hb.1, hbits, hml, htl, fun H3 k3 r3 => ?_⟩
          show D.rt (.bl true) H3
          rw [hD]
          have nsl : sh ≠ l := ne_of hk.shelf hk.left (fun z => nomatch z)
          have nst : sh ≠ t := ne_of hk.shelf hk.told (fun z => nomatch z)
          refine ky { x with d := y } (by show (stepG x.d r).map _ = _; rw [hy]; rfl) H3 ⟨k3, ?_, hk.nes⟩ fun b o h1 _ h3 h4 e => ?_
          · rw [r3 sh hk.nes nsl nst]; exact s2 sh _ hk.shelf
          · rw [r3 b h1 h3 h4]; exact s2 b o e
        refine ⟨_, rfl, a, _, _, _, rfl, rfl, hT1, at0, c3, _, rfl, ?_⟩
        by_cases htk : v = V.str "take"
        · refine itD htk ?_
          obtain ⟨n, rfl⟩ := n3.mp htk
          refine ⟨_, rfl, (by first | decide | (show (0 : Int) < _; decide)), fun q hq => ⟨l, q, _, rfl, rfl, SqL.of (by rw [upd_ne (ne_of_none hl1 hq)]; exact hl1), SqL.of upd_same, _, rfl, ?_⟩⟩
          have s2 : Same H (upd H' q (.lst [])) := fun b o e => by rw [upd_ne (s1.ne e hq)]; exact s1 b o e
          cases hl : x.d.left with
          | nil => exact itB (by simp) (kn (non (stepG_dry hl)) _ s2)
          | cons z lf => exact ifB (by simp) (last _ _ rfl s2 (fun _ _ => by rw [hl]; simp) _ rfl)
        · refine ifD htk ?_
          exact last _ _ rfl s1 (fun n e => absurd (n3.mpr ⟨n, e⟩) htk) _ rfl
end
end Fp
namespace Fp
open PySem L2
theorem firstMax_uniq {α : Type} {κ : α → Int} {xs : List α} {i j : Nat} {v w : α} (a : FirstMax κ xs i v) (b : FirstMax κ xs j w) : v = w := by
  obtain ⟨a1, a2⟩ := a
  obtain ⟨b1, b2⟩ := b
  have h1 := a2 j w b1
  have h2 := b2 i v a1
  have : i = j := by
    rcases Nat.lt_trichotomy i j with h | h | h
    · have := h2.2 h; omega
    · exact h
    · have := h1.2 h; omega
  subst this
  rw [a1] at b1
  exact Option.some.inj b1
theorem Latest.uniq {c : List Row} {ns : List Str} {x y : Str} (a : Latest c ns x) (b : Latest c ns y) : x = y := by
  obtain ⟨i, a⟩ := a
  obtain ⟨j, b⟩ := b
  exact firstMax_uniq a b
theorem Low.uniq {vs : List Int} {y z : Int} (a : Low vs y) (b : Low vs z) : y = z := by
  obtain ⟨a1, a2, a3⟩ := a
  obtain ⟨b1, b2, b3⟩ := b
  rcases Int.lt_trichotomy y z with h | h | h
  · exact absurd (b3 y a1 h) a2
  · exact h
  · exact absurd (a3 z b1 h) b2
theorem Shelve.det {R R1 R2 : Rm} {x : Str} (a : Shelve R x R1) (b : Shelve R x R2) : R1 = R2 := by
  cases a with
  | there z h =>
    cases b with
    | there z' h' => rfl
    | new s p h' => rw [h] at h'; cases h'
  | new s p h hs hp =>
    cases b with
    | there z' h' => rw [h] at h'; cases h'
    | new s' p' h' hs' hp' =>
      have e1 := hs.uniq hs'
      rw [hp] at hp'
      have e2 := Option.some.inj hp'
      subst e1
      subst e2
      rfl
theorem Empty.det {c : List Row} {n : Int} {stay : List Str} {R R1 R2 : Rm} {p1 p2 : Int} (a : Empty c n stay R R1 p1) (b : Empty c n stay R R2 p2) : R1 = R2 ∧ p1 = p2 := by
  cases a with
  | free _ h hp =>
    cases b with
    | free _ h' hp' => exact ⟨rfl, h.uniq h'⟩
    | full q _ x R1 h' hq => have := h.uniq h'; omega
  | full q _ x Ra h hq hx hs hS hc =>
    cases b with
    | free _ h' hp' => have := h.uniq h'; omega
    | full q' _ x' Rb h' hq' hx' hs' hS' hc' =>
      have e := hc.uniq hc'
      subst e
      rw [hx] at hx'
      have e2 := Option.some.inj hx'
      have e3 := hS.det hS'
      subst e2
      subst e3
      exact ⟨rfl, rfl⟩
theorem Fetch.det {c : List Row} {n : Int} {us l : List Str} {R R1 : Rm} (a : Fetch c n us l R R1) : ∀ {R2 : Rm}, Fetch c n us l R R2 → R1 = R2 := by
  induction a with
  | nil R => intro R2 b; cases b; rfl
  | has x l R R' z h t ih =>
    intro R2 b
    cases b with
    | has _ _ _ _ z' h' t' => exact ih t'
    | get _ _ _ _ _ p s h' => rw [h] at h'; cases h'
  | get x l R Rm R' p s h he hs t ih =>
    intro R2 b
    cases b with
    | has _ _ _ _ z' h' t' => rw [h] at h'; cases h'
    | get _ _ _ Rm' _ p' s' h' he' hs' t' =>
      obtain ⟨e1, e2⟩ := he.det he'
      subst e1
      subst e2
      rw [hs] at hs'
      cases hs'
      exact ih t'
theorem OnPlace.det {m : Kept} {q : Int} {r : Row} {i j : IRow} (a : OnPlace m q r i) (b : OnPlace m q r j) : i = j := by
  cases a with
  | set n k => cases b; rfl
  | take n => cases b; rfl
  | op o n u v x y ha hb =>
    cases b with
    | op _ _ _ _ x' y' ha' hb' =>
      rw [ha] at ha'
      rw [hb] at hb'
      cases ha'
      cases hb'
      rfl
theorem PutRow.det {c : List Row} {n : Int} {r : Row} {l : List Str} {R R1 R2 : Rm} (a : PutRow c n r l R R1) (b : PutRow c n r l R R2) : R1 = R2 := by
  cases a with
  | tell x Ra p e hf hp =>
    cases b with
    | tell x' Rb p' e' hf' hp' =>
      have e3 := hf.det hf'
      subst e3
      rw [e] at e'
      cases e'
      rw [hp] at hp'
      cases hp'
      rfl
    | write x' Rb R2' q i e' => rw [e] at e'; cases e'
  | write x Ra Rb q i e hf he hi =>
    cases b with
    | tell x' _ p' e' => rw [e'] at e; cases e
    | write x' Ra' Rb' q' i' e' hf' he' hi' =>
      have e3 := hf.det hf'
      subst e3
      obtain ⟨e1, e2⟩ := he.det he'
      subst e1
      subst e2
      have e4 := hi.det hi'
      subst e4
      rw [e] at e'
      cases e'
      rfl
theorem puts_det {n : Int} {rows : List Row} {ls : List (List Str)} {Rs Rs' : List Rm} (hl : ls.length = rows.length) (a : Puts n rows ls Rs) (b : Puts n rows ls Rs') (h1 : Rs.length = rows.length) (h2 : Rs'.length = rows.length) : Rs = Rs' := by
  have key : ∀ j, j ≤ rows.length → stAt Rs j = stAt Rs' j := by
    intro j
    induction j with
    | zero => intro _; rfl
    | succ j ih =>
      intro hj
      obtain ⟨r, hr⟩ : ∃ r, rows[j]? = some r := ⟨_, List.getElem?_eq_getElem (by omega)⟩
      obtain ⟨l, hl⟩ : ∃ l, ls[j]? = some l := ⟨_, List.getElem?_eq_getElem (by omega)⟩
      have pa := a j r l (by omega) hr hl
      have pb := b j r l (by omega) hr hl
      rw [ih (by omega)] at pa
      exact pa.det pb
  refine List.ext_getElem? fun i => ?_
  by_cases h : i < rows.length
  · have q : Rs.getD i R0 = Rs'.getD i R0 := key (i + 1) h
    rw [List.getD_eq_getElem?_getD, List.getD_eq_getElem?_getD, List.getElem?_eq_getElem (by omega), List.getElem?_eq_getElem (by omega)] at q
    rw [List.getElem?_eq_getElem (by omega), List.getElem?_eq_getElem (by omega)]
    exact congrArg some q
  · rw [List.getElem?_eq_none (by omega), List.getElem?_eq_none (by omega)]
end Fp
namespace Fp
open PySem L2
section
variable {P : Program} {w : World} {K : PySem.W.Frag} {mg : Str → Option Value} {base : Heap} {C T : Addr}
def spPlaced (C T : Addr) : Sp := fun vs H Q _ => ∃ (a : Addr) (n : Int) (xs : List V) (rows : List Row) (ns : List Str), vs = [.ref a, .int n] ∧ H a = some (.lst xs) ∧ RowsAt H xs rows ∧ Valid rows ∧ Among ns rows ∧ ns.length ≤ 60 ∧ rows.length ≤ 100 ∧ (∀ r ∈ rows, ((needs r : Nat) : Int) ≤ n) ∧ Tab H T ∧
  ∀ pm ys ls Rs H', SameP T H H' → Tab H' T → H' pm = some (.lst ys) → IRowsAt H' ys (stAt Rs rows.length).made → Rs.length = rows.length → Told rows ls → Puts n rows ls Rs → H pm = none → Q (.ref pm) H'
theorem fd_placed (B : Blt mg) (D_rows_and_walk : Fd P w K mg base 9 "rows_and_walk" ["rows", "places"] (spRW C T)) (F : Fn K mg "placed" (top 21)) : Fd P w K mg base 10 "placed" ["rows", "places"] (spPlaced C T) := by
  have sc : FnScope ["rows", "places"] ["rows", "places"] (defScope (top 21)) := ⟨rfl, rfl, rfl, by decide +kernel, rfl, by decide +kernel, by decide +kernel⟩
  refine F.fd sc (fun vs H Q E h => ?_) (fun _ _ _ _ _ _ us hl => by obtain ⟨a0, a1, rfl⟩ := us2 hl; rfl) (fun f cdv A outer s H vs Q E hr h => ?_)
  · obtain ⟨a, n, xs, rows, ns, rfl, _⟩ := h
    rfl
  · obtain ⟨a, n, xs, rows, ns, rfl, h1, h2, h3, h4, h5, h6, h7, h8, k⟩ := h
    refine ⟨_, (pss_one (ps_ret (pe_ix ix_tup (pe_fd D_rows_and_walk (hr.mono (by decide)) rfl (pa_cons (pv 0) (pa_cons (pv 1) pa_nil))) pe_int (fun _ _ => rfl)))), ?_⟩
    refine ⟨_, rfl, _, rfl, a, n, xs, rows, ns, rfl, h1, h2, h3, h4, h5, h6, h7, h8, fun t pm pw ys zs ls Rs H' sp ht htup hpm hI hpw hW hRl hT hP hpn hwn => ?_⟩
    exact ⟨t, _, _, _, rfl, rfl, SqT.of htup, at0, k pm ys ls Rs H' sp ht hpm hI hRl hT hP hpn⟩
def spWalkOf (C T : Addr) : Sp := fun vs H Q _ => ∃ (a : Addr) (n : Int) (xs : List V) (rows : List Row) (ns : List Str), vs = [.ref a, .int n] ∧ H a = some (.lst xs) ∧ RowsAt H xs rows ∧ Valid rows ∧ Among ns rows ∧ ns.length ≤ 60 ∧ rows.length ≤ 100 ∧ (∀ r ∈ rows, ((needs r : Nat) : Int) ≤ n) ∧ Tab H T ∧
  ∀ pm pw zs ls Rs H', SameP T H H' → Tab H' T → H' pw = some (.lst zs) → WalkAt pm pw H' zs (Rs.zip ls) → Rs.length = rows.length → Told rows ls → Puts n rows ls Rs → H pw = none → Q (.ref pw) H'
theorem fd_walkof (B : Blt mg) (D_rows_and_walk : Fd P w K mg base 9 "rows_and_walk" ["rows", "places"] (spRW C T)) (F : Fn K mg "walk_of" (top 22)) : Fd P w K mg base 10 "walk_of" ["rows", "places"] (spWalkOf C T) := by
  have sc : FnScope ["rows", "places"] ["rows", "places"] (defScope (top 22)) := ⟨rfl, rfl, rfl, by decide +kernel, rfl, by decide +kernel, by decide +kernel⟩
  refine F.fd sc (fun vs H Q E h => ?_) (fun _ _ _ _ _ _ us hl => by obtain ⟨a0, a1, rfl⟩ := us2 hl; rfl) (fun f cdv A outer s H vs Q E hr h => ?_)
  · obtain ⟨a, n, xs, rows, ns, rfl, _⟩ := h
    rfl
  · obtain ⟨a, n, xs, rows, ns, rfl, h1, h2, h3, h4, h5, h6, h7, h8, k⟩ := h
    refine ⟨_, (pss_one (ps_ret (pe_ix ix_tup (pe_fd D_rows_and_walk (hr.mono (by decide)) rfl (pa_cons (pv 0) (pa_cons (pv 1) pa_nil))) pe_int (fun _ _ => rfl)))), ?_⟩
    refine ⟨_, rfl, _, rfl, a, n, xs, rows, ns, rfl, h1, h2, h3, h4, h5, h6, h7, h8, fun t pm pw ys zs ls Rs H' sp ht htup hpm hI hpw hW hRl hT hP hpn hwn => ?_⟩
    exact ⟨t, _, _, _, rfl, rfl, SqT.of htup, at1, k pm pw zs ls Rs H' sp ht hpw hW hRl hT hP hwn⟩
def leastOf (rows : List Row) : Nat := rows.foldl (fun m r => max m (needs r)) 0
theorem least_snoc (rows : List Row) (r : Row) : leastOf (rows ++ [r]) = max (leastOf rows) (needs r) := by
  unfold leastOf
  rw [List.foldl_append]
  rfl
theorem least_ge {rows : List Row} {r : Row} (h : r ∈ rows) : needs r ≤ leastOf rows := by
  unfold leastOf
  have go : ∀ (l : List Row) (m : Nat), m ≤ l.foldl (fun m r => max m (needs r)) m ∧ ∀ r ∈ l, needs r ≤ l.foldl (fun m r => max m (needs r)) m := by
    intro l
    induction l with
    | nil => exact fun m => ⟨Nat.le_refl _, (fun _ h => nomatch h)⟩
    | cons x l ih =>
      intro m
      obtain ⟨h1, h2⟩ := ih (max m (needs x))
      rw [List.foldl_cons]
      refine ⟨by omega, fun r hr => ?_⟩
      rcases List.mem_cons.mp hr with e | e
      · rw [e]; omega
      · exact h2 r e
  exact (go rows 0).2 r h
def spLeast : Sp := fun vs H Q _ => ∃ (a : Addr) (xs : List V) (rows : List Row), vs = [.ref a] ∧ H a = some (.lst xs) ∧ RowsAt H xs rows ∧ ∀ H', Same H H' → Q (.int ((leastOf rows : Nat) : Int)) H'
theorem fd_least (B : Blt mg) (D_law_uses : Fd P w K mg base 1 "_law_uses" ["_law_row"] spUsesG) (F : Fn K mg "_law_least_of" (top 45)) : Fd P w K mg base 2 "_law_least_of" ["_law_rows"] spLeast := by
  have sc : FnScope ["_law_rows", "_law_least", "_law_row", "_law_some", "_law_count"] ["_law_rows"] (defScope (top 45)) := ⟨rfl, rfl, rfl, by decide +kernel, rfl, by decide +kernel, by decide +kernel⟩
  refine F.fd sc (fun vs H Q E h => ?_) (fun _ _ _ _ _ _ us hl => by obtain ⟨a0, rfl⟩ := us1 hl; rfl) (fun f cdv A outer s H vs Q E hr h => ?_)
  · obtain ⟨a, xs, rows, rfl, _⟩ := h
    rfl
  · obtain ⟨a, xs, rows, rfl, ha, hR, k⟩ := h
    have hxl : xs.length = rows.length := hR.length
    refine ⟨_, (pss_cons (ps_set (i := 1) sc.nd rfl (Or.inl rfl) pe_int)
    (pss_cons (ps_for PassesOwn.never rfl (pi_list (pv 0)) (pg_name (i := 2) sc.nd rfl (Or.inl rfl)) (pss_cons (ps_set (i := 3) sc.nd rfl (Or.inl rfl) (pe_fd D_law_uses (hr.mono (by decide)) rfl (pa_cons (pv 2) pa_nil)))
      (pss_cons (ps_set (i := 4) sc.nd rfl (Or.inl rfl) (pe_op op_sub (pe_callB call_len_seq rfl B.len_ PySem.boot_len (pa_cons (pv 3) pa_nil)) (pe_callTy call_int1 rfl B.int_ bt_int (pa_cons (pe_and (pe_cmpR op_eq (pe_callB call_len_seq rfl B.len_ PySem.boot_len (pa_cons (pv 3) pa_nil)) pe_int (nomark _)) (pe_one (pe_cmpR op_eq (pe_ix ix_list (pv 3) pe_int (fun _ _ => rfl)) (pe_ix ix_list (pv 3) (pe_un un_neg pe_int) (fun _ _ => rfl)) (nomark _)))) pa_nil))))
      (pss_one (ps_set (i := 1) sc.nd rfl (Or.inl rfl) (pe_callB (call_max3 rfl) rfl B.max_ bt_max (pa_cons (pv 1) (pa_cons (pv 4) (pa_cons (pe_callTy call_int1 rfl B.int_ bt_int (pa_cons (pe_cmpR op_ne (pe_ix ix_tup (pv 2) pe_int (fun _ _ => rfl)) pe_str (nomark _)) pa_nil)) pa_nil)))))))))
    (pss_one (ps_ret (pv 1))))), ?_⟩
    dsimp only [gName]
    refine seqSet ?_
    show tSeq (tFor _ _ _) _ _ [some (.ref a), some (.int 0), none, none, none] H
    refine ⟨_, rfl, a, rfl, ⟨_, SqL.of ha⟩, for_list (K := K) (a := a) (xs := xs) (fun j σ H2 => ∃ v2 v3 v4, σ = [some (.ref a), some (.int ((leastOf (rows.take j) : Nat) : Int)), v2, v3, v4] ∧ Same H H2)
      ⟨none, none, none, rfl, Same.refl _⟩ (fun j σ H2 _ ⟨_, _, _, _, s2⟩ => SqL.of (s2 a _ ha)) ?_ ?_⟩
    · rintro j y σ H2 hj ⟨v2, v3, v4, rfl, s2⟩
      obtain ⟨r, hr', ra, rfl, hra⟩ := paired_get hR hj
      have hra2 := s2 ra _ hra
      have htk : rows.take (j + 1) = rows.take j ++ [r] := by rw [List.take_add_one, hr']; rfl
      have hls : leastOf (rows.take (j + 1)) = max (leastOf (rows.take j)) (needs r) := by rw [htk, least_snoc]
      generalize leastOf (rows.take j) = m at hls
      refine ⟨_, rfl, ra, gr r, rfl, by rw [grow_gr]; exact hra2, fun p H3 hp s3 hp3 => ?_⟩
      have s23 := s2.trans s3
      have hT3 : SqT K H3 ra (rowV r) := SqT.of (s3 ra _ hra2)
      have fin : ∀ (c b : Int), max (m : Int) (max c b) = ((max m (needs r) : Nat) : Int) → ∃ v2 v3 v4, ([some (.ref a), some (V.int (max (m : Int) (max c b))), some (.ref ra), some (.ref p), some (.int c)] : St) = [some (.ref a), some (.int ((leastOf (rows.take (j + 1)) : Nat) : Int)), v2, v3, v4] ∧ Same H H3 := fun c b e =>
        ⟨_, _, _, by rw [hls, e], s23⟩
      cases r with
      | tell x =>
        refine ⟨_, rfl, p, _, rfl, .inl (SqL.of hp3), _, rfl, p, _, rfl, .inl (SqL.of hp3), rfl, _, rfl, ifD (by show ¬ (V.int ((1 : Nat) : Int) = V.int 2); decide) (.inr ⟨_, rfl, _, _, rfl, rfl, ?_⟩)⟩
        refine ⟨_, rfl, _, rfl, _, rfl, ra, _, _, _, rfl, rfl, hT3, at0, rfl, .inr ⟨_, rfl, _, _, _, rfl, ?_⟩⟩
        exact fin _ _ (by show max (m : Int) (max (1 - 0) 0) = ((max m (max 1 1) : Nat) : Int); omega)
      | set x z =>
        refine ⟨_, rfl, p, _, rfl, .inl (SqL.of hp3), _, rfl, p, _, rfl, .inl (SqL.of hp3), rfl, _, rfl, ifD (by show ¬ (V.int ((0 : Nat) : Int) = V.int 2); decide) (.inr ⟨_, rfl, _, _, rfl, rfl, ?_⟩)⟩
        refine ⟨_, rfl, _, rfl, _, rfl, ra, _, _, _, rfl, rfl, hT3, at0, rfl, .inr ⟨_, rfl, _, _, _, rfl, ?_⟩⟩
        exact fin _ _ (by show max (m : Int) (max (0 - 0) 1) = ((max m (max 1 0) : Nat) : Int); omega)
      | take x =>
        refine ⟨_, rfl, p, _, rfl, .inl (SqL.of hp3), _, rfl, p, _, rfl, .inl (SqL.of hp3), rfl, _, rfl, ifD (by show ¬ (V.int ((0 : Nat) : Int) = V.int 2); decide) (.inr ⟨_, rfl, _, _, rfl, rfl, ?_⟩)⟩
        refine ⟨_, rfl, _, rfl, _, rfl, ra, _, _, _, rfl, rfl, hT3, at0, rfl, .inr ⟨_, rfl, _, _, _, rfl, ?_⟩⟩
        exact fin _ _ (by show max (m : Int) (max (0 - 0) 1) = ((max m (max 1 0) : Nat) : Int); omega)
      | op o x u v =>
        refine ⟨_, rfl, p, _, rfl, .inl (SqL.of hp3), _, rfl, p, _, rfl, .inl (SqL.of hp3), rfl, _, rfl, itD rfl ?_⟩
        refine ⟨_, rfl, p, _, _, _, rfl, rfl, SqL.of hp3, at0, _, rfl, _, rfl, p, _, _, _, rfl, rfl, SqL.of hp3, atI_last [V.str u] (V.str v), rfl, .inr ⟨_, rfl, _, _, rfl, rfl, ?_⟩⟩
        refine ⟨_, rfl, _, rfl, _, rfl, ra, _, _, _, rfl, rfl, hT3, at0, rfl, .inr ⟨_, rfl, _, _, _, rfl, ?_⟩⟩
        have ew : (!decide (V.str (word o) = V.str "tell")) = true := by rw [decide_eq_false (n_word_tell o)]; rfl
        refine fin _ _ ?_
        show max (m : Int) (max (2 - (if decide (V.str u = V.str v) = true then 1 else 0)) (if (!decide (V.str (word o) = V.str "tell")) = true then 1 else 0)) = ((max m (max 1 (uses1 (.op o x u v)).length) : Nat) : Int)
        rw [ew]
        by_cases e : u = v
        · have e1 : decide (V.str u = V.str v) = true := decide_eq_true (by rw [e])
          rw [e1]
          have : (uses1 (.op o x u v)).length = 1 := by simp [uses1, e]
          rw [this]
          simp only [if_true]
          omega
        · have e1 : decide (V.str u = V.str v) = false := decide_eq_false (fun z => e (by injection z))
          rw [e1]
          have : (uses1 (.op o x u v)).length = 2 := by simp [uses1, e]
          rw [this]
          simp only [if_true, Bool.false_eq_true, if_false]
          omega
    · rintro σ H2 ⟨v2, v3, v4, rfl, s2⟩
      rw [hxl, List.take_length]
      exact ⟨_, rfl, k _ s2⟩
end
end Fp
namespace Fp
open PySem L2
theorem valid_app {A B : List Row} (hA : Valid A) (hB : ∀ (i : Nat) r, B[i]? = some r → ∀ x ∈ uses r, ∃ q ∈ A ++ B.take i, wr q = some x) : Valid (A ++ B) := by
  intro i r hi x hx
  by_cases hlt : i < A.length
  · rw [List.getElem?_append_left hlt] at hi
    obtain ⟨q, hq, e⟩ := hA i r hi x hx
    refine ⟨q, ?_, e⟩
    rw [List.take_append_of_le_length (Nat.le_of_lt hlt)]
    exact hq
  · rw [List.getElem?_append_right (by omega)] at hi
    obtain ⟨q, hq, e⟩ := hB _ r hi x hx
    refine ⟨q, ?_, e⟩
    rw [List.take_append, List.take_of_length_le (by omega : A.length ≤ i)]
    exact hq
theorem valid_more {A B : List Row} (hA : Valid A) (hB : Valid B) : Valid (A ++ B) :=
  valid_app hA fun i r hi x hx => by
    obtain ⟨q, hq, e⟩ := hB i r hi x hx
    exact ⟨q, List.mem_append_right _ hq, e⟩
def setAt (ss : List Str) (k : Nat) : Row := .set (ss[k]?.getD "") (3 * (k : Int) - 7)
def setsOf (ss : List Str) (i : Nat) : List Row := (List.range i).map (setAt ss)
theorem sets_succ (ss : List Str) (i : Nat) : setsOf ss (i + 1) = setsOf ss i ++ [setAt ss i] := by unfold setsOf; rw [List.range_succ, List.map_append]; rfl
theorem sets_len (ss : List Str) (i : Nat) : (setsOf ss i).length = i := by unfold setsOf; rw [List.length_map, List.length_range]
theorem mem_sets {ss : List Str} {i : Nat} {r : Row} (h : r ∈ setsOf ss i) : ∃ k, k < i ∧ r = setAt ss k := by
  obtain ⟨k, hk, e⟩ := List.mem_map.mp h
  exact ⟨k, List.mem_range.mp hk, e.symm⟩
theorem sets_valid (ss : List Str) (i : Nat) : Valid (setsOf ss i) := fun j r hj x hx => by
  obtain ⟨k, _, rfl⟩ := mem_sets (List.mem_of_getElem? hj)
  exact absurd hx (fun z => nomatch z)
def allOf (ss : List Str) (rows : List Row) : List Row := (setsOf ss ss.length ++ rows) ++ ss.map Row.tell
theorem sets_write {ss : List Str} {x : Str} (h : x ∈ ss) : ∃ q ∈ setsOf ss ss.length, wr q = some x := by
  obtain ⟨k, hk⟩ := List.mem_iff_getElem?.mp h
  have hlt : k < ss.length := (List.getElem?_eq_some_iff.mp hk).1
  refine ⟨setAt ss k, List.mem_map.mpr ⟨k, List.mem_range.mpr hlt, rfl⟩, ?_⟩
  show some (ss[k]?.getD "") = some x
  rw [hk]; rfl
theorem all_valid {ss : List Str} {rows : List Row} (h : Valid rows) : Valid (allOf ss rows) := by
  refine valid_app (valid_more (sets_valid ss _) h) fun i r hi x hx => ?_
  rw [List.getElem?_map] at hi
  obtain ⟨y, hy, rfl⟩ := Option.map_eq_some_iff.mp hi
  have : x = y := by simpa [uses] using hx
  subst this
  obtain ⟨q, hq, e⟩ := sets_write (List.mem_of_getElem? hy)
  exact ⟨q, List.mem_append_left _ (List.mem_append_left _ hq), e⟩
theorem all_among {ss : List Str} {rows : List Row} (h : Among ss rows) : Among ss (allOf ss rows) := by
  intro r hr
  rcases List.mem_append.mp hr with q | q
  · rcases List.mem_append.mp q with q | q
    · obtain ⟨k, hk, rfl⟩ := mem_sets q
      refine ⟨(fun x hx => nomatch hx), fun x e => ?_⟩
      have e : some (ss[k]?.getD "") = some x := e
      have hk' : ss[k]? = some ss[k] := List.getElem?_eq_getElem hk
      rw [hk'] at e
      cases e
      exact List.getElem_mem hk
    · exact h r q
  · obtain ⟨y, hy, rfl⟩ := List.mem_map.mp q
    refine ⟨fun x hx => ?_, (fun x e => nomatch e)⟩
    have : x = y := by simpa [uses] using hx
    rw [this]; exact hy
theorem all_len {ss : List Str} {rows : List Row} (h1 : ss.length ≤ 20) (h2 : rows.length ≤ 20) : (allOf ss rows).length ≤ 60 := by
  unfold allOf
  rw [List.length_append, List.length_append, sets_len, List.length_map]
  omega
theorem all_numb {ss : List Str} {rows : List Row} (h1 : ss.length ≤ 20) (h : ∃ mu, Numb rows mu) : ∃ mu, Numb (allOf ss rows) mu := by
  obtain ⟨mu, hs, h0, h2, h3⟩ := h
  have e : (allOf ss rows).countP isMul = rows.countP isMul := by
    unfold allOf
    rw [List.countP_append, List.countP_append]
    have e1 : (setsOf ss ss.length).countP isMul = 0 := List.countP_eq_zero.mpr fun r hr => by
      obtain ⟨k, _, rfl⟩ := mem_sets hr
      exact fun z => nomatch z
    have e2 : (ss.map Row.tell).countP isMul = 0 := List.countP_eq_zero.mpr fun r hr => by
      obtain ⟨k, _, rfl⟩ := List.mem_map.mp hr
      exact fun z => nomatch z
    omega
  refine ⟨mu, fun r hr => ?_, h0, by rw [e]; exact h2, by rw [e]; exact h3⟩
  rcases List.mem_append.mp hr with q | q
  · rcases List.mem_append.mp q with q | q
    · obtain ⟨k, hk, rfl⟩ := mem_sets q
      intro n z e
      cases e
      show (3 * (k : Int) - 7).natAbs < 10 ^ 30
      have : (3 * (k : Int) - 7).natAbs ≤ 100 := by omega
      exact Nat.lt_of_le_of_lt this (by decide)
    · exact hs r q
  · obtain ⟨y, hy, rfl⟩ := List.mem_map.mp q
    exact fun n z e => nomatch e
section
variable {P : Program} {w : World} {K : PySem.W.Frag} {mg : Str → Option Value} {base : Heap} {C T : Addr}
def spBehind : Sp := fun vs H Q _ => ∃ (a : Addr) (n : Int) (i : IRow), vs = [.ref a, .int n] ∧ H a = some (.tup (irowV i)) ∧ OkRow n i ∧ ∀ H', Same H H' → Q (.bl true) H'
def spAll (K : PySem.W.Frag) : Sp := fun vs H Q _ => ∃ (a : Addr) (ns : List Int), vs = [.ref a] ∧ SqL K H a (ns.map V.int) ∧
  ∀ (t n l : Addr) (ss : List Str) (xs : List V) (rows : List Row) (H' : Hp), H t = none → H n = none → H l = none → Same H H' → H' t = some (.tup [.ref n, .ref l]) → H' n = some (.lst (ss.map V.str)) → H' l = some (.lst xs) → RowsAt H' xs rows →
    Valid rows → Among ss rows → ss.Nodup → ss.length ≤ 20 → rows.length ≤ 60 → (∃ mu, Numb rows mu) → Q (.ref t) H'
theorem fd_all (B : Blt mg) (D_law_names_of : Fd P w K mg base 1 "_law_names_of" ["_law_cell"] spNamesOf) (D_law_at : Fd P w K mg base 1 "_law_at" ["_law_script", "_law_k"] (spAt K)) (D_law_rows_of : Fd P w K mg base 1 "_law_rows_of" ["_law_cells", "_law_names"] (spRows K))
    (F : Fn K mg "_law_all_needed" (top 47)) : Fd P w K mg base 2 "_law_all_needed" ["_law_script"] (spAll K) := by
  have sc : FnScope ["_law_script", "_law_cell", "_law_names", "_law_rows"] ["_law_script"] (defScope (top 47)) := ⟨rfl, rfl, rfl, by decide +kernel, rfl, by decide +kernel, by decide +kernel⟩
  refine F.fd sc (fun vs H Q E h => ?_) (fun _ _ _ _ _ _ us hl => by obtain ⟨a0, rfl⟩ := us1 hl; rfl) (fun f cdv A outer s H vs Q E hr h => ?_)
  · obtain ⟨a, ns, rfl, _⟩ := h
    rfl
  · obtain ⟨a, ns, rfl, hS, k⟩ := h
    have hu0 : (A.deeper (PyProof.Rows.envOfC "_law_all_needed" (defScope (top 47)) s.heap.objs.size f cdv)).units < PySem.cLine := hr.units0
    refine ⟨_, (pss_cons (ps_set (i := 1) sc.nd rfl (Or.inl rfl) (pe_fd D_law_at (hr.mono (by decide)) rfl (pa_cons (pv 0) (pa_cons pe_int pa_nil))))
    (pss_cons (ps_set (i := 2) sc.nd rfl (Or.inr rfl) (pe_fd D_law_names_of (hr.mono (by decide)) rfl (pa_cons (pe_op op_add (pe_op op_add (pe_op op_mul (pe_op op_fdiv (pv 1) pe_int) pe_int) pe_int) (pe_op op_mod (pv 1) pe_int)) pa_nil)))
    (pss_cons (ps_comp (i := 3) (sc := defScope (top 47)) (fv := ["_law_names"]) (js := [2]) ⟨rfl, rfl, by decide +kernel, by decide +kernel, rfl, by decide +kernel, by decide +kernel, by decide +kernel, rfl, by decide +kernel⟩ rfl sc.nd rfl rfl (pi_range1 rfl B.range_ (pa_cons (pe_callB call_len_seq rfl B.len_ PySem.boot_len (pa_cons (pv 2) pa_nil)) pa_nil)) (fun _ _ _ _ => pifs_nil) (fun _ _ _ _ => (pe_tup (pa_cons pe_str (pa_cons (pe_ix (ix_listK (K := K)) (pv 0) (pv 1) (fun _ _ => rfl)) (pa_cons (pe_op op_sub (pe_op op_mul pe_int (pv 1)) pe_int) pa_nil))))) rfl)
    (pss_cons (ps_set (i := 3) sc.nd rfl (Or.inl rfl) (pe_op op_cat (pv 3) (pe_fd D_law_rows_of (hr.mono (by decide)) rfl (pa_cons (pe_slice sl_list (pv 0) (po_some pe_int) (po_some pe_int)) (pa_cons (pv 2) pa_nil)))))
    (pss_one (ps_ret (pe_tup (pa_cons (pv 2) (pa_cons (pe_op op_cat (pv 3) (pe_comp (sc := defScope (top 47)) (fv := []) (js := []) ⟨rfl, rfl, by decide +kernel, by decide +kernel, rfl, by decide +kernel, by decide +kernel, by decide +kernel, rfl, by decide +kernel⟩ rfl (pi_list (pv 2)) (fun _ _ _ _ => pifs_nil) (fun _ _ _ _ => (pe_tup (pa_cons pe_str (pa_cons (pv 0) pa_nil)))))) pa_nil))))))))), ?_⟩
    refine ⟨_, rfl, a, 0, ns, rfl, hS, by decide, ?_⟩
    dsimp only [gName]
    show tSeq (tAsg _ _) _ _ [some (.ref a), some (.int (ns.getD 0 0)), none, none] H
    generalize ns.getD 0 0 = c
    refine ⟨_, rfl, _, _, rfl, rfl, ⟨by decide, by decide⟩, _, _, rfl, rfl, .inr ⟨by decide, by decide⟩, _, _, rfl, rfl, _, rfl, _, _, rfl, rfl, (by first | decide | (show (0 : Int) < _; decide)), _, _, rfl, rfl, _, rfl, fun pn ss H1 hpn s1 hn1 hnd h1 h20 => ?_⟩
    dsimp only [gName]
    show tSeq (tAsg _ _) _ _ [some (.ref a), some (.int c), some (.ref pn), none] H1
    refine ⟨_, rfl, pn, _, rfl, .inl (SqL.of hn1), _, rfl, by rw [List.length_map]; omega, by rw [List.length_map]; omega, ?_⟩
    rw [List.length_map, Int.toNat_natCast]
    refine comp_range fun D hD => ⟨fun i ys H2 => i ≤ ss.length ∧ Same H1 H2 ∧ H2 D = some (.lst ys) ∧ RowsAt H2 ys (setsOf ss i), ⟨Nat.zero_le _, same_upd hD, upd_same, .nil⟩, fun i ys H2 h => h.1, ?_, ?_⟩
    · rintro i ys H2 hi ⟨_, s2, hD2, hR2⟩
      have hl2 : ys.length = i := by rw [hR2.length, sets_len]
      have hsi : ss[i]? = some ss[i] := List.getElem?_eq_getElem hi
      have hat : atI (ss.map V.str) ((0 : Int) + (i : Int)) = some (.str ss[i]) := by
        rw [Int.zero_add]
        refine atI_nat ?_
        rw [List.getElem?_map, hsi]; rfl
      refine ⟨_, rfl, _, rfl, pn, _, _, _, rfl, rfl, SqL.of (s2 pn _ hn1), hat, _, rfl, _, _, rfl, rfl, .inl ⟨by decide, by decide⟩, _, _, rfl, rfl, lk 3, fun q hq => ⟨?_, ?_, hi, ?_, upd_same, ?_⟩⟩
      · rw [upd_ne (ne_of_none hD2 hq)]; exact hD2
      · exact small1000 (by omega)
      · exact fun b o e => by rw [upd_ne (ne_of_none e hD), upd_ne (s2.ne e hq)]; exact s2 b o e
      · rw [sets_succ]
        refine paired_append (Paired.mapP hR2 fun v r ⟨ra, e, he⟩ => ⟨ra, e, ?_⟩) (.cons ⟨q, rfl, ?_⟩ .nil)
        · rw [upd_ne (fun z => by rw [z, hD2] at he; cases he), upd_ne (ne_of_none he hq)]; exact he
        · rw [upd_ne (ne_of_none hD2 hq).symm, upd_same]
          show some (HO.tup [.str "set", .str ss[i], .int (3 * (0 + (i : Int)) - 7)]) = some (.tup [.str "set", .str (ss[i]?.getD ""), .int (3 * (i : Int) - 7)])
          rw [hsi, Int.zero_add]; rfl
    · rintro ys H2 ⟨_, s2, hD2, hR2⟩
      have hyl : ys.length = ss.length := by rw [hR2.length, sets_len]
      dsimp only [gName]
      show tSeq (tAsg _ _) _ _ [some (.ref a), some (.int c), some (.ref pn), some (.ref D)] H2
      have sH2 : Same H H2 := s1.trans s2
      refine ⟨_, rfl, _, rfl, _, rfl, _, rfl, a, _, rfl, sH2.seq hS, fun pc hpc => ?_⟩
      obtain ⟨cs, ecs, hcs⟩ := cut_ints ns (some 2) (some 42)
      have hcl : cs.length ≤ 40 := by
        rw [hcs, List.length_take]
        exact Nat.le_trans (Nat.min_le_left _ _) (cut_len _)
      rw [ecs]
      have s3 : Same H2 (upd H2 pc (.lst (cs.map V.int))) := same_upd hpc
      have hc3 : (upd H2 pc (.lst (cs.map V.int))) pc = some (.lst (cs.map V.int)) := upd_same
      generalize upd H2 pc (.lst (cs.map V.int)) = H3 at s3 hc3
      refine ⟨_, rfl, pc, pn, cs, ss, rfl, SqL.of hc3, hcl, (s2.trans s3) pn _ hn1, h1, by omega, fun pr xs rows H4 hpr s4 hr4 hR hok => ?_⟩
      have hfew := hok.few
      have hxl : xs.length = rows.length := hR.length
      have s24 : Same H2 H4 := s3.trans s4
      refine ⟨D, pr, _, _, rfl, rfl, s24 D _ hD2, hr4, (by have : 1000 ≤ PySem.sizeLine := (by decide); omega), fun pq hpq => ?_⟩
      have s5 : Same H4 (upd H4 pq (.lst (ys ++ xs))) := same_upd hpq
      have hq5 : (upd H4 pq (.lst (ys ++ xs))) pq = some (.lst (ys ++ xs)) := upd_same
      generalize upd H4 pq (.lst (ys ++ xs)) = H5 at s5 hq5
      have hR5 : RowsAt H5 (ys ++ xs) (setsOf ss ss.length ++ rows) := paired_append (hR2.same (s24.trans s5)) (hR.same s5)
      dsimp only [gName]
      show tRet _ _ [some (.ref a), some (.int c), some (.ref pn), some (.ref pq)] H5
      have sH5 : Same H H5 := sH2.trans (s24.trans s5)
      have hn5 : H5 pn = some (.lst (ss.map V.str)) := (s2.trans (s24.trans s5)) pn _ hn1
      refine ⟨_, rfl, _, rfl, _, rfl, pn, rfl, ⟨_, SqL.of hn5⟩, ?_⟩
      refine comp_list (K := K) (a := pn) (xs := ss.map V.str) fun D2 hD2' => ⟨fun i ys2 H6 => i ≤ ss.length ∧ Same H5 H6 ∧ H6 D2 = some (.lst ys2) ∧ RowsAt H6 ys2 ((ss.take i).map Row.tell), ⟨Nat.zero_le _, same_upd hD2', upd_same, .nil⟩, fun i ys2 H6 h => ⟨by rw [List.length_map]; exact h.1, SqL.of (h.2.1 pn _ hn5)⟩, ?_, ?_⟩
      · rintro i x ys2 H6 hx ⟨hi, s6, hD6, hR6⟩
        have hlt : i < ss.length := by
          have := (List.getElem?_eq_some_iff.mp hx).1
          rw [List.length_map] at this; exact this
        have hsi : ss[i]? = some ss[i] := List.getElem?_eq_getElem hlt
        rw [List.getElem?_map, hsi] at hx
        cases hx
        have hl2 : ys2.length ≤ i := by rw [hR6.length, List.length_map, List.length_take]; omega
        refine ⟨_, rfl, lk 2, fun q hq => ⟨?_, ?_, hlt, ?_, upd_same, ?_⟩⟩
        · rw [upd_ne (ne_of_none hD6 hq)]; exact hD6
        · exact small1000 (by omega)
        · exact fun b o e => by rw [upd_ne (ne_of_none e hD2'), upd_ne (s6.ne e hq)]; exact s6 b o e
        · rw [List.take_add_one, hsi, List.map_append]
          refine paired_append (Paired.mapP hR6 fun v r ⟨ra, e, he⟩ => ⟨ra, e, ?_⟩) (.cons ⟨q, rfl, ?_⟩ .nil)
          · rw [upd_ne (fun z => by rw [z, hD6] at he; cases he), upd_ne (ne_of_none he hq)]; exact he
          · rw [upd_ne (ne_of_none hD6 hq).symm, upd_same]; rfl
      · rintro ys2 H6 ⟨_, s6, hD6, hR6⟩
        rw [List.length_map, List.take_length] at hR6
        have hl6 : ys2.length = ss.length := by rw [hR6.length, List.length_map]
        have hq6 := s6 pq _ hq5
        refine ⟨pq, D2, _, _, rfl, rfl, hq6, hD6, (by have : 1000 ≤ PySem.sizeLine := (by decide); rw [List.length_append]; omega), fun pl hpl => ?_⟩
        have s7 : Same H6 (upd H6 pl (.lst (ys ++ xs ++ ys2))) := same_upd hpl
        have hl7 : (upd H6 pl (.lst (ys ++ xs ++ ys2))) pl = some (.lst (ys ++ xs ++ ys2)) := upd_same
        generalize upd H6 pl (.lst (ys ++ xs ++ ys2)) = H7 at s7 hl7
        refine ⟨lk 2, fun t ht => ?_⟩
        have sH6 : Same H H6 := sH5.trans s6
        have s8 : Same H7 (upd H7 t (.tup [.ref pn, .ref pl])) := same_upd ht
        refine k t pn pl ss (ys ++ xs ++ ys2) (allOf ss rows) _ ((sH6.trans s7).free ht) hpn (sH6.free hpl) ((sH6.trans s7).trans s8) upd_same (s8 pn _ (s7 pn _ (s6 pn _ hn5))) (s8 pl _ hl7) ?_ (all_valid hok.valid) (all_among hok.among) hnd h20 (all_len h20 hfew) (all_numb h20 hok.numb)
        exact paired_append (hR5.same ((s6.trans s7).trans s8)) (hR6.same (s7.trans s8))
end
end Fp
namespace Fp
open PySem L2
theorem pe_disp6 {X : Cx} {pos : Pos} {k0 v0 k1 v1 k2 v2 k3 v3 k4 v4 k5 v5 : Expr} {t0 u0 t1 u1 t2 u2 t3 u3 t4 u4 t5 u5 : TE} (a0 : PE X k0 t0) (b0 : PE X v0 u0) (a1 : PE X k1 t1) (b1 : PE X v1 u1) (a2 : PE X k2 t2) (b2 : PE X v2 u2) (a3 : PE X k3 t3) (b3 : PE X v3 u3) (a4 : PE X k4 t4) (b4 : PE X v4 u4) (a5 : PE X k5 t5) (b5 : PE X v5 u5) : PE X (.Dict [some k0, some k1, some k2, some k3, some k4, some k5] [v0, v1, v2, v3, v4, v5] pos) (tDisp [(t0, u0), (t1, u1), (t2, u2), (t3, u3), (t4, u4), (t5, u5)]) :=
  pe_disp (pps_cons a0 b0 (pps_cons a1 b1 (pps_cons a2 b2 (pps_cons a3 b3 (pps_cons a4 b4 (pps_cons a5 b5 pps_nil)))))) rfl rfl (List.cons_ne_nil _ _) (by show (6 : Nat) ≤ 15; decide)
theorem pe_disp6c {X : Cx} {pos p0 q0 p1 q1 p2 q2 p3 q3 p4 q4 p5 q5 : Pos} {j0 l0 j1 l1 j2 l2 j3 l3 j4 l4 j5 l5 : Nat} {s0 : Str} {z0 : Int} {s1 : Str} {z1 : Int} {s2 : Str} {z2 : Int} {s3 : Str} {z3 : Int} {s4 : Str} {z4 : Int} {s5 : Str} {z5 : Int} : PE X (.Dict [some (.Constant (.str s0) j0 p0), some (.Constant (.str s1) j1 p1), some (.Constant (.str s2) j2 p2), some (.Constant (.str s3) j3 p3), some (.Constant (.str s4) j4 p4), some (.Constant (.str s5) j5 p5)]
    [.Constant (.int z0) l0 q0, .Constant (.int z1) l1 q1, .Constant (.int z2) l2 q2, .Constant (.int z3) l3 q3, .Constant (.int z4) l4 q4, .Constant (.int z5) l5 q5] pos) (tDisp [(tC (.str s0), tC (.int z0)), (tC (.str s1), tC (.int z1)), (tC (.str s2), tC (.int z2)), (tC (.str s3), tC (.int z3)), (tC (.str s4), tC (.int z4)), (tC (.str s5), tC (.int z5))]) :=
  @pe_disp6 X pos (.Constant (.str s0) j0 p0) (.Constant (.int z0) l0 q0) (.Constant (.str s1) j1 p1) (.Constant (.int z1) l1 q1) (.Constant (.str s2) j2 p2) (.Constant (.int z2) l2 q2) (.Constant (.str s3) j3 p3) (.Constant (.int z3) l3 q3) (.Constant (.str s4) j4 p4) (.Constant (.int z4) l4 q4) (.Constant (.str s5) j5 p5) (.Constant (.int z5) l5 q5) (tC (.str s0)) (tC (.int z0)) (tC (.str s1)) (tC (.int z1)) (tC (.str s2)) (tC (.int z2)) (tC (.str s3)) (tC (.int z3)) (tC (.str s4)) (tC (.int z4)) (tC (.str s5)) (tC (.int z5)) pe_str pe_int pe_str pe_int pe_str pe_int pe_str pe_int pe_str pe_int pe_str pe_int
theorem nextI {D : Ends} {σ : St} {H : Hp} (h : D.nx σ H) : tNext D σ H := h
def iargs : IRow → List Int
  | .set p z => [p, z]
  | .take p => [p]
  | .op _ p a b => [p, a, b]
  | .tell p => [p]
  | .shelve s p => [s, p]
  | .fetch p s => [p, s]
def iown : IRow → List Int
  | .set p _ => [p]
  | .take p => [p]
  | .op _ p a b => [p, a, b]
  | .tell p => [p]
  | .shelve _ p => [p]
  | .fetch p _ => [p]
theorem irow_eq (i : IRow) : irowV i = V.str (iword i) :: (iargs i).map V.int := by cases i <;> rfl
theorem ok_own {n : Int} {i : IRow} (h : OkRow n i) : ∀ z ∈ iown i, 0 ≤ z ∧ z < n := by
  rcases h with h | ⟨r, h⟩
  · cases i with
    | shelve s p => intro z hz; rw [List.mem_singleton.mp hz]; exact h.2
    | fetch p s => intro z hz; rw [List.mem_singleton.mp hz]; exact ⟨h.1, h.2.1⟩
    | _ => exact h.elim
  · cases h with
    | set x k p h0 h1 => intro z hz; rw [List.mem_singleton.mp hz]; exact ⟨h0, h1⟩
    | take x p h0 h1 => intro z hz; rw [List.mem_singleton.mp hz]; exact ⟨h0, h1⟩
    | tell x p h0 h1 => intro z hz; rw [List.mem_singleton.mp hz]; exact ⟨h0, h1⟩
    | op o x a b p q s h0 h1 h2 h3 h4 h5 =>
      intro z hz
      simp only [iown, List.mem_cons, List.not_mem_nil, or_false] at hz
      rcases hz with e | e | e
      · rw [e]; exact ⟨h0, h1⟩
      · rw [e]; exact ⟨h2, h3⟩
      · rw [e]; exact ⟨h4, h5⟩
theorem ok_args {n : Int} {i : IRow} (h : OkRow n i) (hs : ¬ V.str (iword i) = V.str "set") : ∀ z ∈ iargs i, 0 ≤ z := by
  rcases h with h | ⟨r, h⟩
  · cases i with
    | shelve s p =>
      intro z hz
      simp only [iargs, List.mem_cons, List.not_mem_nil, or_false] at hz
      rcases hz with e | e
      · rw [e]; exact h.1
      · rw [e]; exact h.2.1
    | fetch p s =>
      intro z hz
      simp only [iargs, List.mem_cons, List.not_mem_nil, or_false] at hz
      rcases hz with e | e
      · rw [e]; exact h.1
      · rw [e]; exact h.2.2
    | _ => exact h.elim
  · cases h with
    | set x k p h0 h1 => exact absurd rfl hs
    | take x p h0 h1 => intro z hz; rw [List.mem_singleton.mp hz]; exact h0
    | tell x p h0 h1 => intro z hz; rw [List.mem_singleton.mp hz]; exact h0
    | op o x a b p q s h0 h1 h2 h3 h4 h5 =>
      intro z hz
      simp only [iargs, List.mem_cons, List.not_mem_nil, or_false] at hz
      rcases hz with e | e | e
      · rw [e]; exact h0
      · rw [e]; exact h2
      · rw [e]; exact h4
def sizesD : List (Key × V) := [(.inr "set", .int 3), (.inr "take", .int 2), (.inr "tell", .int 2), (.inr "add", .int 4), (.inr "sub", .int 4), (.inr "mul", .int 4)]
def sizesE : List (Key × V) := putK (putK (mergeK [] sizesD) (.inr "shelve") (.int 3)) (.inr "fetch") (.int 3)
theorem sizes_at (i : IRow) : valV sizesE (.inr (iword i)) = some (.int ((irowV i).length : Int)) := by
  have h : ∀ w : Str, ∀ m : Int, valV sizesE (.inr w) = some (.int m) → ∀ k : Int, k = m → valV sizesE (.inr w) = some (.int k) := fun w m e k q => by rw [q]; exact e
  cases i with
  | set p z => exact h "set" 3 (by decide +kernel) _ rfl
  | take p => exact h "take" 2 (by decide +kernel) _ rfl
  | tell p => exact h "tell" 2 (by decide +kernel) _ rfl
  | shelve s p => exact h "shelve" 3 (by decide +kernel) _ rfl
  | fetch p s => exact h "fetch" 3 (by decide +kernel) _ rfl
  | op o p a b =>
    cases o with
    | add => exact h "add" 4 (by decide +kernel) _ rfl
    | sub => exact h "sub" 4 (by decide +kernel) _ rfl
    | mul => exact h "mul" 4 (by decide +kernel) _ rfl
theorem cut_args (i : IRow) : cutV (irowV i) (some 1) none = (iargs i).map V.int := by
  rw [irow_eq, cut_from (by decide)]
  rfl
theorem iargs_pos (i : IRow) : 1 ≤ (iargs i).length := by cases i <;> simp [iargs]
theorem irow_len (i : IRow) : (irowV i).length = (iargs i).length + 1 := by rw [irow_eq]; simp
section
variable {P : Program} {w : World} {K : PySem.W.Frag} {mg : Str → Option Value} {base : Heap} {C T : Addr}
theorem fd_behind (B : Blt mg) (D_law_whole : Fd P w K mg base 1 "_law_whole" ["_law_found"] spWhole) (F : Fn K mg "_law_is_behind" (top 39)) : Fd P w K mg base 2 "_law_is_behind" ["_law_row", "_law_places"] spBehind := by
  have sc : FnScope ["_law_row", "_law_places", "_law_sizes", "_law_part", "_law_own"] ["_law_row", "_law_places"] (defScope (top 39)) := ⟨rfl, rfl, rfl, by decide +kernel, rfl, by decide +kernel, by decide +kernel⟩
  refine F.fd sc (fun vs H Q E h => ?_) (fun _ _ _ _ _ _ us hl => by obtain ⟨a0, a1, rfl⟩ := us2 hl; rfl) (fun f cdv A outer s H vs Q E hr h => ?_)
  · obtain ⟨a, n, i, rfl, _⟩ := h
    rfl
  · obtain ⟨a, n, i, rfl, ha, hok, k⟩ := h
    have hu := hu_of hr
    have hT : SqT K H a (irowV i) := SqT.of ha
    have hlen := irow_len i
    have hpos := iargs_pos i
    refine ⟨_, (pss_cons (ps_if (PW.pt (pw_or (pt_not (pt_val (pe_callB call_isin rfl B.isinstance_ bt_isinstance (pa_cons (pv 0) (pa_cons (pe_bltn (v := .ty "tuple") rfl B.tuple_ bt_tuple rfl) pa_nil))))) (pw_or (pt_cmpR op_lt (pe_callB call_len_seq rfl B.len_ PySem.boot_len (pa_cons (pv 0) pa_nil)) pe_int (nomark _)) (pw_or1 (pt_not (pt_val (pe_callB call_isin rfl B.isinstance_ bt_isinstance (pa_cons (pe_ix ix_tup (pv 0) pe_int (fun _ _ => rfl)) (pa_cons (pe_bltn (v := .ty "str") rfl B.str_ bt_str rfl) pa_nil))))))))) (pss_one (ps_ret pe_bl)) pss_nil)
    (pss_cons (ps_set (i := 2) sc.nd rfl (Or.inl rfl) (@pe_disp6c _ ⟨229, 17, 229, 79⟩ ⟨229, 18, 229, 23⟩ ⟨229, 25, 229, 26⟩ ⟨229, 28, 229, 34⟩ ⟨229, 36, 229, 37⟩ ⟨229, 39, 229, 45⟩ ⟨229, 47, 229, 48⟩ ⟨229, 50, 229, 55⟩ ⟨229, 57, 229, 58⟩ ⟨229, 60, 229, 65⟩ ⟨229, 67, 229, 68⟩ ⟨229, 70, 229, 75⟩ ⟨229, 77, 229, 78⟩ 0 0 0 0 0 0 0 0 0 0 0 0 "set" 3 "take" 2 "tell" 2 "add" 4 "sub" 4 "mul" 4))
    (pss_cons (ps_dput hu (pv 2) pe_str pe_int rfl)
    (pss_cons (ps_dput hu (pv 2) pe_str pe_int rfl)
    (pss_cons (ps_if (PW.pt (pw_or (pt_cmp (pc_dnotin hu (pe_ix ix_tup (pv 0) pe_int (fun _ _ => rfl)) (pv 2))) (pw_or1 (pt_cmpR op_ne (pe_callB call_len_seq rfl B.len_ PySem.boot_len (pa_cons (pv 0) pa_nil)) (pe_dget hu (pv 2) (pe_ix ix_tup (pv 0) pe_int (fun _ _ => rfl)) (fun _ _ => rfl)) (nomark _))))) (pss_one (ps_ret pe_bl)) pss_nil)
    (pss_cons (ps_for PassesOwn.never rfl (pi_tup (pe_slice sl_tup (pv 0) (po_some pe_int) po_none)) (pg_name (i := 3) sc.nd rfl (Or.inl rfl)) (pss_one (ps_if (pt_not (pt_val (pe_fd D_law_whole (hr.mono (by decide)) rfl (pa_cons (pv 3) pa_nil)))) (pss_one (ps_ret pe_bl)) pss_nil)))
    (pss_cons (ps_set (i := 4) sc.nd rfl (Or.inl rfl) (pe_callTy call_list_of rfl B.list_ bt_list (pa_cons (pe_slice sl_tup (pv 0) (po_some pe_int) po_none) pa_nil)))
    (pss_cons (ps_if (PW.pt (pw_or (pt_cmpR op_eq (pe_ix ix_tup (pv 0) pe_int (fun _ _ => rfl)) pe_str (nomark _)) (pw_or1 (pt_cmpR op_eq (pe_ix ix_tup (pv 0) pe_int (fun _ _ => rfl)) pe_str (nomark _))))) (pss_one (ps_set (i := 4) sc.nd rfl (Or.inl rfl) (pe_lst (pa_cons (pe_ix ix_tup (pv 0) pe_int (fun _ _ => rfl)) pa_nil)))) (pss_one (ps_if (pt_cmpR op_eq (pe_ix ix_tup (pv 0) pe_int (fun _ _ => rfl)) pe_str (nomark _)) (pss_one (ps_set (i := 4) sc.nd rfl (Or.inl rfl) (pe_lst (pa_cons (pe_ix ix_tup (pv 0) pe_int (fun _ _ => rfl)) pa_nil)))) pss_nil)))
    (pss_cons (ps_if (PW.pt (pw_and (pt_cmpR op_ne (pe_ix ix_tup (pv 0) pe_int (fun _ _ => rfl)) pe_str (nomark _)) (pw_and1 (pt_cmpR op_lt (pe_callB (call_min1 rfl) rfl B.min_ bt_min (pa_cons (pe_slice sl_tup (pv 0) (po_some pe_int) po_none) pa_nil)) pe_int (nomark _))))) (pss_one (ps_ret pe_bl)) pss_nil)
    (pss_one (ps_ret (pe_and (pe_cmpR op_ge (pe_callB (call_min1 rfl) rfl B.min_ bt_min (pa_cons (pv 4) pa_nil)) pe_int (nomark _)) (pe_one (pe_cmpR op_lt (pe_callB (call_max1 rfl) rfl B.max_ bt_max (pa_cons (pv 4) pa_nil)) (pv 1) (nomark _))))))))))))))), ?_⟩
    refine ⟨_, rfl, .ref a, "tuple", _, true, rfl, .tup ha, k_tuple_tuple, _, rfl, ifB rfl ?_⟩
    refine ⟨_, rfl, a, _, rfl, .inr hT, _, _, rfl, rfl, _, rfl, ifD (by omega) ?_⟩
    refine ⟨_, rfl, a, _, _, _, rfl, rfl, hT, iword_at0 i, .str (iword i), "str", _, true, rfl, .str _, k_str_str, _, rfl, ifB rfl ?_⟩
    refine fun pz hpz => ⟨upd_same, sizesD, rfl, by decide, ?_⟩
    have s1 : Same H (upd (upd H pz (.dK [])) pz (.dK (mergeK [] sizesD))) := fun b o e => by rw [upd_ne (ne_of_none e hpz), upd_ne (ne_of_none e hpz)]; exact e
    have hz1 : (upd (upd H pz (.dK [])) pz (.dK (mergeK [] sizesD))) pz = some (.dK (mergeK [] sizesD)) := upd_same
    generalize upd (upd H pz (.dK [])) pz (.dK (mergeK [] sizesD)) = H1 at s1 hz1
    have hl1 : (mergeK [] sizesD).length < PySem.sizeLine := by decide
    have hl2 : (putK (mergeK [] sizesD) (.inr "shelve") (.int 3)).length < PySem.sizeLine := by decide +kernel
    have hsz : ∀ i, valV (putK (putK (mergeK [] sizesD) (.inr "shelve") (.int 3)) (.inr "fetch") (.int 3)) (.inr (iword i)) = some (.int ((irowV i).length : Int)) := sizes_at
    generalize mergeK [] sizesD = S0 at hz1 hl1 hl2 hsz
    refine ⟨_, rfl, pz, _, rfl, DPut.k (k := .inr "shelve") hz1 hl1, ?_⟩
    have s1b : Same H (upd H1 pz (.dK (putK S0 (.inr "shelve") (.int 3)))) := fun b o e => by rw [upd_ne (ne_of_none e hpz)]; exact s1 b o e
    have hz1b : (upd H1 pz (.dK (putK S0 (.inr "shelve") (.int 3)))) pz = some (.dK (putK S0 (.inr "shelve") (.int 3))) := upd_same
    generalize upd H1 pz (.dK (putK S0 (.inr "shelve") (.int 3))) = H1b at s1b hz1b
    generalize putK S0 (.inr "shelve") (.int 3) = S1 at hz1b hl2 hsz
    refine ⟨_, rfl, pz, _, rfl, DPut.k (k := .inr "fetch") hz1b hl2, ?_⟩
    have s2 : Same H (upd H1b pz (.dK (putK S1 (.inr "fetch") (.int 3)))) := fun b o e => by rw [upd_ne (ne_of_none e hpz)]; exact s1b b o e
    have hz2 : (upd H1b pz (.dK (putK S1 (.inr "fetch") (.int 3)))) pz = some (.dK (putK S1 (.inr "fetch") (.int 3))) := upd_same
    generalize upd H1b pz (.dK (putK S1 (.inr "fetch") (.int 3))) = H2 at s2 hz2
    generalize putK S1 (.inr "fetch") (.int 3) = S2 at hz2 hsz
    have hT2 : SqT K H2 a (irowV i) := SqT.of (s2 a _ ha)
    have g0 := DGet.k (k := .inr (iword i)) hz2
    rw [hsz] at g0
    refine ⟨_, rfl, a, _, _, _, rfl, rfl, hT2, iword_at0 i, _, rfl, pz, _, rfl, g0, _, rfl, ifB rfl ?_⟩
    refine ⟨_, rfl, a, _, rfl, .inr hT2, _, rfl, _, rfl, a, _, _, _, rfl, rfl, hT2, iword_at0 i, pz, _, rfl, g0, rfl, _, rfl, ifN rfl ?_⟩
    refine nextI ?_
    dsimp only [gName]
    show tSeq (tFor _ _ _) _ _ [some (.ref a), some (.int n), some (.ref pz), none, none] H2
    have hcut := cut_args i
    have nocut : ∀ (m : Nat), ¬ (HT.sIx (irowV i).length 0 (some 1) = 0 ∧ m = (irowV i).length) := fun m z => by
      have e : HT.sIx (irowV i).length 0 (some 1) = min 1 (irowV i).length := HT.sIx_nat _ _ 1
      rw [e] at z
      omega
    refine ⟨_, rfl, _, rfl, a, _, rfl, hT2, nocut _, fun t ht => ?_⟩
    rw [hcut]
    have s3 : Same H2 (upd H2 t (.tup ((iargs i).map V.int))) := same_upd ht
    have ht3 : (upd H2 t (.tup ((iargs i).map V.int))) t = some (.tup ((iargs i).map V.int)) := upd_same
    generalize upd H2 t (.tup ((iargs i).map V.int)) = H3 at s3 ht3
    refine ⟨t, rfl, ⟨_, SqT.of ht3⟩, for_tup (K := K) (a := t) (xs := (iargs i).map V.int) (fun j σ H4 => ∃ v3, σ = [some (.ref a), some (.int n), some (.ref pz), v3, none] ∧ H4 = H3)
      ⟨none, rfl, rfl⟩ (fun j σ H4 _ ⟨_, _, e⟩ => by rw [e]; exact SqT.of ht3) ?_ ?_⟩
    · rintro j y σ H4 hj ⟨v3, rfl, rfl⟩
      rw [List.getElem?_map] at hj
      obtain ⟨z, _, rfl⟩ := Option.map_eq_some_iff.mp hj
      exact ⟨_, rfl, z, rfl, _, rfl, ifB rfl ⟨_, rfl, rfl⟩⟩
    · rintro σ H4 ⟨v3, rfl, rfl⟩
      have s03 := s2.trans s3
      have hT3 : SqT K H4 a (irowV i) := SqT.of (s03 a _ ha)
      refine ⟨_, rfl, _, rfl, a, _, rfl, hT3, nocut _, fun t2 ht2 => ?_⟩
      rw [hcut]
      have s4 : Same H4 (upd H4 t2 (.tup ((iargs i).map V.int))) := same_upd ht2
      have ht4 : (upd H4 t2 (.tup ((iargs i).map V.int))) t2 = some (.tup ((iargs i).map V.int)) := upd_same
      generalize upd H4 t2 (.tup ((iargs i).map V.int)) = H5 at s4 ht4
      refine ⟨t2, _, rfl, .inr (SqT.of ht4), fun l hl => ?_⟩
      have s5 : Same H5 (upd H5 l (.lst ((iargs i).map V.int))) := same_upd hl
      have hl5 : (upd H5 l (.lst ((iargs i).map V.int))) l = some (.lst ((iargs i).map V.int)) := upd_same
      generalize upd H5 l (.lst ((iargs i).map V.int)) = H6 at s5 hl5
      have s06 := (s03.trans s4).trans s5
      have hT6 : SqT K H6 a (irowV i) := SqT.of (s06 a _ ha)
      dsimp only [gName]
      show tSeq (tIfS _ _ _) _ _ [some (.ref a), some (.int n), some (.ref pz), v3, some (.ref l)] H6
      refine seqTail (fun σ' H' => ∃ l', σ' = [some (.ref a), some (.int n), some (.ref pz), v3, some (.ref l')] ∧ Same H H' ∧ H' l' = some (.lst ((iown i).map V.int))) ?_ ?_
      rotate_left
      · intro U tl
        cases i with
        | set p z =>
          refine ⟨_, rfl, a, _, _, _, rfl, rfl, hT6, at0, rfl, _, rfl, itD rfl ?_⟩
          exact ⟨_, rfl, a, _, _, _, rfl, rfl, hT6, at1, lk 1, fun q hq => tl _ _ ⟨q, rfl, s06.trans (same_upd hq), upd_same⟩⟩
        | fetch p z =>
          refine ⟨_, rfl, a, _, _, _, rfl, rfl, hT6, at0, rfl, _, rfl, ifD (by decide +kernel) ?_⟩
          refine ⟨_, rfl, a, _, _, _, rfl, rfl, hT6, at0, rfl, _, rfl, itD rfl ?_⟩
          exact ⟨_, rfl, a, _, _, _, rfl, rfl, hT6, at1, lk 1, fun q hq => tl _ _ ⟨q, rfl, s06.trans (same_upd hq), upd_same⟩⟩
        | shelve z p =>
          refine ⟨_, rfl, a, _, _, _, rfl, rfl, hT6, at0, rfl, _, rfl, ifD (by decide +kernel) ?_⟩
          refine ⟨_, rfl, a, _, _, _, rfl, rfl, hT6, at0, rfl, _, rfl, ifD (by decide +kernel) ?_⟩
          refine ⟨_, rfl, a, _, _, _, rfl, rfl, hT6, at0, rfl, _, rfl, itD rfl ?_⟩
          exact ⟨_, rfl, a, _, _, _, rfl, rfl, hT6, at2, lk 1, fun q hq => tl _ _ ⟨q, rfl, s06.trans (same_upd hq), upd_same⟩⟩
        | take p =>
          refine ⟨_, rfl, a, _, _, _, rfl, rfl, hT6, at0, rfl, _, rfl, ifD (by decide +kernel) ?_⟩
          refine ⟨_, rfl, a, _, _, _, rfl, rfl, hT6, at0, rfl, _, rfl, ifD (by decide +kernel) ?_⟩
          refine ⟨_, rfl, a, _, _, _, rfl, rfl, hT6, at0, rfl, _, rfl, ifD (by decide +kernel) ?_⟩
          exact tl _ _ ⟨l, rfl, s06, hl5⟩
        | tell p =>
          refine ⟨_, rfl, a, _, _, _, rfl, rfl, hT6, at0, rfl, _, rfl, ifD (by decide +kernel) ?_⟩
          refine ⟨_, rfl, a, _, _, _, rfl, rfl, hT6, at0, rfl, _, rfl, ifD (by decide +kernel) ?_⟩
          refine ⟨_, rfl, a, _, _, _, rfl, rfl, hT6, at0, rfl, _, rfl, ifD (by decide +kernel) ?_⟩
          exact tl _ _ ⟨l, rfl, s06, hl5⟩
        | op o p x y =>
          refine ⟨_, rfl, a, _, _, _, rfl, rfl, hT6, at0, rfl, _, rfl, ifD (by cases o <;> decide +kernel) ?_⟩
          refine ⟨_, rfl, a, _, _, _, rfl, rfl, hT6, at0, rfl, _, rfl, ifD (by cases o <;> decide +kernel) ?_⟩
          refine ⟨_, rfl, a, _, _, _, rfl, rfl, hT6, at0, rfl, _, rfl, ifD (by cases o <;> decide +kernel) ?_⟩
          exact tl _ _ ⟨l, rfl, s06, hl5⟩
      rintro σ' H7 ⟨l', rfl, s07, hl7⟩
      have hT7 : SqT K H7 a (irowV i) := SqT.of (s07 a _ ha)
      have hown := ok_own hok
      have onil : iown i ≠ [] := by cases i <;> exact fun z => nomatch z
      have anil : iargs i ≠ [] := by cases i <;> exact fun z => nomatch z
      refine ⟨_, rfl, a, _, _, _, rfl, rfl, hT7, iword_at0 i, rfl, _, rfl, ?_⟩
      by_cases hs : V.str (iword i) = V.str "set"
      · refine ifN hs ?_
        refine ⟨_, rfl, l', iown i, rfl, .inl (SqL.of hl7), onil, fun z hz => ⟨_, _, rfl, rfl, _, rfl, itD (hown z hz).1 ?_⟩⟩
        refine ⟨_, rfl, l', iown i, rfl, .inl (SqL.of hl7), onil, fun z2 hz2 => ⟨_, rfl, _, _, rfl, rfl, ?_⟩⟩
        show Q (.bl (decide (z2 < n))) H7
        rw [decide_eq_true (hown z2 hz2).2]
        exact k H7 s07
      · refine itN hs ?_
        refine ⟨_, rfl, _, rfl, a, _, rfl, hT7, nocut _, fun t3 ht3' => ?_⟩
        rw [hcut]
        have s8 : Same H7 (upd H7 t3 (.tup ((iargs i).map V.int))) := same_upd ht3'
        have ht8 : (upd H7 t3 (.tup ((iargs i).map V.int))) t3 = some (.tup ((iargs i).map V.int)) := upd_same
        generalize upd H7 t3 (.tup ((iargs i).map V.int)) = H8 at s8 ht8
        refine ⟨t3, iargs i, rfl, .inr (SqT.of ht8), anil, fun z hz => ⟨_, _, rfl, rfl, _, rfl, ifD (by have := ok_args hok hs z hz; omega) ?_⟩⟩
        have hl8 := s8 l' _ hl7
        refine ⟨_, rfl, l', iown i, rfl, .inl (SqL.of hl8), onil, fun z hz => ⟨_, _, rfl, rfl, _, rfl, itD (hown z hz).1 ?_⟩⟩
        refine ⟨_, rfl, l', iown i, rfl, .inl (SqL.of hl8), onil, fun z2 hz2 => ⟨_, rfl, _, _, rfl, rfl, ?_⟩⟩
        show Q (.bl (decide (z2 < n))) H8
        rw [decide_eq_true (hown z2 hz2).2]
        exact k H8 (s07.trans s8)
end
end Fp
namespace Fp
open PySem L2
theorem cut_last {xs : List V} {v : V} : cutV (xs ++ [v]) none (some (-1)) = xs := by
  unfold cutV
  have e : HT.sIx (xs ++ [v]).length (xs ++ [v]).length (some (-1)) = xs.length := by
    show (if (-1 : Int) < 0 then ((-1 : Int) + ((xs ++ [v]).length : Int)).toNat else min (-1 : Int).toNat (xs ++ [v]).length) = _
    rw [if_pos (by decide), List.length_append]
    simp only [List.length_cons, List.length_nil]
    omega
  rw [e, HT.sIx_none, List.drop_zero, Nat.sub_zero]
  exact List.take_left
theorem cut_mid {xs : List V} {a b : Nat} (ha : a ≤ b) (hb : b ≤ xs.length) : cutV xs (some (a : Int)) (some (b : Int)) = (xs.drop a).take (b - a) := by
  unfold cutV
  rw [HT.sIx_nat, HT.sIx_nat, Nat.min_eq_left hb, Nat.min_eq_left (Nat.le_trans ha hb)]
theorem runP_fst {s x : DoneP} {a b : List PRow} (h : runP s (a ++ b) = some x) : ∃ y, runP s a = some y := by
  cases q : runP s a with
  | some y => exact ⟨y, rfl⟩
  | none => rw [runP_append, q] at h; cases h
theorem bd_runP : ∀ (l : List PRow) (x y : DoneP) (i c k : Nat), BdP x i c → x.d.m.length ≤ k ∧ x.shelf.length ≤ k ∧ x.d.told.length ≤ k → (∀ r ∈ l, SmallP r) → runP x l = some y →
    BdP y (i + l.length) (c + l.countP isMulP) ∧ y.d.m.length ≤ k + l.length ∧ y.shelf.length ≤ k + l.length ∧ y.d.told.length ≤ k + l.length := by
  intro l
  induction l with
  | nil => intro x y i c k hb hl _ h; cases h; exact ⟨hb, hl⟩
  | cons r t ih =>
    intro x y i c k hb hl hs h
    obtain ⟨z, hz, ht⟩ := Option.bind_eq_some_iff.mp (show (stepP x r).bind (fun y => runP y t) = some y from h)
    have h1 := bd_stepP hb (hs r (.head _)) hz
    have h2 := stepP_len hz
    have h3 := ih z y _ _ (k + 1) h1 (by omega) (fun q hq => hs q (.tail _ hq)) ht
    rw [List.length_cons, List.countP_cons]
    have e1 : i + (t.length + 1) = i + 1 + t.length := by omega
    have e2 : c + (t.countP isMulP + if isMulP r = true then 1 else 0) = (c + if isMulP r = true then 1 else 0) + t.countP isMulP := by omega
    rw [e1, e2]
    exact ⟨h3.1, by omega, by omega, by omega⟩
theorem run_bd {ms : List Int} {l : List PRow} {y : DoneP} (hms : ∀ z ∈ ms, Below 100 z) (hs : ∀ r ∈ l, SmallP r) (h : runP (startP ms) l = some y) : BdP y l.length (l.countP isMulP) ∧ y.d.m.length ≤ l.length ∧ y.shelf.length ≤ l.length ∧ y.d.told.length ≤ l.length := by
  have q := bd_runP l (startP ms) y 0 0 0 (bdp_start hms) ⟨Nat.le_refl _, Nat.le_refl _, Nat.le_refl _⟩ hs h
  simpa only [Nat.zero_add] using q
section
variable {P : Program} {w : World} {K : PySem.W.Frag} {mg : Str → Option Value} {base : Heap} {C T : Addr}
def spMark : Sp := fun vs H Q _ => ∃ (t : Addr) (c a b : Int) (v : V), vs = [.ref t, .int a, .int b] ∧ H t = some (.tup [.int c, v]) ∧ a < c ∧ c ≤ b ∧ Q (.bl true) H
theorem fd_mark (B : Blt mg) (D_law_whole : Fd P w K mg base 1 "_law_whole" ["_law_found"] spWhole) (F : Fn K mg "_law_is_mark" (top 44)) : Fd P w K mg base 2 "_law_is_mark" ["_law_found", "_law_start", "_law_count"] spMark := by
  have sc : FnScope ["_law_found", "_law_start", "_law_count"] ["_law_found", "_law_start", "_law_count"] (defScope (top 44)) := ⟨rfl, rfl, rfl, by decide +kernel, rfl, by decide +kernel, by decide +kernel⟩
  refine F.fd sc (fun vs H Q E h => ?_) (fun _ _ _ _ _ _ us hl => by obtain ⟨a0, a1, a2, rfl⟩ := us3 hl; rfl) (fun f cdv A outer s H vs Q E hr h => ?_)
  · obtain ⟨t, c, a, b, v, rfl, _⟩ := h
    rfl
  · obtain ⟨t, c, a, b, v, rfl, ht, h1, h2, k⟩ := h
    have hT : SqT K H t [.int c, v] := SqT.of ht
    refine ⟨_, (pss_cons (ps_if (PW.pt (pw_or (pt_not (pt_val (pe_callB call_isin rfl B.isinstance_ bt_isinstance (pa_cons (pv 0) (pa_cons (pe_bltn (v := .ty "tuple") rfl B.tuple_ bt_tuple rfl) pa_nil))))) (pw_or (pt_cmpR op_ne (pe_callB call_len_seq rfl B.len_ PySem.boot_len (pa_cons (pv 0) pa_nil)) pe_int (nomark _)) (pw_or1 (pt_not (pt_val (pe_fd D_law_whole (hr.mono (by decide)) rfl (pa_cons (pe_ix ix_tup (pv 0) pe_int (fun _ _ => rfl)) pa_nil)))))))) (pss_one (ps_ret pe_bl)) pss_nil)
    (pss_one (ps_ret (pe_and (pe_cmpR op_gt (pe_ix ix_tup (pv 0) pe_int (fun _ _ => rfl)) (pv 1) (nomark _)) (pe_one (pe_cmpR op_le (pe_ix ix_tup (pv 0) pe_int (fun _ _ => rfl)) (pv 2) (nomark _))))))), ?_⟩
    refine ⟨_, rfl, .ref t, "tuple", _, true, rfl, .tup ht, k_tuple_tuple, _, rfl, ifB rfl ?_⟩
    refine ⟨_, rfl, t, _, rfl, .inr hT, rfl, _, rfl, ifN rfl ?_⟩
    refine ⟨_, rfl, t, _, _, _, rfl, rfl, hT, at0, c, rfl, _, rfl, ifB rfl ?_⟩
    refine ⟨_, rfl, t, _, _, _, rfl, rfl, hT, at0, _, rfl, _, _, rfl, rfl, _, rfl, itD h1 ?_⟩
    refine ⟨_, rfl, t, _, _, _, rfl, rfl, hT, at0, _, rfl, _, _, rfl, rfl, ?_⟩
    show Q (.bl (decide (c ≤ b))) H
    rw [decide_eq_true h2]
    exact k
def spThere : Sp := fun vs H Q _ => ∃ (l d h s : Addr) (us : List V) (R : Rm) (nm : List Str) (x : Done) (y : DoneP), vs = [.ref l, .ref d, .ref h, .ref s] ∧ H l = some (.lst us) ∧ LyingAt H R us nm ∧ H d = some (.dK (enc x.m)) ∧ H h = some (.dK (enc y.d.m)) ∧ H s = some (.dK (enc y.shelf)) ∧ Sim (valN x) R y ∧
  (∀ u ∈ nm, (∃ z, getZ R.place (.inr u) = some z) ∨ ∃ z, getZ R.spot (.inr u) = some z) ∧ Q (.bl true) H
theorem fd_there (B : Blt mg) (F : Fn K mg "_law_lie_there" (top 42)) : Fd P w K mg base 1 "_law_lie_there" ["_law_found", "_law_values", "_law_here", "_law_shelf"] spThere := by
  have sc : FnScope ["_law_found", "_law_values", "_law_here", "_law_shelf", "_law_name", "_law_place", "_law_spot"] ["_law_found", "_law_values", "_law_here", "_law_shelf"] (defScope (top 42)) := ⟨rfl, rfl, rfl, by decide +kernel, rfl, by decide +kernel, by decide +kernel⟩
  refine F.fd sc (fun vs H Q E h => ?_) (fun _ _ _ _ _ _ us hl => by obtain ⟨a0, a1, a2, a3, rfl⟩ := us4 hl; rfl) (fun f cdv A outer s H vs Q E hr h => ?_)
  · obtain ⟨l, d, h, s, us, R, nm, x, y, rfl, _⟩ := h
    rfl
  · obtain ⟨l, d, h, sh, us, R, nm, x, y, rfl, hl, hL, hd, hh, hs, S, hall, k⟩ := h
    have hu := hu_of hr
    have gd : ∀ u, DGet H d (.str u) ((getZ x.m (.inr u)).map V.int) := fun u => by
      have q := DGet.k (k := .inr u) hd
      rw [enc_get] at q
      exact q
    have gh : ∀ z, DGet H h (.int z) ((getZ y.d.m (.inl z)).map V.int) := fun z => by
      have q := DGet.k (k := .inl z) hh
      rw [enc_get] at q
      exact q
    have gs : ∀ z, DGet H sh (.int z) ((getZ y.shelf (.inl z)).map V.int) := fun z => by
      have q := DGet.k (k := .inl z) hs
      rw [enc_get] at q
      exact q
    refine ⟨_, (pss_cons (ps_for PassesOwn.never rfl (pi_list (pv 0)) (pg_tup rfl (pgs_cons (pg_name (i := 4) sc.nd rfl (Or.inl rfl)) (pgs_cons (pg_name (i := 5) sc.nd rfl (Or.inl rfl)) (pgs_cons (pg_name (i := 6) sc.nd rfl (Or.inl rfl)) pgs_nil)))) (pss_cons (ps_if (PW.pt (pw_and (pt_cmp (pc_notN (pv 5))) (pw_and1 (pt_cmpR op_ne (pe_dget2 hu (pv 2) (pv 5) pe_non ⟨rfl, rfl, rfl, rfl⟩) (pe_dget hu (pv 1) (pv 4) (fun _ _ => rfl)) (nomark _))))) (pss_one (ps_ret pe_bl)) pss_nil)
      (pss_one (ps_if (PW.pt (pw_and (pt_cmp (pc_notN (pv 6))) (pw_and1 (pt_cmpR op_ne (pe_dget2 hu (pv 3) (pv 6) pe_non ⟨rfl, rfl, rfl, rfl⟩) (pe_dget hu (pv 1) (pv 4) (fun _ _ => rfl)) (nomark _))))) (pss_one (ps_ret pe_bl)) pss_nil))))
    (pss_one (ps_ret pe_bl))), ?_⟩
    refine ⟨_, rfl, l, rfl, ⟨_, SqL.of hl⟩, for_list (K := K) (a := l) (xs := us) (fun j σ H2 => ∃ v4 v5 v6, σ = [some (.ref l), some (.ref d), some (.ref h), some (.ref sh), v4, v5, v6] ∧ H2 = H)
      ⟨none, none, none, rfl, rfl⟩ (fun j σ H2 _ ⟨_, _, _, _, e⟩ => by rw [e]; exact SqL.of hl) ?_ ?_⟩
    · rintro j v σ H2 hj ⟨v4, v5, v6, rfl, rfl⟩
      obtain ⟨u, hu', t, rfl, ht⟩ := paired_get hL hj
      refine ⟨t, _, rfl, SqT.of ht, rfl, _, _, rfl, _, _, rfl, _, _, rfl, rfl, ?_⟩
      have hval : ∃ z, getZ x.m (.inr u) = some z := by
        rcases hall u (List.mem_of_getElem? hu') with ⟨z, q⟩ | ⟨z, q⟩
        · obtain ⟨w, hw, _⟩ := S.pl u z q
          exact ⟨w, hw⟩
        · obtain ⟨w, hw, _⟩ := S.sp u z q
          exact ⟨w, hw⟩
      obtain ⟨z, hz⟩ := hval
      have gd' := gd u
      rw [hz] at gd'
      refine seqTail (fun σ' H' => σ' = [some (.ref l), some (.ref d), some (.ref h), some (.ref sh), some (.str u), some (optV (getZ R.place (.inr u))), some (optV (getZ R.spot (.inr u)))] ∧ H' = H2) ?_ ?_
      rotate_left
      · intro U tl
        cases hp : getZ R.place (.inr u) with
        | none => exact ⟨_, rfl, _, rfl, ifN rfl (tl _ _ ⟨by rw [hp]; rfl, rfl⟩)⟩
        | some p =>
          obtain ⟨w, hw, hw2⟩ := S.pl u p hp
          have hw : getZ x.m (.inr u) = some w := hw
          rw [hz] at hw
          cases hw
          have g := gh p
          rw [hw2] at g
          exact ⟨_, rfl, _, rfl, itN (fun z => nomatch z) ⟨_, rfl, h, rfl, .inl ⟨_, Rd.of hh⟩, _, rfl, _, g, _, rfl, _, rfl, d, _, rfl, gd', rfl, _, rfl, ifN rfl (tl _ _ ⟨by rw [hp]; rfl, rfl⟩)⟩⟩
      rintro σ' H' ⟨rfl, rfl⟩
      cases hp : getZ R.spot (.inr u) with
      | none => exact ⟨_, rfl, _, rfl, ifN rfl ⟨_, _, _, rfl, rfl⟩⟩
      | some p =>
        obtain ⟨w, hw, hw2⟩ := S.sp u p hp
        have hw : getZ x.m (.inr u) = some w := hw
        rw [hz] at hw
        cases hw
        have g := gs p
        rw [hw2] at g
        exact ⟨_, rfl, _, rfl, itN (fun z => nomatch z) ⟨_, rfl, sh, rfl, .inl ⟨_, Rd.of hs⟩, _, rfl, _, g, _, rfl, _, rfl, d, _, rfl, gd', rfl, _, rfl, ifN rfl ⟨_, _, _, rfl, rfl⟩⟩⟩
    · rintro σ H2 ⟨v4, v5, v6, rfl, rfl⟩
      exact k
end
end Fp
namespace Fp
open PySem L2
section
variable {P : Program} {w : World} {K : PySem.W.Frag} {mg : Str → Option Value} {base : Heap} {C T : Addr}
theorem irows_keep {H H' : Hp} {d sh l t : Addr} {x : DoneP} (hk : PlacesAt H d sh l t x) (hr : ∀ b o, b ≠ d → b ≠ sh → b ≠ l → b ≠ t → H b = some o → H' b = some o) {b : Addr} {vs : List V} (h : H b = some (.tup vs)) : H' b = some (.tup vs) :=
  hr b _ (ne_of h hk.m (fun z => nomatch z)) (ne_of h hk.shelf (fun z => nomatch z)) (ne_of h hk.left (fun z => nomatch z)) (ne_of h hk.told (fun z => nomatch z)) h
def spPart : Sp := fun vs H Q _ => ∃ (p a d sh l t : Addr) (ys : List V) (m : List IRow) (i : IRow) (r : Row) (n : Int) (ms : List Int) (pre : List PRow) (x x' : DoneP), vs = [.ref p, .ref a, .ref d, .ref sh, .ref l, .ref t] ∧ H p = some (.lst ys) ∧ p ≠ l ∧ p ≠ t ∧ IRowsAt H ys (m ++ [i]) ∧ H a = some (.tup (rowV r)) ∧
  (∀ q ∈ m, Move n q) ∧ Own n r i ∧ PlacesAt H d sh l t x ∧ (∀ z ∈ ms, Below 100 z) ∧ runP (startP ms) pre = some x ∧ runP (startP ms) (pre ++ (m ++ [i]).map toP) = some x' ∧ (∀ q ∈ pre ++ (m ++ [i]).map toP, SmallP q) ∧ (pre ++ (m ++ [i]).map toP).length ≤ 700 ∧ (pre ++ (m ++ [i]).map toP).countP isMulP ≤ 5 ∧
  ∀ H', PlacesAt H' d sh l t x' → (∀ b o, b ≠ d → b ≠ sh → b ≠ l → b ≠ t → H b = some o → H' b = some o) → Q (.bl true) H'
theorem fd_part (B : Blt mg) (D_law_on_places : Fd P w K mg base 3 "_law_on_places" ["_law_row", "_law_here", "_law_shelf", "_law_left", "_law_told"] spOn) (F : Fn K mg "_law_part_done" (top 43)) : Fd P w K mg base 4 "_law_part_done" ["_law_part", "_law_row", "_law_here", "_law_shelf", "_law_left", "_law_told"] spPart := by
  have sc : FnScope ["_law_part", "_law_row", "_law_here", "_law_shelf", "_law_left", "_law_told", "_law_one"] ["_law_part", "_law_row", "_law_here", "_law_shelf", "_law_left", "_law_told"] (defScope (top 43)) := ⟨rfl, rfl, rfl, by decide +kernel, rfl, by decide +kernel, by decide +kernel⟩
  refine F.fd sc (fun vs H Q E h => ?_) (fun _ _ _ _ _ _ us hl => by obtain ⟨a0, a1, a2, a3, a4, a5, rfl⟩ := us6 hl; rfl) (fun f cdv A outer s H vs Q E hr h => ?_)
  · obtain ⟨p, a, d, sh, l, t, ys, m, i, r, n, ms, pre, x, x', rfl, _⟩ := h
    rfl
  · obtain ⟨p, a, d, sh, l, t, ys, m, i, r, n, ms, pre, x, x', rfl, hp, npl, npt, hI, ha, hmv, hown, hk, hms, hx, hx', hsm, hlen, hmul, k⟩ := h
    have hu0 : (A.deeper (PyProof.Rows.envOfC "_law_part_done" (defScope (top 43)) s.heap.objs.size f cdv)).units < PySem.cLine := hr.units0
    have hI2 := hI
    obtain ⟨ys0, y1, rfl, hI0, ra, rfl, hra⟩ := paired_snoc hI
    refine ⟨_, (pss_cons (ps_if (PW.pt (pw_or (pt_cmpR (op_eqNil hu0) (pv 0) (pe_lst pa_nil) (nomark _)) (pw_or1 (pt_cmpR op_ne (pe_ix ix_tup (pe_ix ix_list (pv 0) (pe_un un_neg pe_int) (fun _ _ => rfl)) pe_int (fun _ _ => rfl)) (pe_ix ix_tup (pv 1) pe_int (fun _ _ => rfl)) (nomark _))))) (pss_one (ps_ret pe_bl)) pss_nil)
    (pss_cons (ps_for PassesOwn.never rfl (pi_list (pe_slice sl_list (pv 0) po_none (po_some (pe_un un_neg pe_int)))) (pg_name (i := 6) sc.nd rfl (Or.inl rfl)) (pss_one (ps_if (PW.pt (pw_and (pt_cmpR op_ne (pe_ix ix_tup (pv 6) pe_int (fun _ _ => rfl)) pe_str (nomark _)) (pw_and1 (pt_cmpR op_ne (pe_ix ix_tup (pv 6) pe_int (fun _ _ => rfl)) pe_str (nomark _))))) (pss_one (ps_ret pe_bl)) pss_nil)))
    (pss_cons (ps_for PassesOwn.never rfl (pi_list (pv 0)) (pg_name (i := 6) sc.nd rfl (Or.inl rfl)) (pss_one (ps_if (pt_not (pt_val (pe_fd D_law_on_places (hr.mono (by decide)) rfl (pa_cons (pv 6) (pa_cons (pv 2) (pa_cons (pv 3) (pa_cons (pv 4) (pa_cons (pv 5) pa_nil)))))))) (pss_one (ps_ret pe_bl)) pss_nil)))
    (pss_one (ps_ret pe_bl))))), ?_⟩
    refine seqCut fun U tl => ?_
    refine ⟨_, rfl, (by first | decide | (show (0 : Int) < _; decide)), fun q hq => ⟨p, q, _, rfl, rfl, SqL.of (by rw [upd_ne (ne_of_none hp hq)]; exact hp), SqL.of upd_same, _, rfl, ifB (by simp) ?_⟩⟩
    have s1 : Same H (upd H q (.lst [])) := same_upd hq
    generalize upd H q (.lst []) = H1 at s1
    have hp1 := s1 p _ hp
    refine ⟨_, rfl, _, rfl, p, _, _, _, rfl, rfl, SqL.of hp1, atI_last ys0 (V.ref ra), ra, _, _, _, rfl, rfl, SqT.of (s1 ra _ hra), iword_at0 i, _, rfl, a, _, _, _, rfl, rfl, SqT.of (s1 a _ ha), nword_at0 r, rfl, _, rfl, ifN (by rw [own_word hown]) ?_⟩
    refine tl _ _ ?_
    refine seqCut fun U tl => ?_
    refine ⟨_, rfl, _, rfl, _, rfl, p, _, rfl, SqL.of hp1, fun c hc => ?_⟩
    rw [cut_last]
    have s2 : Same H1 (upd H1 c (.lst ys0)) := same_upd hc
    have hc2 : (upd H1 c (.lst ys0)) c = some (.lst ys0) := upd_same
    generalize upd H1 c (.lst ys0) = H2 at s2 hc2
    have s02 := s1.trans s2
    refine ⟨c, rfl, ⟨_, SqL.of hc2⟩, for_list (K := K) (a := c) (xs := ys0) (fun j σ H' => ∃ v6, σ = [some (.ref p), some (.ref a), some (.ref d), some (.ref sh), some (.ref l), some (.ref t), v6] ∧ H' = H2)
      ⟨none, rfl, rfl⟩ (fun j σ H' _ ⟨_, _, e⟩ => by rw [e]; exact SqL.of hc2) ?_ ?_⟩
    · rintro j v σ H' hj ⟨v6, rfl, rfl⟩
      obtain ⟨q, hq', rb, rfl, hrb⟩ := paired_get hI0 hj
      have hT : SqT K H' rb (irowV q) := SqT.of (s02 rb _ hrb)
      have hM := hmv q (List.mem_of_getElem? hq')
      refine ⟨_, rfl, rb, _, _, _, rfl, rfl, hT, iword_at0 q, rfl, _, rfl, ?_⟩
      cases q with
      | shelve sp pl => exact ifN rfl ⟨_, rfl, rfl⟩
      | fetch pl sp => exact itN (by show ¬ (V.str "fetch" = V.str "shelve"); decide +kernel) ⟨_, rfl, rb, _, _, _, rfl, rfl, hT, at0, rfl, _, rfl, ifN rfl ⟨_, rfl, rfl⟩⟩
      | _ => exact hM.elim
    · rintro σ H' ⟨v6, rfl, rfl⟩
      refine tl _ _ ?_
      have hp2 := s02 p _ hp
      have hk2 : PlacesAt H' d sh l t x := ⟨⟨s02 d _ hk.m, s02 l _ hk.left, s02 t _ hk.told, hk.ne⟩, s02 sh _ hk.shelf, hk.nes⟩
      have npd : p ≠ d := ne_of hp hk.m (fun z => nomatch z)
      have nps : p ≠ sh := ne_of hp hk.shelf (fun z => nomatch z)
      show tSeq (tFor _ _ _) _ _ [some (.ref p), some (.ref a), some (.ref d), some (.ref sh), some (.ref l), some (.ref t), v6] H'
      refine ⟨_, rfl, p, rfl, ⟨_, SqL.of hp2⟩, for_list (K := K) (a := p) (xs := ys0 ++ [.ref ra]) (fun j σ H3 => ∃ (y : DoneP) (v6 : Option V), σ = [some (.ref p), some (.ref a), some (.ref d), some (.ref sh), some (.ref l), some (.ref t), v6] ∧
        runP (startP ms) (pre ++ ((m ++ [i]).map toP).take j) = some y ∧ PlacesAt H3 d sh l t y ∧ ∀ b o, b ≠ d → b ≠ sh → b ≠ l → b ≠ t → H b = some o → H3 b = some o)
        ⟨x, v6, rfl, by rw [List.take_zero, List.append_nil]; exact hx, hk2, fun b o _ _ _ _ e => s02 b o e⟩ (fun j σ H3 _ ⟨_, _, _, _, _, e⟩ => SqL.of (e p _ npd nps npl npt hp)) ?_ ?_⟩
      · rintro j v σ H3 hj ⟨y, w6, rfl, hrun, hky, hrest⟩
        obtain ⟨q, hqj, rb, rfl, hrb⟩ := paired_get hI2 hj
        have hrj : ((m ++ [i]).map toP)[j]? = some (toP q) := by rw [List.getElem?_map, hqj]; rfl
        have htk : ((m ++ [i]).map toP).take (j + 1) = ((m ++ [i]).map toP).take j ++ [toP q] := by rw [List.take_add_one, hrj]; rfl
        have hsub : ∀ u, (pre ++ ((m ++ [i]).map toP).take u).Sublist (pre ++ (m ++ [i]).map toP) := fun u => (List.Sublist.refl pre).append (List.take_sublist u _)
        have hbd := run_bd hms (fun r hr => hsm r ((hsub j).subset hr)) hrun
        have hl1 := (hsub j).length_le
        have hbits : bits (pre ++ ((m ++ [i]).map toP).take j).length ((pre ++ ((m ++ [i]).map toP).take j).countP isMulP) ≤ 100000 :=
          Nat.le_trans (bits_mono (j := 700) (d := 5) (by omega) (Nat.le_trans (hsub j).countP_le hmul)) (by decide)
        obtain ⟨y2, hy2⟩ : ∃ y2, runP (startP ms) (pre ++ ((m ++ [i]).map toP).take (j + 1)) = some y2 := by
          have e : pre ++ (m ++ [i]).map toP = (pre ++ ((m ++ [i]).map toP).take (j + 1)) ++ ((m ++ [i]).map toP).drop (j + 1) := by rw [List.append_assoc, List.take_append_drop]
          rw [e] at hx'
          exact runP_fst hx'
        have hst : stepP y (toP q) = some y2 := by
          have e := hy2
          rw [htk, ← List.append_assoc, runP_snoc, hrun] at e
          exact e
        refine ⟨_, rfl, _, rfl, _, rfl, _, rfl, _, rfl, rb, d, sh, l, t, toP q, y, _, _, rfl, irows_keep hk hrest hrb, hky, hbd.1, hbits, by omega, by omega, by omega, fun hno => ?_, fun z hz H4 hk4 hr4 => ⟨_, rfl, ifB rfl ?_⟩⟩
        · rw [hst] at hno; cases hno
        · rw [hst] at hz
          cases hz
          exact ⟨y2, _, rfl, hy2, hk4, fun b o h1 h2 h3 h4 e => hr4 b o h1 h2 h3 h4 (hrest b o h1 h2 h3 h4 e)⟩
      · rintro σ H3 ⟨y, w6, rfl, hrun, hky, hrest⟩
        have hll : (ys0 ++ [V.ref ra]).length = (m ++ [i]).length := hI2.length
        have e : ((m ++ [i]).map toP).take (ys0 ++ [V.ref ra]).length = (m ++ [i]).map toP := by rw [hll]; exact List.take_of_length_le (Nat.le_of_eq (List.length_map ..))
        rw [e, hx'] at hrun
        cases hrun
        exact k H3 hky hrest
end
end Fp
namespace Fp
open PySem L2
def sideO (sp : Int) (o : Option Int) : List (Int × Int) := (o.map fun p => (sp, p)).toList
def side (R : Rm) (x : Str) : List (Int × Int) := sideO 1 (getZ R.place (.inr x)) ++ sideO 2 (getZ R.spot (.inr x))
def tkn (R : Rm) (nm : List Str) : List (Int × Int) := nm.flatMap (side R)
theorem tkn_snoc (R : Rm) (nm : List Str) (x : Str) : tkn R (nm ++ [x]) = tkn R nm ++ side R x := by
  unfold tkn
  rw [List.flatMap_append]
  simp
theorem mem_sideO {sp : Int} {o : Option Int} {q : Int × Int} : q ∈ sideO sp o ↔ q.1 = sp ∧ o = some q.2 := by
  unfold sideO
  cases o with
  | none => simp
  | some p =>
    simp only [Option.map_some, Option.toList_some, List.mem_singleton, Option.some.injEq]
    constructor
    · rintro rfl; exact ⟨rfl, rfl⟩
    · rintro ⟨h1, h2⟩; rw [h2, ← h1]
theorem sideO_len (sp : Int) (o : Option Int) : (sideO sp o).length ≤ 1 := by unfold sideO; cases o <;> simp
theorem tkn_len (R : Rm) (nm : List Str) : (tkn R nm).length ≤ 2 * nm.length := by
  unfold tkn
  induction nm with
  | nil => exact Nat.le_refl _
  | cons x t ih =>
    rw [List.flatMap_cons, List.length_append, List.length_cons]
    have h1 := sideO_len 1 (getZ R.place (.inr x))
    have h2 := sideO_len 2 (getZ R.spot (.inr x))
    have h3 : (side R x).length = (sideO 1 (getZ R.place (.inr x))).length + (sideO 2 (getZ R.spot (.inr x))).length := by unfold side; rw [List.length_append]
    omega
theorem tkn_not {n : Int} {nm : List Str} {R : Rm} (G : Good n nm R) (hnd : nm.Nodup) {k : Nat} {x : Str} (hx : nm[k]? = some x) : (∀ p, getZ R.place (.inr x) = some p → ((1 : Int), p) ∉ tkn R (nm.take k)) ∧ ∀ p, getZ R.spot (.inr x) = some p → ((2 : Int), p) ∉ tkn R (nm.take k) ++ sideO 1 (getZ R.place (.inr x)) := by
  have nin : ∀ u ∈ nm.take k, u ≠ x := fun u hu e => by
    obtain ⟨j, hj, e2⟩ := List.mem_take_iff_getElem.mp hu
    have hk : k < nm.length := (List.getElem?_eq_some_iff.mp hx).1
    have hj2 : j < nm.length := by omega
    have hxk : nm[k] = x := by rw [List.getElem?_eq_getElem hk] at hx; exact Option.some.inj hx
    have : j = k := (List.getElem_inj hnd).mp (by rw [e2, e, hxk])
    omega
  have mem : ∀ q, q ∈ tkn R (nm.take k) → ∃ u ∈ nm.take k, (q.1 = 1 ∧ getZ R.place (.inr u) = some q.2) ∨ (q.1 = 2 ∧ getZ R.spot (.inr u) = some q.2) := fun q hq => by
    obtain ⟨u, hu, h⟩ := List.mem_flatMap.mp hq
    refine ⟨u, hu, ?_⟩
    rcases List.mem_append.mp h with h | h
    · exact .inl (mem_sideO.mp h)
    · exact .inr (mem_sideO.mp h)
  refine ⟨fun p hp hq => ?_, fun p hp hq => ?_⟩
  · obtain ⟨u, hu, ⟨_, h⟩ | ⟨h, _⟩⟩ := mem _ hq
    · exact nin u hu (Sum.inr.inj (G.pl.inj _ _ _ h hp))
    · exact absurd h (by show ¬ ((1 : Int) = 2); decide)
  · rcases List.mem_append.mp hq with hq | hq
    · obtain ⟨u, hu, ⟨h, _⟩ | ⟨_, h⟩⟩ := mem _ hq
      · exact absurd h (by show ¬ ((2 : Int) = 1); decide)
      · exact nin u hu (Sum.inr.inj (G.sp.inj _ _ _ h hp))
    · exact absurd (mem_sideO.mp hq).1 (by show ¬ ((2 : Int) = 1); decide)
def inn (pO sO : Option Int) : Nat → List (Int × Int)
  | 0 => []
  | 1 => sideO 1 pO
  | _ + 2 => sideO 1 pO ++ sideO 2 sO
theorem inn_len (pO sO : Option Int) (j : Nat) : (inn pO sO j).length ≤ 2 := by
  have h1 := sideO_len 1 pO
  have h2 := sideO_len 2 sO
  match j with
  | 0 => simp [inn]
  | 1 => simp only [inn]; omega
  | j + 2 => simp only [inn, List.length_append]; omega
def PairsAt (H : Hp) (ts : List V) (qs : List (Int × Int)) : Prop := Paired (fun v q => ∃ b, v = V.ref b ∧ H b = some (.tup [.int q.1, .int q.2])) ts qs
theorem pairs_none {H : Hp} {ts : List V} {qs : List (Int × Int)} {a b : Int} (h : PairsAt H ts qs) (hn : (a, b) ∉ qs) : ∀ v ∈ ts, ∃ q, ∃ (c d : Int), v = V.ref q ∧ H q = some (.tup [.int c, .int d]) ∧ ¬ (c = a ∧ d = b) := fun v hv => by
  obtain ⟨j, hj⟩ := List.mem_iff_getElem?.mp hv
  obtain ⟨q, hq, t, rfl, ht⟩ := paired_get h hj
  refine ⟨t, q.1, q.2, rfl, ht, fun ⟨e1, e2⟩ => hn ?_⟩
  rw [← e1, ← e2]
  exact List.mem_of_getElem? hq
section
variable {P : Program} {w : World} {K : PySem.W.Frag} {mg : Str → Option Value} {base : Heap} {C T : Addr}
def spLy : Sp := fun vs H Q _ => ∃ (l du : Addr) (n : Int) (us : List V) (R : Rm) (nm : List Str), vs = [.ref l, .ref du, .int n] ∧ H l = some (.lst us) ∧ LyingAt H R us nm ∧ H du = some (.lst (nm.map V.str)) ∧ Good n nm R ∧ nm.Nodup ∧ nm.length ≤ 100 ∧ ∀ H', Same H H' → Q (.bl true) H'
theorem fd_lying (B : Blt mg) (D_law_whole : Fd P w K mg base 1 "_law_whole" ["_law_found"] spWhole) (F : Fn K mg "_law_are_lying" (top 41)) : Fd P w K mg base 2 "_law_are_lying" ["_law_found", "_law_due", "_law_places"] spLy := by
  have sc : FnScope ["_law_found", "_law_due", "_law_places", "_law_taken", "_law_k", "_law_one", "_law_spot"] ["_law_found", "_law_due", "_law_places"] (defScope (top 41)) := ⟨rfl, rfl, rfl, by decide +kernel, rfl, by decide +kernel, by decide +kernel⟩
  refine F.fd sc (fun vs H Q E h => ?_) (fun _ _ _ _ _ _ us hl => by obtain ⟨a0, a1, a2, rfl⟩ := us3 hl; rfl) (fun f cdv A outer s H vs Q E hr h => ?_)
  · obtain ⟨l, du, n, us, R, nm, rfl, _⟩ := h
    rfl
  · obtain ⟨l, du, n, us, R, nm, rfl, hl, hL, hdu, G, hnd, hlen, k⟩ := h
    have hu := hu_of hr
    have hul : us.length = nm.length := hL.length
    refine ⟨_, (pss_cons (ps_if (PW.pt (pw_or (pt_not (pt_val (pe_callB call_isin rfl B.isinstance_ bt_isinstance (pa_cons (pv 0) (pa_cons (pe_bltn (v := .ty "list") rfl B.list_ bt_list rfl) pa_nil))))) (pw_or1 (pt_cmpR op_ne (pe_callB call_len_seq rfl B.len_ PySem.boot_len (pa_cons (pv 0) pa_nil)) (pe_callB call_len_seq rfl B.len_ PySem.boot_len (pa_cons (pv 1) pa_nil)) (nomark _))))) (pss_one (ps_ret pe_bl)) pss_nil)
    (pss_cons (ps_set (i := 3) sc.nd rfl (Or.inl rfl) (pe_lst pa_nil))
    (pss_cons (ps_for PassesOwn.never rfl (pi_range1 rfl B.range_ (pa_cons (pe_callB call_len_seq rfl B.len_ PySem.boot_len (pa_cons (pv 1) pa_nil)) pa_nil)) (pg_name (i := 4) sc.nd rfl (Or.inl rfl)) (pss_cons (ps_set (i := 5) sc.nd rfl (Or.inl rfl) (pe_ix ix_list (pv 0) (pv 4) (fun _ _ => rfl)))
      (pss_cons (ps_if (PW.pt (pw_or (pt_not (pt_val (pe_callB call_isin rfl B.isinstance_ bt_isinstance (pa_cons (pv 5) (pa_cons (pe_bltn (v := .ty "tuple") rfl B.tuple_ bt_tuple rfl) pa_nil))))) (pw_or (pt_cmpR op_ne (pe_callB call_len_seq rfl B.len_ PySem.boot_len (pa_cons (pv 5) pa_nil)) pe_int (nomark _)) (pw_or1 (pt_not (pt_val (pe_callB call_isin rfl B.isinstance_ bt_isinstance (pa_cons (pe_ix ix_tup (pv 5) pe_int (fun _ _ => rfl)) (pa_cons (pe_bltn (v := .ty "str") rfl B.str_ bt_str rfl) pa_nil))))))))) (pss_one (ps_ret pe_bl)) pss_nil)
      (pss_cons (ps_if (PW.pt (pw_or (pt_cmpR op_ne (pe_ix ix_tup (pv 5) pe_int (fun _ _ => rfl)) (pe_ix ix_list (pv 1) (pv 4) (fun _ _ => rfl)) (nomark _)) (pw_or1 (PW.pt (pw_and (pt_cmp (pc_isN (pe_ix ix_tup (pv 5) pe_int (fun _ _ => rfl)))) (pw_and1 (pt_cmp (pc_isN (pe_ix ix_tup (pv 5) pe_int (fun _ _ => rfl)))))))))) (pss_one (ps_ret pe_bl)) pss_nil)
      (pss_cons (ps_for PassesOwn.never rfl (pi_list (pe_lst (pa_cons pe_int (pa_cons pe_int pa_nil)))) (pg_name (i := 6) sc.nd rfl (Or.inl rfl)) (pss_one (ps_if (pt_cmp (pc_notN (pe_ix ix_tup (pv 5) (pv 6) (fun _ _ => rfl)))) (pss_cons (ps_if (PW.pt (pw_or (pt_not (pt_val (pe_fd D_law_whole (hr.mono (by decide)) rfl (pa_cons (pe_ix ix_tup (pv 5) (pv 6) (fun _ _ => rfl)) pa_nil)))) (pw_or1 (pt_cmpR (op_inPair hu) (pe_tup (pa_cons (pv 6) (pa_cons (pe_ix ix_tup (pv 5) (pv 6) (fun _ _ => rfl)) pa_nil))) (pv 3) (by with_unfolding_all rfl))))) (pss_one (ps_ret pe_bl)) pss_nil)
          (pss_one (ps_expr (pe_bm PySem.F.plainAttrs_list PySem.F.slot_list_append PySem.F.type_list_append mt_append (pv 3) (pa_cons (pe_tup (pa_cons (pv 6) (pa_cons (pe_ix ix_tup (pv 5) (pv 6) (fun _ _ => rfl)) pa_nil))) pa_nil))))) pss_nil)))
      (pss_one (ps_if (PW.pt (pw_and (pt_cmp (pc_notN (pe_ix ix_tup (pv 5) pe_int (fun _ _ => rfl)))) (pw_and1 (PW.pt (pw_or (pt_cmpR op_lt (pe_ix ix_tup (pv 5) pe_int (fun _ _ => rfl)) pe_int (nomark _)) (pw_or1 (pt_cmpR op_ge (pe_ix ix_tup (pv 5) pe_int (fun _ _ => rfl)) (pv 2) (nomark _)))))))) (pss_one (ps_ret pe_bl)) pss_nil)))))))
    (pss_one (ps_ret pe_bl))))), ?_⟩
    refine seqCut fun U tl => ?_
    refine ⟨_, rfl, .ref l, "list", _, true, rfl, .lst hl, k_list_list, _, rfl, ifB rfl ?_⟩
    refine ⟨_, rfl, l, _, rfl, .inl (SqL.of hl), _, rfl, du, _, rfl, .inl (SqL.of hdu), rfl, _, rfl, ifN (by rw [List.length_map, hul]) ?_⟩
    refine tl _ _ ?_
    refine ⟨(by first | decide | (show (0 : Int) < _; decide)), fun pt hpt => ?_⟩
    have s1 : Same H (upd H pt (.lst [])) := same_upd hpt
    have ht1 : (upd H pt (.lst [])) pt = some (.lst []) := upd_same
    generalize upd H pt (.lst []) = H1 at s1 ht1
    dsimp only [gName]
    show tSeq (tFor _ _ _) _ _ [some (.ref l), some (.ref du), some (.int n), some (.ref pt), none, none, none] H1
    refine ⟨_, rfl, du, _, rfl, .inl (SqL.of (s1 du _ hdu)), _, rfl, by rw [List.length_map]; omega, by rw [List.length_map]; omega, ?_⟩
    rw [List.length_map, Int.toNat_natCast]
    refine for_range (fun i σ H2 => ∃ (ts : List V) (v4 v5 v6 : Option V), σ = [some (.ref l), some (.ref du), some (.int n), some (.ref pt), v4, v5, v6] ∧ Same H H2 ∧ H2 pt = some (.lst ts) ∧ PairsAt H2 ts (tkn R (nm.take i)))
      ⟨[], none, none, none, rfl, s1, ht1, .nil⟩ ?_ ?_
    · rintro i σ H2 hi ⟨ts, v4, v5, v6, rfl, s2, ht2, hP2⟩
      rw [Int.zero_add]
      have hxi : nm[i]? = some nm[i] := List.getElem?_eq_getElem hi
      generalize nm[i] = x at hxi
      obtain ⟨v, hv, u, rfl, hub⟩ := paired_get' hL hxi
      have hat : atI us (i : Int) = some (.ref u) := atI_nat hv
      have hatd : atI (nm.map V.str) (i : Int) = some (.str x) := atI_nat (by rw [List.getElem?_map, hxi]; rfl)
      have hT2 : SqT K H2 u [.str x, optV (getZ R.place (.inr x)), optV (getZ R.spot (.inr x))] := SqT.of (s2 u _ hub)
      obtain ⟨no1, no2⟩ := tkn_not G hnd hxi
      have hal := G.all x (List.mem_of_getElem? hxi)
      have hlt1 : ∀ p, getZ R.place (.inr x) = some p → 0 ≤ p ∧ p < n := fun p e => ⟨G.pl.pos _ _ e, G.lt _ _ e⟩
      have htsl : ts.length ≤ 200 := by
        have h1 : ts.length = (tkn R (nm.take i)).length := hP2.length
        have h2 := tkn_len R (nm.take i)
        rw [List.length_take] at h2
        omega
      have hside : side R x = sideO 1 (getZ R.place (.inr x)) ++ sideO 2 (getZ R.spot (.inr x)) := rfl
      have htk : tkn R (nm.take (i + 1)) = tkn R (nm.take i) ++ side R x := by
        rw [List.take_add_one, hxi]
        exact tkn_snoc R _ x
      rw [htk, hside]
      generalize tkn R (nm.take i) = tk at hP2 no1 no2 htk
      generalize getZ R.place (.inr x) = pO at *
      generalize getZ R.spot (.inr x) = sO at *
      refine seqCut fun U tl => ?_
      refine ⟨_, rfl, _, rfl, l, _, _, _, rfl, rfl, SqL.of (s2 l _ hl), hat, ?_⟩
      refine tl _ _ ?_
      refine seqCut fun U tl => ?_
      refine ⟨_, rfl, .ref u, "tuple", _, true, rfl, .tup (s2 u _ hub), k_tuple_tuple, _, rfl, ifB rfl ?_⟩
      refine ⟨_, rfl, u, _, rfl, .inr hT2, rfl, _, rfl, ifN rfl ?_⟩
      refine ⟨_, rfl, u, _, _, _, rfl, rfl, hT2, at0, .str x, "str", _, true, rfl, .str _, k_str_str, _, rfl, ifB rfl ?_⟩
      refine tl _ _ ?_
      refine seqCut fun U tl => ?_
      refine ⟨_, rfl, u, _, _, _, rfl, rfl, hT2, at0, _, rfl, _, rfl, du, _, _, _, rfl, rfl, SqL.of (s2 du _ hdu), hatd, rfl, _, rfl, ifN rfl ?_⟩
      refine ⟨_, rfl, u, _, _, _, rfl, rfl, hT2, at1, _, rfl, ?_⟩
      suffices fin : U [some (.ref l), some (.ref du), some (.int n), some (.ref pt), some (.int (i : Int)), some (.ref u), v6] H2 by
        cases pO with
        | some p => exact ifD (fun z => nomatch z) (ifB rfl fin)
        | none =>
          cases sO with
          | some p => exact itD rfl ⟨_, rfl, u, _, _, _, rfl, rfl, hT2, at2, _, rfl, ifD (fun z => nomatch z) fin⟩
          | none => rcases hal with ⟨_, z⟩ | ⟨_, z⟩ <;> cases z
      refine tl _ _ ?_
      refine seqCut fun U tl => ?_
      refine ⟨lk 2, fun pz hpz => ?_⟩
      have s3 : Same H2 (upd H2 pz (.lst [.int 1, .int 2])) := same_upd hpz
      have hz3 : (upd H2 pz (.lst [.int 1, .int 2])) pz = some (.lst [.int 1, .int 2]) := upd_same
      generalize upd H2 pz (.lst [.int 1, .int 2]) = H3 at s3 hz3
      have npz : pz ≠ pt := fun z => by rw [z, ht2] at hpz; cases hpz
      refine ⟨pz, rfl, ⟨_, SqL.of hz3⟩, for_list (K := K) (a := pz) (xs := [.int 1, .int 2]) (fun j σ H' => ∃ (ts' : List V) (v6 : Option V), σ = [some (.ref l), some (.ref du), some (.int n), some (.ref pt), some (.int (i : Int)), some (.ref u), v6] ∧ Same H H' ∧ H' pz = some (.lst [.int 1, .int 2]) ∧ H' pt = some (.lst ts') ∧ PairsAt H' ts' (tk ++ inn pO sO j))
        ⟨ts, v6, rfl, s2.trans s3, hz3, s3 pt _ ht2, ?_⟩ (fun j σ H' _ ⟨_, _, _, _, e, _⟩ => SqL.of e) ?_ ?_⟩
      · rw [show inn pO sO 0 = [] from rfl, List.append_nil]
        exact Paired.mapP hP2 fun _ _ ⟨b, e1, e2⟩ => ⟨b, e1, s3 b _ e2⟩
      · rintro j v σ H' hj ⟨ts', w6, rfl, sJ, hzJ, htJ, hPJ⟩
        obtain ⟨sp, o, rfl, hats, hinn, hnot⟩ : ∃ (sp : Int) (o : Option Int), v = .int sp ∧ atI [.str x, optV pO, optV sO] sp = some (optV o) ∧ inn pO sO (j + 1) = inn pO sO j ++ sideO sp o ∧ ∀ p, o = some p → (sp, p) ∉ tk ++ inn pO sO j := by
          match j, hj with
          | 0, hj => cases hj; exact ⟨1, pO, rfl, at1, rfl, fun p e => by rw [show inn pO sO 0 = [] from rfl, List.append_nil]; exact no1 p e⟩
          | 1, hj => cases hj; exact ⟨2, sO, rfl, at2, rfl, no2⟩
          | j + 2, hj => cases hj
        have htl : ts'.length ≤ 210 := by
          have h1 : ts'.length = (tk ++ inn pO sO j).length := hPJ.length
          have h2 : ts.length = tk.length := hP2.length
          have h3 := inn_len pO sO j
          rw [List.length_append] at h1
          omega
        rw [hinn]
        generalize inn pO sO j = nj at *
        have hTJ : SqT K H' u [.str x, optV pO, optV sO] := SqT.of (sJ u _ hub)
        refine ⟨_, rfl, _, rfl, u, _, _, _, rfl, rfl, hTJ, hats, _, rfl, ?_⟩
        cases o with
        | none =>
          refine ifN rfl ⟨ts', _, rfl, sJ, hzJ, htJ, ?_⟩
          rw [show sideO sp none = [] from rfl, List.append_nil]
          exact hPJ
        | some p =>
          refine itN (fun z => nomatch z) ?_
          have hats : atI [.str x, optV pO, optV sO] sp = some (.int p) := hats
          refine seqCut fun U tl => ?_
          refine ⟨_, rfl, _, rfl, u, _, _, _, rfl, rfl, hTJ, hats, p, rfl, _, rfl, ifB rfl ?_⟩
          refine ⟨_, rfl, _, rfl, _, rfl, u, _, _, _, rfl, rfl, hTJ, hats, lk 2, fun t3 ht3 => ?_⟩
          have s4 : Same H' (upd H' t3 (.tup [.int sp, .int p])) := same_upd ht3
          have h4 : (upd H' t3 (.tup [.int sp, .int p])) t3 = some (.tup [.int sp, .int p]) := upd_same
          generalize upd H' t3 (.tup [.int sp, .int p]) = H4 at s4 h4
          have hP4 : PairsAt H4 ts' (tk ++ nj) := Paired.mapP hPJ fun _ _ ⟨b, e1, e2⟩ => ⟨b, e1, s4 b _ e2⟩
          have ht4 := s4 pt _ htJ
          refine ⟨_, rfl, t3, pt, sp, p, ts', rfl, rfl, h4, SqL.of ht4, pairs_none hP4 (hnot p rfl), _, rfl, ifB rfl ?_⟩
          refine tl _ _ ?_
          have hT4 : SqT K H4 u [.str x, optV pO, optV sO] := SqT.of (s4 u _ (sJ u _ hub))
          refine ⟨_, rfl, .inl ⟨rfl, _, SqL.of ht4⟩, _, rfl, _, rfl, _, rfl, u, _, _, _, rfl, rfl, hT4, hats, lk 2, fun t5 ht5 => ?_⟩
          have s5 : Same H4 (upd H4 t5 (.tup [.int sp, .int p])) := same_upd ht5
          have h5 : (upd H4 t5 (.tup [.int sp, .int p])) t5 = some (.tup [.int sp, .int p]) := upd_same
          generalize hH5 : upd H4 t5 (.tup [.int sp, .int p]) = H5 at s5 h5
          have hpt5 := s5 pt _ ht4
          have nt : ∀ (b : Addr) (vs : List V), H5 b = some (.tup vs) → b ≠ pt := fun b vs e z => by rw [z, hpt5] at e; cases e
          refine ⟨pt, ts', _, rfl, rfl, hpt5, small1000 (by omega), ?_⟩
          have s05 : Same H H5 := sJ.trans (s4.trans s5)
          refine ⟨ts' ++ [.ref t5], _, rfl, fun b o e => ?_, ?_, upd_same, ?_⟩
          · rw [upd_ne (ne_of_none e hpt)]; exact s05 b o e
          · rw [upd_ne npz]; exact (s4.trans s5) pz _ hzJ
          · rw [← List.append_assoc]
            refine paired_append (Paired.mapP hP4 fun _ _ ⟨b, e1, e2⟩ => ⟨b, e1, ?_⟩) (.cons ⟨t5, rfl, ?_⟩ .nil)
            · rw [upd_ne (nt b _ (s5 b _ e2))]; exact s5 b _ e2
            · rw [upd_ne (nt t5 _ h5)]; exact h5
      · rintro σ H' ⟨ts', w6, rfl, sJ, hzJ, htJ, hPJ⟩
        refine tl _ _ ?_
        have hTJ : SqT K H' u [.str x, optV pO, optV sO] := SqT.of (sJ u _ hub)
        have hPJ : PairsAt H' ts' (tk ++ (sideO 1 pO ++ sideO 2 sO)) := hPJ
        refine ⟨_, rfl, u, _, _, _, rfl, rfl, hTJ, at1, _, rfl, ?_⟩
        cases pO with
        | none => exact ifN rfl ⟨ts', _, _, _, rfl, sJ, htJ, hPJ⟩
        | some p =>
          obtain ⟨h0, h1⟩ := hlt1 p rfl
          refine itN (fun z => nomatch z) ?_
          refine ⟨_, rfl, u, _, _, _, rfl, rfl, hTJ, at1, p, 0, rfl, rfl, _, rfl, ifD (by omega) ?_⟩
          exact ⟨_, rfl, u, _, _, _, rfl, rfl, hTJ, at1, _, rfl, p, n, rfl, rfl, _, rfl, ifD (by omega) ⟨ts', _, _, _, rfl, sJ, htJ, hPJ⟩⟩
    · rintro σ H2 ⟨ts, v4, v5, v6, rfl, s2, ht2, hP2⟩
      exact k H2 s2
end
end Fp
namespace Fp
open PySem L2
structure StepAt (n : Int) (rows : List Row) (ms : List Int) (k : Nat) (r : Row) (l : List Str) (R R' : Rm) (d d' : Done) (x' : DoneP) (m : List IRow) (i : IRow) : Prop where
  made : R'.made = R.made ++ (m ++ [i])
  moves : ∀ q ∈ m, Move n q
  own : Own n r i
  step : stepN d r = some d'
  runN' : runN ⟨[], ms, []⟩ (rows.take (k + 1)) = some d'
  runP' : runP (startP ms) (R'.made.map toP) = some x'
  link : Link d' R' x'
  good : Good n l R'
  small : (∀ q ∈ rows, Small q) → ∀ q ∈ R'.made, SmallP (toP q)
  muls : R'.made.countP mulR ≤ rows.countP isMul
  len : R'.made.length ≤ 6 * rows.length
theorem step_at {n : Int} {rows : List Row} {ls : List (List Str)} {Rs : List Rm} {ms : List Int} (hv : Valid rows) (hT : Told rows ls) (hP : Puts n rows ls Rs) (hRl : Rs.length = rows.length) (hc : rows.countP isTake ≤ ms.length) {k : Nat} {r : Row} {l : List Str} (hr : rows[k]? = some r) (hl : ls[k]? = some l)
    {d : Done} (hd : runN ⟨[], ms, []⟩ (rows.take k) = some d) : ∃ d' x' m i, StepAt n rows ms k r l (stAt Rs k) (stAt Rs (k + 1)) d d' x' m i := by
  have hk : k < rows.length := (List.getElem?_eq_some_iff.mp hr).1
  have G := (puts_good hv hT hP k (by omega) (by omega)).congr (live_at hv hT hr hl)
  obtain ⟨m, i, e, hm, ho⟩ := put_made G (hP k r l (by omega) hr hl)
  obtain ⟨d', x', h1, h2, L⟩ := puts_link hv hT hP hc (k + 1) (by omega) (by omega)
  have htk : rows.take (k + 1) = rows.take k ++ [r] := by rw [List.take_add_one, hr]; rfl
  have hst : stepN d r = some d' := by
    have q := h1
    rw [htk, runN_snoc, hd] at q
    exact q
  have G' := puts_good hv hT hP (k + 1) (by omega) (by omega)
  have el : lvAt ls (k + 1) = l := by show ls.getD k [] = l; rw [List.getD_eq_getElem?_getD, hl]; rfl
  rw [el] at G'
  have hMk := puts_made hv hT hP (k + 1) (by omega) (by omega)
  have hln := puts_len hT.1 hP (k + 1) (by omega) (by omega)
  refine ⟨d', x', m, i, e, hm, ho, hst, h1, h2, L, G', fun hs => hMk.small fun q hq => hs q (List.take_subset _ _ hq), ?_, by omega⟩
  rw [hMk.muls]
  exact (List.take_sublist (k + 1) rows).countP_le
theorem made_pre {n : Int} {rows : List Row} {ls : List (List Str)} {Rs : List Rm} (hv : Valid rows) (hT : Told rows ls) (hP : Puts n rows ls Rs) (hRl : Rs.length = rows.length) : ∀ (e j : Nat), j + e = rows.length → ∃ t, (stAt Rs rows.length).made = (stAt Rs j).made ++ t := by
  intro e
  induction e with
  | zero => intro j h; exact ⟨[], by rw [List.append_nil, ← h, Nat.add_zero]⟩
  | succ e ih =>
    intro j h
    obtain ⟨t, ht⟩ := ih (j + 1) (by omega)
    obtain ⟨r, hr⟩ : ∃ r, rows[j]? = some r := ⟨_, List.getElem?_eq_getElem (by omega)⟩
    obtain ⟨l, hl⟩ : ∃ l, ls[j]? = some l := ⟨_, List.getElem?_eq_getElem (by rw [hT.1]; omega)⟩
    have G := (puts_good hv hT hP j (by omega) (by omega)).congr (live_at hv hT hr hl)
    obtain ⟨m, i, e2, _, _⟩ := put_made G (hP j r l (by omega) hr hl)
    exact ⟨(m ++ [i]) ++ t, by rw [ht, e2, List.append_assoc]⟩
theorem paired_take' {α β : Type} {F : α → β → Prop} : ∀ {l : List α} {m : List β} (n : Nat), Paired F l m → Paired F (l.take n) (m.take n)
  | _, _, 0, _ => by rw [List.take_zero, List.take_zero]; exact .nil
  | _, _, _ + 1, .nil => .nil
  | _, _, n + 1, .cons h t => .cons h (paired_take' n t)
theorem part_of {H : Hp} {ys : List V} {A B Cs made : List IRow} (h : IRowsAt H ys made) (e : made = A ++ (B ++ Cs)) : IRowsAt H ((ys.drop A.length).take B.length) B := by
  have q := paired_take' B.length (paired_drop A.length h)
  have e2 : (made.drop A.length).take B.length = B := by rw [e, List.drop_left, List.take_left]
  rw [e2] at q
  exact q
theorem done_bd {rows : List Row} {ms : List Int} {k : Nat} {d : Done} (hv : Valid rows) (hs : ∀ q ∈ rows, Small q) (h5 : rows.countP isMul ≤ 5) (hlen : rows.length ≤ 100) (hms : ∀ z ∈ ms, z.natAbs < 10 ^ 30) (hc : rows.countP isTake ≤ ms.length) (hk : k ≤ rows.length) (hd : runN ⟨[], ms, []⟩ (rows.take k) = some d) :
    ∃ i c, Bd d i c ∧ bits i c ≤ 100000 ∧ d.m.length ≤ 1000 ∧ d.told.length ≤ 1000 := by
  have hbd : Bd d (rows.take k).length ((rows.take k).countP isMul) := bd_run (bd_start hms) (fun q hq => hs q (List.take_subset _ _ hq)) hd
  refine ⟨_, _, hbd, ?_, ?_⟩
  · refine Nat.le_trans (bits_mono (j := 110) (d := 5) ?_ ?_) (by decide)
    · rw [List.length_take]; omega
    · exact Nat.le_trans ((List.take_sublist k rows).countP_le) h5
  · rcases run_pre hv ms k hk with ⟨d2, h2, hp⟩ | ⟨_, q⟩
    · rw [hd] at h2
      cases h2
      have h1 := hp.ml
      have h2 := hp.tl
      rw [List.length_take] at h1 h2
      omega
    · exact absurd (Nat.le_trans ((List.take_sublist k rows).countP_le) hc) (Nat.not_le.mpr q)
theorem plain_ints {l : List Int} : ∀ v ∈ l.map V.int, plainV v = true := fun v hv => by
  obtain ⟨z, _, rfl⟩ := List.mem_map.mp hv
  rfl
theorem countP_toP (l : List IRow) : (l.map toP).countP isMulP = l.countP mulR := by rw [List.countP_map]; rfl
end Fp
namespace Fp
open PySem L2
section
variable {P : Program} {w : World} {K : PySem.W.Frag} {mg : Str → Option Value} {base : Heap} {C T : Addr}
structure Six (pv pl t0 ph psh po t1 : Addr) : Prop where
  a : pv ≠ ph
  b : pv ≠ psh
  c : pl ≠ po
  d : pl ≠ t1
  e : t0 ≠ po
  f : t0 ≠ t1
theorem Six.places {H H' : Hp} {pv pl t0 ph psh po t1 : Addr} {d : Done} {x : DoneP} (s : Six pv pl t0 ph psh po t1) (hk : KeptAt H pv pl t0 d) (h : PlacesAt H ph psh po t1 x) (r : Rest H H' pv pl t0) : PlacesAt H' ph psh po t1 x :=
  ⟨⟨by rw [r ph s.a.symm (ne_of h.m hk.left (fun z => nomatch z)) (ne_of h.m hk.told (fun z => nomatch z))]; exact h.m, by rw [r po (ne_of h.left hk.m (fun z => nomatch z)) s.c.symm s.e.symm]; exact h.left, by rw [r t1 (ne_of h.told hk.m (fun z => nomatch z)) s.d.symm s.f.symm]; exact h.told, h.ne⟩,
    by rw [r psh s.b.symm (ne_of h.shelf hk.left (fun z => nomatch z)) (ne_of h.shelf hk.told (fun z => nomatch z))]; exact h.shelf, h.nes⟩
theorem Six.kept {H H' : Hp} {pv pl t0 ph psh po t1 : Addr} {d : Done} {x : DoneP} (s : Six pv pl t0 ph psh po t1) (hk : KeptAt H pv pl t0 d) (h : PlacesAt H ph psh po t1 x) (r : ∀ b o, b ≠ ph → b ≠ psh → b ≠ po → b ≠ t1 → H b = some o → H' b = some o) : KeptAt H' pv pl t0 d :=
  ⟨r pv _ s.a s.b (ne_of hk.m h.left (fun z => nomatch z)) (ne_of hk.m h.told (fun z => nomatch z)) hk.m, r pl _ (ne_of hk.left h.m (fun z => nomatch z)) (ne_of hk.left h.shelf (fun z => nomatch z)) s.c s.d hk.left, r t0 _ (ne_of hk.told h.m (fun z => nomatch z)) (ne_of hk.told h.shelf (fun z => nomatch z)) s.e s.f hk.told, hk.ne⟩
theorem KeptAt.same {H H' : Hp} {d l t : Addr} {x : Done} (h : KeptAt H d l t x) (s : Same H H') : KeptAt H' d l t x := ⟨s d _ h.m, s l _ h.left, s t _ h.told, h.ne⟩
theorem PlacesAt.same {H H' : Hp} {d sh l t : Addr} {x : DoneP} (h : PlacesAt H d sh l t x) (s : Same H H') : PlacesAt H' d sh l t x := ⟨h.toKeptAt.same s, s sh _ h.shelf, h.nes⟩
abbrev st17 (a pn pr : Addr) (way n : Int) (pm pw : Addr) (v7 v8 v9 v10 v11 v12 v13 v14 v15 v16 : Option V) : St := [some (.ref a), some (.ref pn), some (.ref pr), some (.int way), some (.int n), some (.ref pm), some (.ref pw), v7, v8, v9, v10, v11, v12, v13, v14, v15, v16]
def spLaw6 (K : PySem.W.Frag) (T : Addr) : Sp := fun vs H Q _ => ∃ (a : Addr) (ns : List Int), vs = [.ref a] ∧ SqL K H a (ns.map V.int) ∧ a ≠ T ∧ ns.length ≤ 63 ∧ Tab H T ∧ ∀ H', Q (.bl true) H'
theorem fd_law6 (B : Blt mg) (D_law_names_of : Fd P w K mg base 1 "_law_names_of" ["_law_cell"] spNamesOf) (D_law_at : Fd P w K mg base 1 "_law_at" ["_law_script", "_law_k"] (spAt K)) (D_law_rows_of : Fd P w K mg base 1 "_law_rows_of" ["_law_cells", "_law_names"] (spRows K))
    (D_law_room_for : Fd P w K mg base 1 "_law_room_for" ["_law_script", "_law_most", "_law_bound"] (spRoom K)) (D_law_comes_in : Fd P w K mg base 1 "_law_comes_in" ["_law_cell", "_law_rows"] (spComes K)) (D_law_all_needed : Fd P w K mg base 2 "_law_all_needed" ["_law_script"] (spAll K))
    (D_law_least_of : Fd P w K mg base 2 "_law_least_of" ["_law_rows"] spLeast) (D_placed : Fd P w K mg base 10 "placed" ["rows", "places"] (spPlaced C T)) (D_walk_of : Fd P w K mg base 10 "walk_of" ["rows", "places"] (spWalkOf C T)) (D_law_is_behind : Fd P w K mg base 2 "_law_is_behind" ["_law_row", "_law_places"] spBehind)
    (D_law_is_mark : Fd P w K mg base 2 "_law_is_mark" ["_law_found", "_law_start", "_law_count"] spMark) (D_law_row_done : Fd P w K mg base 2 "_law_row_done" ["_law_row", "_law_values", "_law_left", "_law_told"] spDone) (D_law_part_done : Fd P w K mg base 4 "_law_part_done" ["_law_part", "_law_row", "_law_here", "_law_shelf", "_law_left", "_law_told"] spPart)
    (D_law_needed_names : Fd P w K mg base 3 "_law_needed_names" ["_law_rows", "_law_place", "_law_names"] (spNames K)) (D_law_are_lying : Fd P w K mg base 2 "_law_are_lying" ["_law_found", "_law_due", "_law_places"] spLy) (D_law_lie_there : Fd P w K mg base 1 "_law_lie_there" ["_law_found", "_law_values", "_law_here", "_law_shelf"] spThere)
    {f : Addr} {fd : FuncData} (F : Fun K "law" "law" (top 48) f fd) : FnOk P w K mg base CX0 11 f fd ["_law_script"] (spLaw6 K T) := by
  have sc : FnScope ["_law_script", "_law_names", "_law_rows", "_law_way", "_law_places", "_law_made", "_law_found", "_law_row", "_law_values", "_law_here", "_law_shelf", "_law_left", "_law_other", "_law_told", "_law_start", "_law_k", "_law_part"] ["_law_script"] (defScope (top 48)) := ⟨rfl, rfl, rfl, by decide +kernel, rfl, by decide +kernel, by decide +kernel⟩
  refine F.ok sc (fun vs H Q E h => ?_) (fun cdv A outer s H vs Q E hr h => ?_)
  · obtain ⟨a, ns, rfl, _⟩ := h
    rfl
  · obtain ⟨a, ns, rfl, hS, haT, hlen, hT, k⟩ := h
    have hu0 : (A.deeper (PyProof.Rows.envOfC "law" (defScope (top 48)) s.heap.objs.size f cdv)).units < PySem.cLine := hr.units0
    refine ⟨_, (pss_cons (ps_set (i := 1) sc.nd rfl (Or.inl rfl) (pe_fd D_law_names_of (hr.mono (by decide)) rfl (pa_cons (pe_fd D_law_at (hr.mono (by decide)) rfl (pa_cons (pv 0) (pa_cons pe_int pa_nil))) pa_nil)))
    (pss_cons (ps_set (i := 2) sc.nd rfl (Or.inl rfl) (pe_fd D_law_rows_of (hr.mono (by decide)) rfl (pa_cons (pe_slice sl_list (pv 0) (po_some pe_int) (po_some (pe_op op_add pe_int (pe_fd D_law_room_for (hr.mono (by decide)) rfl (pa_cons (pv 0) (pa_cons pe_int (pa_cons pe_int pa_nil))))))) (pa_cons (pv 1) pa_nil))))
    (pss_cons (ps_if (pt_cmpR op_eq (pe_op op_mod (pe_fd D_law_at (hr.mono (by decide)) rfl (pa_cons (pv 0) (pa_cons pe_int pa_nil))) pe_int) pe_int (nomark _)) (pss_one (ps_asg (pe_fd D_law_all_needed (hr.mono (by decide)) rfl (pa_cons (pv 0) pa_nil)) (pg_tup rfl (pgs_cons (pg_name (i := 1) sc.nd rfl (Or.inl rfl)) (pgs_cons (pg_name (i := 2) sc.nd rfl (Or.inl rfl)) pgs_nil))))) pss_nil)
    (pss_cons (ps_set (i := 3) sc.nd rfl (Or.inl rfl) (pe_op op_fdiv (pe_fd D_law_at (hr.mono (by decide)) rfl (pa_cons (pv 0) (pa_cons pe_int pa_nil))) pe_int))
    (pss_cons (ps_set (i := 4) sc.nd rfl (Or.inl rfl) (pe_op op_add (pe_fd D_law_least_of (hr.mono (by decide)) rfl (pa_cons (pv 2) pa_nil)) (pe_ix ix_list (pe_lst (pa_cons (pe_op op_mod (pv 3) pe_int) (pa_cons (pe_op op_mod (pv 3) pe_int) pa_nil))) (pe_op op_mod (pe_op op_fdiv (pv 3) pe_int) pe_int) (fun _ _ => rfl))))
    (pss_cons (ps_set (i := 5) sc.nd rfl (Or.inl rfl) (pe_fd D_placed (hr.mono (by decide)) rfl (pa_cons (pe_callTy call_list_of rfl B.list_ bt_list (pa_cons (pv 2) pa_nil)) (pa_cons (pv 4) pa_nil))))
    (pss_cons (ps_set (i := 6) sc.nd rfl (Or.inl rfl) (pe_fd D_walk_of (hr.mono (by decide)) rfl (pa_cons (pe_callTy call_list_of rfl B.list_ bt_list (pa_cons (pv 2) pa_nil)) (pa_cons (pv 4) pa_nil))))
    (pss_cons (ps_if (PW.pt (pw_or (pt_not (pt_val (pe_callB call_isin rfl B.isinstance_ bt_isinstance (pa_cons (pv 5) (pa_cons (pe_bltn (v := .ty "list") rfl B.list_ bt_list rfl) pa_nil))))) (pw_or (pt_not (pt_val (pe_callB call_isin rfl B.isinstance_ bt_isinstance (pa_cons (pv 6) (pa_cons (pe_bltn (v := .ty "list") rfl B.list_ bt_list rfl) pa_nil))))) (pw_or1 (pt_cmpR op_ne (pe_callB call_len_seq rfl B.len_ PySem.boot_len (pa_cons (pv 6) pa_nil)) (pe_callB call_len_seq rfl B.len_ PySem.boot_len (pa_cons (pv 2) pa_nil)) (nomark _)))))) (pss_one (ps_ret pe_bl)) pss_nil)
    (pss_cons (ps_for PassesOwn.never rfl (pi_list (pv 5)) (pg_name (i := 7) sc.nd rfl (Or.inl rfl)) (pss_one (ps_if (pt_not (pt_val (pe_fd D_law_is_behind (hr.mono (by decide)) rfl (pa_cons (pv 7) (pa_cons (pv 4) pa_nil))))) (pss_one (ps_ret pe_bl)) pss_nil)))
    (pss_cons (ps_set (i := 8) sc.nd rfl (Or.inl rfl) pe_dnewK)
    (pss_cons (ps_set (i := 9) sc.nd rfl (Or.inl rfl) pe_dnewK)
    (pss_cons (ps_set (i := 10) sc.nd rfl (Or.inl rfl) pe_dnewK)
    (pss_cons (ps_set (i := 11) sc.nd rfl (Or.inl rfl) (pe_fd D_law_comes_in (hr.mono (by decide)) rfl (pa_cons (pe_fd D_law_at (hr.mono (by decide)) rfl (pa_cons (pv 0) (pa_cons pe_int pa_nil))) (pa_cons (pv 2) pa_nil))))
    (pss_cons (ps_set (i := 12) sc.nd rfl (Or.inl rfl) (pe_callTy call_list_of rfl B.list_ bt_list (pa_cons (pv 11) pa_nil)))
    (pss_cons (ps_set (i := 13) sc.nd rfl (Or.inl rfl) (pe_lst (pa_cons (pe_lst pa_nil) (pa_cons (pe_lst pa_nil) pa_nil))))
    (pss_cons (ps_set (i := 14) sc.nd rfl (Or.inl rfl) pe_int)
    (pss_cons (ps_for PassesOwn.never rfl (pi_range1 rfl B.range_ (pa_cons (pe_callB call_len_seq rfl B.len_ PySem.boot_len (pa_cons (pv 2) pa_nil)) pa_nil)) (pg_name (i := 15) sc.nd rfl (Or.inl rfl)) (pss_cons (ps_if (pt_not (pt_val (pe_fd D_law_is_mark (hr.mono (by decide)) rfl (pa_cons (pe_ix ix_list (pv 6) (pv 15) (fun _ _ => rfl)) (pa_cons (pv 14) (pa_cons (pe_callB call_len_seq rfl B.len_ PySem.boot_len (pa_cons (pv 5) pa_nil)) pa_nil)))))) (pss_one (ps_ret pe_bl)) pss_nil)
      (pss_cons (ps_set (i := 16) sc.nd rfl (Or.inl rfl) (pe_slice sl_list (pv 5) (po_some (pv 14)) (po_some (pe_ix ix_tup (pe_ix ix_list (pv 6) (pv 15) (fun _ _ => rfl)) pe_int (fun _ _ => rfl)))))
      (pss_cons (ps_set (i := 14) sc.nd rfl (Or.inl rfl) (pe_ix ix_tup (pe_ix ix_list (pv 6) (pv 15) (fun _ _ => rfl)) pe_int (fun _ _ => rfl)))
      (pss_cons (ps_expr (pe_fd D_law_row_done (hr.mono (by decide)) rfl (pa_cons (pe_ix ix_list (pv 2) (pv 15) (fun _ _ => rfl)) (pa_cons (pv 8) (pa_cons (pv 11) (pa_cons (pe_ix ix_list (pv 13) pe_int (fun _ _ => rfl)) pa_nil))))))
      (pss_cons (ps_if (pt_not (pt_val (pe_fd D_law_part_done (hr.mono (by decide)) rfl (pa_cons (pv 16) (pa_cons (pe_ix ix_list (pv 2) (pv 15) (fun _ _ => rfl)) (pa_cons (pv 9) (pa_cons (pv 10) (pa_cons (pv 12) (pa_cons (pe_ix ix_list (pv 13) pe_int (fun _ _ => rfl)) pa_nil))))))))) (pss_one (ps_ret pe_bl)) pss_nil)
      (pss_cons (ps_if (pt_not (pt_val (pe_fd D_law_are_lying (hr.mono (by decide)) rfl (pa_cons (pe_ix ix_tup (pe_ix ix_list (pv 6) (pv 15) (fun _ _ => rfl)) pe_int (fun _ _ => rfl)) (pa_cons (pe_fd D_law_needed_names (hr.mono (by decide)) rfl (pa_cons (pv 2) (pa_cons (pv 15) (pa_cons (pv 1) pa_nil)))) (pa_cons (pv 4) pa_nil)))))) (pss_one (ps_ret pe_bl)) pss_nil)
      (pss_one (ps_if (pt_not (pt_val (pe_fd D_law_lie_there (hr.mono (by decide)) rfl (pa_cons (pe_ix ix_tup (pe_ix ix_list (pv 6) (pv 15) (fun _ _ => rfl)) pe_int (fun _ _ => rfl)) (pa_cons (pv 8) (pa_cons (pv 9) (pa_cons (pv 10) pa_nil))))))) (pss_one (ps_ret pe_bl)) pss_nil)))))))))
    (pss_one (ps_ret (pe_and (pe_cmpR op_eq (pv 14) (pe_callB call_len_seq rfl B.len_ PySem.boot_len (pa_cons (pv 5) pa_nil)) (nomark _)) (pe_one (pe_cmpR (op_eqFlat hu0) (pe_ix ix_list (pv 13) pe_int (fun _ _ => rfl)) (pe_ix ix_list (pv 13) pe_int (fun _ _ => rfl)) (nomark _))))))))))))))))))))))), ?_⟩
    refine seqCut fun U tl => ?_
    refine ⟨_, rfl, a, 0, ns, rfl, hS, by decide, _, rfl, fun pn ss H1 hpn s1 hn1 hnd h1 h20 => ?_⟩
    refine tl _ _ ?_
    refine seqCut fun U tl => ?_
    refine ⟨_, rfl, _, rfl, _, rfl, a, 40, 200, _, rfl, s1.seq hS, by rw [List.length_map]; exact hlen, _, _, rfl, rfl, _, rfl, a, _, rfl, s1.seq hS, fun pc hpc => ?_⟩
    obtain ⟨cs, ecs, hcs⟩ := cut_ints ns (some 2) (some (2 + 40))
    have hcl : cs.length ≤ 40 := by
      rw [hcs, List.length_take]
      exact Nat.le_trans (Nat.min_le_left _ _) (cut_len _)
    rw [ecs]
    have hn2 : (upd H1 pc (.lst (cs.map V.int))) pn = some (.lst (ss.map V.str)) := by rw [upd_ne (ne_of_none hn1 hpc)]; exact hn1
    have s1c : Same H (upd H1 pc (.lst (cs.map V.int))) := fun b o e => by rw [upd_ne (s1.ne e hpc)]; exact s1 b o e
    refine ⟨_, rfl, pc, pn, cs, ss, rfl, SqL.of upd_same, hcl, hn2, h1, by omega, fun pr xs rows H2 hpr s2 hr2 hR hok => ?_⟩
    have sH2 : Same H H2 := s1c.trans s2
    have hnH2 := s2 pn _ hn2
    refine tl _ _ ?_
    show tSeq (tIfS _ _ _) _ _ [some (.ref a), some (.ref pn), some (.ref pr), none, none, none, none, none, none, none, none, none, none, none, none, none, none] H2
    refine seqTail (fun σ' H' => ∃ (pn pr : Addr) (ss : List Str) (xs : List V) (rows : List Row), σ' = [some (.ref a), some (.ref pn), some (.ref pr), none, none, none, none, none, none, none, none, none, none, none, none, none, none] ∧ Same H H' ∧ H' pn = some (.lst (ss.map V.str)) ∧ H' pr = some (.lst xs) ∧ RowsAt H' xs rows ∧
      Valid rows ∧ Among ss rows ∧ ss.Nodup ∧ ss.length ≤ 20 ∧ rows.length ≤ 60 ∧ (∃ mu, Numb rows mu)) ?_ ?_
    rotate_left
    · intro U tl
      refine ⟨_, rfl, a, 1, ns, rfl, sH2.seq hS, by decide, _, _, rfl, rfl, (by first | decide | (show (0 : Int) < _; decide)), rfl, _, rfl, ?_⟩
      refine iteB (fun _ => ?_) fun _ => ?_
      · refine ⟨_, rfl, a, ns, rfl, sH2.seq hS, fun t n l ss' xs' rows' H3 ht hn hl s3 ht3 hn3 hl3 hR3 hv ham hnd' h20' h60 hnb => ?_⟩
        refine ⟨t, _, rfl, SqT.of ht3, rfl, _, _, rfl, _, _, rfl, rfl, tl _ _ ⟨n, l, ss', xs', rows', rfl, sH2.trans s3, hn3, hl3, hR3, hv, ham, hnd', h20', h60, hnb⟩⟩
      · exact tl _ _ ⟨pn, pr, ss, xs, rows, rfl, sH2, hnH2, hr2, hR, hok.valid, hok.among, hnd, h20, by have := hok.few; omega, hok.numb⟩
    rintro σ' H3 ⟨pn', pr', ss', xs', rows', rfl, s3, hn3, hr3, hR3, hv, ham, hnd', h20', h60, hnb⟩
    clear hok hR hr2 hpr s2 sH2 s1c hnH2 hn2 hcs hcl ecs hpc hn1 s1 hpn
    clear hnd h1 h20 pc H1 H2
    clear tl U pn pr ss xs rows
    refine seqCut fun U tl => ?_
    refine ⟨_, rfl, a, 0, ns, rfl, s3.seq hS, by decide, _, _, rfl, rfl, ⟨by decide, by decide⟩, ?_⟩
    refine tl _ _ ?_
    show tSeq (tAsg _ _) _ _ [some (.ref a), some (.ref pn'), some (.ref pr'), some (.int (ns.getD 0 0 / 6)), none, none, none, none, none, none, none, none, none, none, none, none, none] H3
    generalize ns.getD 0 0 / 6 = way
    obtain ⟨more, hmo, hatm⟩ := at_map V.int [way % 5, way % 30] (z := way / 5 % 2) (by omega) (by simp only [List.length_cons, List.length_nil]; omega)
    have hmore : 0 ≤ more := by
      simp only [List.mem_cons, List.not_mem_nil, or_false] at hmo
      omega
    refine seqCut fun U tl => ?_
    refine ⟨_, rfl, pr', xs', rows', rfl, hr3, hR3, fun H4 s4 => ⟨_, rfl, _, _, rfl, rfl, (by first | decide | (show (0 : Int) < _; decide)), _, rfl, _, _, rfl, rfl, (by first | decide | (show (0 : Int) < _; decide)), lk 2, fun pz hpz => ⟨_, rfl, _, _, rfl, rfl, ⟨by decide, by decide⟩, _, _, rfl, rfl, (by first | decide | (show (0 : Int) < _; decide)), pz, _, _, _, rfl, rfl, SqL.of upd_same, hatm, _, _, rfl, rfl, ?_⟩⟩⟩
    have s5 : Same H4 (upd H4 pz (.lst [.int (way % 5), .int (way % 30)])) := same_upd hpz
    generalize upd H4 pz (.lst [.int (way % 5), .int (way % 30)]) = H5 at s5
    have hneed : ∀ r ∈ rows', ((needs r : Nat) : Int) ≤ ((leastOf rows' : Nat) : Int) + more := fun r hr => by
      have := least_ge hr
      omega
    refine tl _ _ ?_
    show tSeq (tAsg _ _) _ _ [some (.ref a), some (.ref pn'), some (.ref pr'), some (.int way), some (.int (((leastOf rows' : Nat) : Int) + more)), none, none, none, none, none, none, none, none, none, none, none, none] H5
    generalize ((leastOf rows' : Nat) : Int) + more = n at hneed
    have s35 : Same H3 H5 := s4.trans s5
    have hr5 := s35 pr' _ hr3
    have hn5 := s35 pn' _ hn3
    have hR5 := hR3.same s35
    have s05 : Same H H5 := s3.trans s35
    clear hmo hatm hmore hpz
    clear s35 s5 s4 H4 hR3 hr3 hn3 s3 H3
    have hxl : xs'.length = rows'.length := hR5.length
    refine seqCut fun U tl => ?_
    refine ⟨_, rfl, pr', xs', rfl, .inl (SqL.of hr5), fun ph hph => ?_⟩
    have s6 : Same H5 (upd H5 ph (.lst xs')) := same_upd hph
    have hh6 : (upd H5 ph (.lst xs')) ph = some (.lst xs') := upd_same
    generalize upd H5 ph (.lst xs') = H6 at s6 hh6
    have hT6 : Tab H6 T := tab_same hT (s05.trans s6)
    refine ⟨_, rfl, ph, n, xs', rows', ss', rfl, hh6, hR5.same s6, hv, ham, by omega, by omega, hneed, hT6, fun pm ys ls Rs H7 sp7 hT7 hpm hI hRl hTo hPu hpmn => ?_⟩
    refine tl _ _ ?_
    have sp57 : SameP T H5 H7 := (Same.p s6).trans sp7
    have hT5 : Tab H5 T := tab_same hT s05
    have hr7 : H7 pr' = some (.lst xs') := sp57 pr' _ (tab_ne hT5 hr5 (fun _ z => nomatch z)) hr5
    have hn7 : H7 pn' = some (.lst (ss'.map V.str)) := sp57 pn' _ (tab_ne hT5 hn5 (fun _ z => nomatch z)) hn5
    have hR7 : RowsAt H7 xs' rows' := rows_samep hT5 hR5 sp57
    have ha7 : SqL K H7 a (ns.map V.int) := seq_samep (s05.seq hS) sp57 haT
    refine seqCut fun U tl => ?_
    refine ⟨_, rfl, pr', xs', rfl, .inl (SqL.of hr7), fun ph2 hph2 => ?_⟩
    have s8 : Same H7 (upd H7 ph2 (.lst xs')) := same_upd hph2
    have hh8 : (upd H7 ph2 (.lst xs')) ph2 = some (.lst xs') := upd_same
    generalize upd H7 ph2 (.lst xs') = H8 at s8 hh8
    refine ⟨_, rfl, ph2, n, xs', rows', ss', rfl, hh8, hR7.same s8, hv, ham, by omega, by omega, hneed, tab_same hT7 s8, fun pm2 pw zs ls2 Rs2 H9 sp9 hT9 hpw hW hRl2 hTo2 hPu2 hpwn => ?_⟩
    refine tl _ _ ?_
    have els : ls2 = ls := hTo2.uniq hTo
    subst els
    have eRs : Rs2 = Rs := puts_det hTo.1 hPu2 hPu hRl2 hRl
    subst eRs
    have sp79 : SameP T H7 H9 := (Same.p s8).trans sp9
    have hr9 : H9 pr' = some (.lst xs') := sp79 pr' _ (tab_ne hT7 hr7 (fun _ z => nomatch z)) hr7
    have hn9 : H9 pn' = some (.lst (ss'.map V.str)) := sp79 pn' _ (tab_ne hT7 hn7 (fun _ z => nomatch z)) hn7
    have hm9 : H9 pm = some (.lst ys) := sp79 pm _ (tab_ne hT7 hpm (fun _ z => nomatch z)) hpm
    have hR9 : RowsAt H9 xs' rows' := rows_samep hT7 hR7 sp79
    have hI9 : IRowsAt H9 ys (stAt Rs2 rows'.length).made := Paired.mapP hI fun _ _ ⟨b, e1, e2⟩ => ⟨b, e1, sp79 b _ (tab_ne hT7 e2 (fun _ z => nomatch z)) e2⟩
    have ha9 : SqL K H9 a (ns.map V.int) := seq_samep ha7 sp79 haT
    clear ha7 hR7 hn7 hr7 sp79 sp9 hT9 s8 hh8 hph2 sp57 hT7 hI hpm hpmn hpwn hTo2 hPu2 hRl2
    clear sp7 hT6 hh6 s6 hph hT5 hr5 hn5 hR5 s05 hT
    clear H8 H7 H6 H5
    show tSeq (tIfS _ _ _) _ _ (st17 a pn' pr' way n pm pw none none none none none none none none none none) H9
    have hzl : zs.length = rows'.length := by
      have h1 := hW.length
      have h2 := hTo.1
      rw [List.length_zip] at h1
      omega
    refine seqCut fun U tl => ?_
    refine ⟨_, rfl, .ref pm, "list", _, true, rfl, .lst hm9, k_list_list, _, rfl, ifB rfl ?_⟩
    refine ⟨_, rfl, .ref pw, "list", _, true, rfl, .lst hpw, k_list_list, _, rfl, ifB rfl ?_⟩
    refine ⟨_, rfl, pw, _, rfl, .inl (SqL.of hpw), _, rfl, pr', _, rfl, .inl (SqL.of hr9), rfl, _, rfl, ifN (by rw [hzl, hxl]) ?_⟩
    refine tl _ _ ?_
    have hMk : MadeOk n rows' (stAt Rs2 rows'.length).made := by
      have q := puts_made hv hTo hPu rows'.length (by omega) (Nat.le_refl _)
      rwa [List.take_length] at q
    have hyl : ys.length = (stAt Rs2 rows'.length).made.length := hI9.length
    refine seqCut fun U tl => ?_
    refine ⟨_, rfl, pm, rfl, ⟨_, SqL.of hm9⟩, for_list (K := K) (a := pm) (xs := ys) (fun j σ H' => ∃ v7, σ = st17 a pn' pr' way n pm pw v7 none none none none none none none none none ∧ Same H9 H')
      ⟨none, rfl, Same.refl _⟩ (fun j σ H' _ ⟨_, _, e⟩ => SqL.of (e pm _ hm9)) ?_ ?_⟩
    · rintro j v σ H' hj ⟨v7, rfl, sJ⟩
      obtain ⟨i, hij, ra, rfl, hra⟩ := paired_get hI9 hj
      exact ⟨_, rfl, _, rfl, ra, n, i, rfl, sJ ra _ hra, hMk.ok i (List.mem_of_getElem? hij), fun H'' s'' => ⟨_, rfl, ifB rfl ⟨_, rfl, sJ.trans s''⟩⟩⟩
    rintro σ H10 ⟨v7, rfl, s10⟩
    refine tl _ _ ?_
    refine seqCut fun U tl => ?_
    refine fun pv hpv => ?_
    have s11 : Same H10 (upd H10 pv (.dK [])) := same_upd hpv
    have hv11 : (upd H10 pv (.dK [])) pv = some (.dK []) := upd_same
    generalize upd H10 pv (.dK []) = H11 at s11 hv11
    refine tl _ _ ?_
    refine seqCut fun U tl => ?_
    refine fun ph hph => ?_
    have s12 : Same H11 (upd H11 ph (.dK [])) := same_upd hph
    have hh12 : (upd H11 ph (.dK [])) ph = some (.dK []) := upd_same
    generalize upd H11 ph (.dK []) = H12 at s12 hh12
    refine tl _ _ ?_
    refine seqCut fun U tl => ?_
    refine fun psh hpsh => ?_
    have s13 : Same H12 (upd H12 psh (.dK [])) := same_upd hpsh
    have hs13 : (upd H12 psh (.dK [])) psh = some (.dK []) := upd_same
    generalize upd H12 psh (.dK []) = H13 at s13 hs13
    refine tl _ _ ?_
    have s9_11 := s10.trans s11
    have s9_12 := s9_11.trans s12
    have s9_13 := s9_12.trans s13
    refine seqCut fun U tl => ?_
    refine ⟨_, rfl, a, 1, ns, rfl, s9_13.seq ha9, by decide, _, rfl, _, pr', xs', rows', rfl, SqL.of (s9_13 pr' _ hr9), hR9.same s9_13, by omega, fun pl ms H14 hpl s14 hl14 hmsl hms => ?_⟩
    refine tl _ _ ?_
    refine seqCut fun U tl => ?_
    refine ⟨_, rfl, pl, _, rfl, .inl (SqL.of hl14), fun po hpo => ?_⟩
    have s15 : Same H14 (upd H14 po (.lst (ms.map V.int))) := same_upd hpo
    have ho15 : (upd H14 po (.lst (ms.map V.int))) po = some (.lst (ms.map V.int)) := upd_same
    generalize upd H14 po (.lst (ms.map V.int)) = H15 at s15 ho15
    refine tl _ _ ?_
    refine seqCut fun U tl => ?_
    refine ⟨(by first | decide | (show (0 : Int) < _; decide)), fun t0 ht0 => ?_⟩
    have s16 : Same H15 (upd H15 t0 (.lst [])) := same_upd ht0
    have h016 : (upd H15 t0 (.lst [])) t0 = some (.lst []) := upd_same
    generalize upd H15 t0 (.lst []) = H16 at s16 h016
    refine ⟨(by first | decide | (show (0 : Int) < _; decide)), fun t1 ht1 => ?_⟩
    have s17 : Same H16 (upd H16 t1 (.lst [])) := same_upd ht1
    have h117 : (upd H16 t1 (.lst [])) t1 = some (.lst []) := upd_same
    generalize upd H16 t1 (.lst []) = H17 at s17 h117
    refine ⟨lk 2, fun pt hpt => ?_⟩
    have s18 : Same H17 (upd H17 pt (.lst [.ref t0, .ref t1])) := same_upd hpt
    have ht18 : (upd H17 pt (.lst [.ref t0, .ref t1])) pt = some (.lst [.ref t0, .ref t1]) := upd_same
    generalize upd H17 pt (.lst [.ref t0, .ref t1]) = H18 at s18 ht18
    refine tl _ _ ?_
    refine seqCut fun U tl => ?_
    refine tl _ _ ?_
    have s9_14 := s9_13.trans s14
    have s9_15 := s9_14.trans s15
    have s9_16 := s9_15.trans s16
    have fpv : H9 pv = none := s10.free hpv
    have fph : H9 ph = none := s9_11.free hph
    have fpsh : H9 psh = none := s9_12.free hpsh
    have fpl : H9 pl = none := s9_13.free hpl
    have fpo : H9 po = none := s9_14.free hpo
    have ft0 : H9 t0 = none := s9_15.free ht0
    have ft1 : H9 t1 = none := s9_16.free ht1
    have s15_18 := (s16.trans s17).trans s18
    have s13_18 := (s14.trans s15).trans s15_18
    have hK0 : KeptAt H18 pv pl t0 ⟨[], ms, []⟩ := ⟨((s12.trans s13).trans s13_18) pv _ hv11, (s15.trans s15_18) pl _ hl14, (s17.trans s18) t0 _ h016, ne_of_none (s15 pl _ hl14) ht0⟩
    have hP0 : PlacesAt H18 ph psh po t1 (startP ms) := ⟨⟨(s13.trans s13_18) ph _ hh12, s15_18 po _ ho15, s18 t1 _ h117, ne_of_none (s16 po _ ho15) ht1⟩, s13_18 psh _ hs13, (ne_of_none hh12 hpsh).symm⟩
    have hAp : Six pv pl t0 ph psh po t1 := ⟨ne_of_none hv11 hph, ne_of_none (s12 pv _ hv11) hpsh, ne_of_none hl14 hpo, ne_of_none ((s15.trans s16) pl _ hl14) ht1, (ne_of_none ho15 ht0).symm, ne_of_none h016 ht1⟩
    have npt : pt ≠ pl ∧ pt ≠ t0 ∧ pt ≠ po ∧ pt ≠ t1 := ⟨(ne_of_none ((s15.trans (s16.trans s17)) pl _ hl14) hpt).symm, (ne_of_none (s17 t0 _ h016) hpt).symm, (ne_of_none ((s16.trans s17) po _ ho15) hpt).symm, (ne_of_none h117 hpt).symm⟩
    have s9_18 : Same H9 H18 := s9_15.trans s15_18
    clear hpv hph hpsh hpl hpo ht0 ht1 hpt hv11 hh12 hs13 hl14 ho15 h016 h117
    clear s13_18 s15_18 s9_16 s9_15 s9_14 s9_13 s9_12 s9_11 s18 s17 s16 s15 s14 s13 s12 s11 s10
    clear H17 H16 H15 H14 H13 H12 H11 H10
    obtain ⟨mu, hsm, _, _, hc5⟩ := id hnb
    have hms' : ∀ z ∈ ms, Below 100 z := fun z hz => below30 (hms z hz)
    have hct : rows'.countP isTake ≤ ms.length := by omega
    show tSeq (tFor _ _ _) _ _ (st17 a pn' pr' way n pm pw v7 (some (.ref pv)) (some (.ref ph)) (some (.ref psh)) (some (.ref pl)) (some (.ref po)) (some (.ref pt)) (some (.int 0)) none none) H18
    refine seqCut fun U tl => ?_
    refine ⟨_, rfl, pr', _, rfl, .inl (SqL.of (s9_18 pr' _ hr9)), _, rfl, by omega, by omega, ?_⟩
    rw [hxl, Int.toNat_natCast]
    refine for_range (fun j σ H' => ∃ (d : Done) (x : DoneP) (v15 v16 : Option V), σ = st17 a pn' pr' way n pm pw v7 (some (.ref pv)) (some (.ref ph)) (some (.ref psh)) (some (.ref pl)) (some (.ref po)) (some (.ref pt)) (some (.int (((stAt Rs2 j).made.length : Nat) : Int))) v15 v16 ∧
      runN ⟨[], ms, []⟩ (rows'.take j) = some d ∧ runP (startP ms) ((stAt Rs2 j).made.map toP) = some x ∧ KeptAt H' pv pl t0 d ∧ PlacesAt H' ph psh po t1 x ∧ H' pt = some (.lst [.ref t0, .ref t1]) ∧ Same H9 H')
      ⟨_, _, none, none, rfl, rfl, rfl, hK0, hP0, ht18, s9_18⟩ ?_ ?_
    · rintro i σ HA hi ⟨d, x, v15, v16, rfl, hd, hx, hK, hPl, hptA, sA⟩
      rw [Int.zero_add]
      obtain ⟨r, hr⟩ : ∃ r, rows'[i]? = some r := ⟨_, List.getElem?_eq_getElem hi⟩
      obtain ⟨l, hl⟩ : ∃ l, ls2[i]? = some l := ⟨_, List.getElem?_eq_getElem (by rw [hTo.1]; exact hi)⟩
      obtain ⟨d', x', m, iw, St⟩ := step_at hv hTo hPu hRl hct hr hl hd
      have hRi : Rs2[i]? = some (stAt Rs2 (i + 1)) := by
        show Rs2[i]? = some (Rs2.getD i R0)
        rw [List.getD_eq_getElem?_getD, List.getElem?_eq_getElem (by omega)]
        rfl
      have hzip : (Rs2.zip ls2)[i]? = some (stAt Rs2 (i + 1), l) := List.getElem?_zip_eq_some.mpr ⟨hRi, hl⟩
      obtain ⟨zv, hzi, tk, lk', us, rfl, htk, hlk, _, _, hLy⟩ := paired_get' hW hzip
      obtain ⟨rv, hri, ra, rfl, hra⟩ := paired_get' hR9 hr
      obtain ⟨tt, ht⟩ := made_pre hv hTo hPu hRl (rows'.length - (i + 1)) (i + 1) (by omega)
      have e1 : (stAt Rs2 rows'.length).made = (stAt Rs2 i).made ++ ((m ++ [iw]) ++ tt) := by rw [ht, St.made, List.append_assoc]
      have hlen1 : (stAt Rs2 (i + 1)).made.length = (stAt Rs2 i).made.length + (m ++ [iw]).length := by rw [St.made, List.length_append]
      have hlen2 : (stAt Rs2 (i + 1)).made.length ≤ ys.length := by rw [hyl, ht, List.length_append]; omega
      have hlen3 : 0 < (m ++ [iw]).length := by rw [List.length_append]; exact Nat.lt_of_lt_of_le Nat.zero_lt_one (Nat.le_add_left _ _)
      have hpart : IRowsAt H9 ((ys.drop (stAt Rs2 i).made.length).take (m ++ [iw]).length) (m ++ [iw]) := part_of hI9 e1
      have hatz : atI zs (i : Int) = some (.ref tk) := atI_nat hzi
      have hatr : atI xs' (i : Int) = some (.ref ra) := atI_nat hri
      have eall : (stAt Rs2 i).made.map toP ++ (m ++ [iw]).map toP = (stAt Rs2 (i + 1)).made.map toP := by rw [St.made]; exact (List.map_append ..).symm
      have ebd : (stAt Rs2 (i + 1)).made.length - (stAt Rs2 i).made.length = (m ++ [iw]).length := by omega
      have hN := hTo.2 i l hl
      have hll : l.length ≤ 100 := by
        have : l.length ≤ ss'.length := len_le_of_subset hN.nd fun y hy => need_mem (ham.drop _) ((hN.mem y).mp hy)
        omega
      obtain ⟨bi, bc, hbd, hbits, hbm, hbt⟩ := done_bd hv hsm hc5 (by omega) hms hct (by omega) hd
      refine seqCut fun U tl => ?_
      refine ⟨_, rfl, _, rfl, pw, _, _, _, rfl, rfl, SqL.of (sA pw _ hpw), hatz, _, rfl, _, rfl, pm, _, rfl, .inl (SqL.of (sA pm _ hm9)), tk, _, _, _, _, rfl, sA tk _ htk, ?_, ?_, _, rfl, ifB rfl ?_⟩
      · show (((stAt Rs2 i).made.length : Nat) : Int) < (((stAt Rs2 (i + 1)).made.length : Nat) : Int)
        omega
      · show (((stAt Rs2 (i + 1)).made.length : Nat) : Int) ≤ ((ys.length : Nat) : Int)
        omega
      refine tl _ _ ?_
      refine seqCut fun U tl => ?_
      refine ⟨_, rfl, _, rfl, _, rfl, _, rfl, _, rfl, pw, _, _, _, rfl, rfl, SqL.of (sA pw _ hpw), hatz, tk, _, _, _, rfl, rfl, SqT.of (sA tk _ htk), at0, _, rfl, pm, _, rfl, SqL.of (sA pm _ hm9), fun pc hpc => ?_⟩
      rw [cut_mid (by omega) hlen2, ebd]
      generalize (ys.drop (stAt Rs2 i).made.length).take (m ++ [iw]).length = yp at hpart
      have sB : Same HA (upd HA pc (.lst yp)) := same_upd hpc
      have hcB : (upd HA pc (.lst yp)) pc = some (.lst yp) := upd_same
      generalize upd HA pc (.lst yp) = HB at sB hcB
      have sB9 := sA.trans sB
      refine tl _ _ ?_
      refine seqCut fun U tl => ?_
      refine ⟨_, rfl, _, rfl, pw, _, _, _, rfl, rfl, SqL.of (sB9 pw _ hpw), hatz, tk, _, _, _, rfl, rfl, SqT.of (sB9 tk _ htk), at0, ?_⟩
      refine tl _ _ ?_
      have hKB := hK.same sB
      have hPB := hPl.same sB
      have hptB := sB pt _ hptA
      refine seqCut fun U tl => ?_
      refine ⟨_, rfl, _, rfl, pr', _, _, _, rfl, rfl, SqL.of (sB9 pr' _ hr9), hatr, _, rfl, _, rfl, _, rfl, pt, _, _, _, rfl, rfl, SqL.of hptB, at0, ra, pv, pl, t0, gr r, d, d', bi, bc, rfl, by rw [grow_gr]; exact sB9 ra _ hra, hKB, St.step, hbd, hbits, hbm, hbt, fun HC hKC hrest => ?_⟩
      refine tl _ _ ?_
      have hPC := hAp.places hKB hPB hrest
      have sC9 : Same H9 HC := fun b o e => by rw [hrest b (ne_of_none e fpv) (ne_of_none e fpl) (ne_of_none e ft0)]; exact sB9 b o e
      have hptC : HC pt = some (.lst [.ref t0, .ref t1]) := by rw [hrest pt (ne_of hptB hKB.m (fun z => nomatch z)) npt.1 npt.2.1]; exact hptB
      have hcC : HC pc = some (.lst yp) := by rw [hrest pc (ne_of hcB hKB.m (fun z => nomatch z)) (ne_of_none hK.left hpc).symm (ne_of_none hK.told hpc).symm]; exact hcB
      refine seqCut fun U tl => ?_
      refine ⟨_, rfl, _, rfl, _, rfl, pr', _, _, _, rfl, rfl, SqL.of (sC9 pr' _ hr9), hatr, _, rfl, _, rfl, _, rfl, _, rfl, pt, _, _, _, rfl, rfl, SqL.of hptC, at1, pc, ra, ph, psh, po, t1, yp, m, iw, r, n, ms, _, x, x', rfl, hcC, (ne_of_none hPl.left hpc).symm, (ne_of_none hPl.told hpc).symm, hpart.same sC9, sC9 ra _ hra, St.moves, St.own, hPC, hms', hx, ?_, ?_, ?_, ?_, fun HD hPD hrest2 => ⟨_, rfl, ifB rfl ?_⟩⟩
      · rw [eall]; exact St.runP'
      · rw [eall]
        intro q hq
        obtain ⟨q', hq', rfl⟩ := List.mem_map.mp hq
        exact St.small hsm q' hq'
      · rw [eall, List.length_map]
        have := St.len
        omega
      · rw [eall, countP_toP]
        exact Nat.le_trans St.muls hc5
      refine tl _ _ ?_
      have hKD := hAp.kept hKC hPC hrest2
      have sD9 : Same H9 HD := fun b o e => hrest2 b o (ne_of_none e fph) (ne_of_none e fpsh) (ne_of_none e fpo) (ne_of_none e ft1) (sC9 b o e)
      have hptD : HD pt = some (.lst [.ref t0, .ref t1]) := hrest2 pt _ (ne_of hptC hPC.m (fun z => nomatch z)) (ne_of hptC hPC.shelf (fun z => nomatch z)) npt.2.2.1 npt.2.2.2 hptC
      refine seqCut fun U tl => ?_
      refine ⟨_, rfl, _, rfl, pw, _, _, _, rfl, rfl, SqL.of (sD9 pw _ hpw), hatz, tk, _, _, _, rfl, rfl, SqT.of (sD9 tk _ htk), at1, _, rfl, _, rfl, _, rfl, pr', (i : Int), pn', xs', rows', ss', rfl, SqL.of (sD9 pr' _ hr9), hR9.same sD9, by omega, sD9 pn' _ hn9, hnd', ham, by omega, fun pq l' HE hpq sE hqE hN' => ?_⟩
      rw [Int.toNat_natCast] at hN'
      have el : l' = l := hN'.uniq hN
      subst el
      have sE9 := sD9.trans sE
      refine ⟨_, rfl, lk', pq, n, us, stAt Rs2 (i + 1), l', rfl, sE9 lk' _ hlk, hLy.same sE9, hqE, St.good, hN.nd, hll, fun HF sF => ⟨_, rfl, ifB rfl ?_⟩⟩
      refine tl _ _ ?_
      have sDF := sE.trans sF
      have sF9 := sE9.trans sF
      have hKF := hKD.same sDF
      have hPF := hPD.same sDF
      refine ⟨_, rfl, _, rfl, pw, _, _, _, rfl, rfl, SqL.of (sF9 pw _ hpw), hatz, tk, _, _, _, rfl, rfl, SqT.of (sF9 tk _ htk), at1, _, rfl, _, rfl, _, rfl, lk', pv, ph, psh, us, stAt Rs2 (i + 1), l', d', x', rfl, sF9 lk' _ hlk, hLy.same sF9, hKF.m, hPF.m, hPF.shelf, St.link.sim, St.good.all, ⟨_, rfl, ifB rfl ?_⟩⟩
      exact ⟨d', x', _, _, rfl, St.runN', St.runP', hKF, hPF, sDF pt _ hptD, sF9⟩
    · rintro σ HA ⟨d, x, v15, v16, rfl, hd, hx, hK, hPl, hptA, sA⟩
      refine tl _ _ ?_
      obtain ⟨d2, x2, q1, q2, L⟩ := puts_link (ns := ms) hv hTo hPu hct rows'.length (by omega) (Nat.le_refl _)
      rw [hd] at q1
      cases q1
      rw [hx] at q2
      cases q2
      have htold := hPl.told
      rw [L.told] at htold
      refine ⟨_, rfl, _, rfl, pm, _, rfl, .inl (SqL.of (sA pm _ hm9)), rfl, _, rfl, itD (by rw [hyl]) ?_⟩
      exact ⟨_, rfl, pt, _, _, _, rfl, rfl, SqL.of hptA, at0, _, rfl, pt, _, _, _, rfl, rfl, SqL.of hptA, at1, t0, t1, _, rfl, rfl, SqL.of hK.told, SqL.of htold, plain_ints, k _⟩
end
end Fp
namespace Fp
open PySem L2
theorem fn_mk {K : PySem.W.Frag} {mg : Str → Option Value} {h : Heap} {x : Str} {st : Stmt} {f : Addr} {oc : Value} {od an : Option Addr} {osl : Array (Option Value)} {kV doc pm cdv ct : Value} (X : K.In h) (G : h.Ns mainGlobals mg)
    (a : PySem.W.nsIn K mainGlobals x = some (some (.ref f))) (l : K.lookup f = some ⟨oc, od, .func (PySem.W.fnOf x x (defArgs st) (defBody st) (defScope st) .none kV doc pm an cdv ct), osl⟩) (c : PySem.W.codeIn K cdv x = true) (k : PySem.W.keepIn K (.ref f) = true) : Fn K mg x st :=
  ⟨f, _, fun_mk l c k, PySem.W.mg_of X G a⟩
theorem rk_mk {K : PySem.W.Frag} {mg : Str → Option Value} {h : Heap} {a : Addr} {od : Option Addr} {n : Nat} {t1 t2 t3 : Tok} {sl : Array (Option Value)} (X : K.In h) (G : h.Ns mainGlobals mg) (B : Blt mg)
    (e : PySem.W.nsIn K mainGlobals "RECKONING" = some (some (.ref a))) (l : K.lookup a = some ⟨.type "tuple", od, .seq #[.str "add" t1, .str "sub" t2, .str "mul" t3] n, sl⟩) : ∃ a, Rk K mg a :=
  ⟨a, B, PySem.W.mg_of X G e, fun H => .inr ⟨_, _, _, l, rfl, rfl, (by show 3 ≤ PySem.sizeLine; decide), .cons ⟨_, rfl⟩ (.cons ⟨_, rfl⟩ (.cons ⟨_, rfl⟩ .nil))⟩⟩
theorem blt_mk {K : PySem.W.Frag} {mg : Str → Option Value} {h : Heap} (X : K.In h) (G : h.Ns mainGlobals mg) (h1 : PySem.W.nsIn K mainGlobals "len" = some none) (h2 : PySem.W.nsIn K mainGlobals "sorted" = some none) (h3 : PySem.W.nsIn K mainGlobals "isinstance" = some none) (h4 : PySem.W.nsIn K mainGlobals "int" = some none)
    (h5 : PySem.W.nsIn K mainGlobals "str" = some none) (h6 : PySem.W.nsIn K mainGlobals "list" = some none) (h7 : PySem.W.nsIn K mainGlobals "tuple" = some none) (h8 : PySem.W.nsIn K mainGlobals "bool" = some none) (h9 : PySem.W.nsIn K mainGlobals "dict" = some none) (h10 : PySem.W.nsIn K mainGlobals "range" = some none)
    (h11 : PySem.W.nsIn K mainGlobals "enumerate" = some none) (h12 : PySem.W.nsIn K mainGlobals "reversed" = some none) (h13 : PySem.W.nsIn K mainGlobals "min" = some none) (h14 : PySem.W.nsIn K mainGlobals "max" = some none) : Blt mg :=
  ⟨PySem.W.mg_none_of X G h1, PySem.W.mg_none_of X G h2, PySem.W.mg_none_of X G h3, PySem.W.mg_none_of X G h4, PySem.W.mg_none_of X G h5, PySem.W.mg_none_of X G h6, PySem.W.mg_none_of X G h7, PySem.W.mg_none_of X G h8, PySem.W.mg_none_of X G h9, PySem.W.mg_none_of X G h10, PySem.W.mg_none_of X G h11, PySem.W.mg_none_of X G h12, PySem.W.mg_none_of X G h13, PySem.W.mg_none_of X G h14⟩
theorem mn_mk {K : PySem.W.Frag} {C f : Addr} {m qual : Str} {st : Stmt} {oc : Value} {od an : Option Addr} {osl : Array (Option Value)} {kV doc pm cdv ct : Value} (a : PySem.W.findIn K (.ref C) m = some (some (.ref f))) (i : PySem.W.isFn K (.ref f) = true)
    (l : K.lookup f = some ⟨oc, od, .func (PySem.W.fnOf m qual (defArgs st) (defBody st) (defScope st) .none kV doc pm an cdv ct), osl⟩) (c : PySem.W.codeIn K cdv qual = true) (k : PySem.W.keepIn K (.ref f) = true) : Mn K C m qual st := ⟨f, _, fun_mk l c k, ⟨a, i, k⟩⟩
theorem mni_mk {K : PySem.W.Frag} {C f : Addr} {qual : Str} {st : Stmt} {oc : Value} {od an : Option Addr} {osl : Array (Option Value)} {kV doc pm cdv ct : Value} (m : PySem.W.makesIn K C = true) (a : PySem.W.findIn K (.ref C) "__init__" = some (some (.ref f))) (i : PySem.W.isFn K (.ref f) = true) (kc : PySem.W.keepIn K (.ref C) = true)
    (l : K.lookup f = some ⟨oc, od, .func (PySem.W.fnOf "__init__" qual (defArgs st) (defBody st) (defScope st) .none kV doc pm an cdv ct), osl⟩) (c : PySem.W.codeIn K cdv qual = true) (k : PySem.W.keepIn K (.ref f) = true) : Mni K C qual st := ⟨f, _, fun_mk l c k, ⟨m, a, i, kc⟩⟩
theorem room_mk {K : PySem.W.Frag} {mg : Str → Option Value} {h : Heap} {C : Addr} (X : K.In h) (G : h.Ns mainGlobals mg) (a : PySem.W.nsIn K mainGlobals "Room" = some (some (.ref C))) (b : PySem.W.plainGet K C Str.empty = true) (c : PySem.W.hasDictIn K C = true) (d : PySem.W.plainOver K C = true)
    (e : PySem.W.findIn K (.ref C) "__setattr__" = some (some (.builtin "object.__setattr__"))) (n1 : PySem.W.findIn K (.ref C) "places" = some none) (n2 : PySem.W.findIn K (.ref C) "place_of" = some none) (n3 : PySem.W.findIn K (.ref C) "spot_of" = some none) (n4 : PySem.W.findIn K (.ref C) "made" = some none) : RoomC K mg C :=
  ⟨⟨b, c, d, e⟩, n1, n2, n3, n4, PySem.W.mg_of X G a⟩
theorem tab_mk {K : PySem.W.Frag} {x : Str} {f c T : Addr} {oc ec : Value} {od ed : Option Addr} {fd : FuncData} {osl esl : Array (Option Value)} {vs : Array Value} (a : PySem.W.nsIn K mainGlobals x = some (some (.ref f))) (l : K.lookup f = some ⟨oc, od, .func fd, osl⟩) (hc : fd.code = .ref c)
    (m : K.lookup c = some ⟨ec, ed, .fields vs, esl⟩) (hv : (vs[11]? : Option Value) = some (.ref T)) : PySem.W.tabIn K x = some (c, T) := by
  unfold PySem.W.tabIn
  rw [a]
  dsimp only
  rw [l]
  dsimp only
  rw [hc]
  dsimp only
  rw [m]
  dsimp only
  rw [hv]
theorem all_mk {l : PySem.W.OpenLaw} {w : World} {K : PySem.W.Frag} {mg : Str → Option Value} {h0 : Heap} {fa Cr cc T : Addr} (KX : K.In h0) (G : h0.Ns mainGlobals mg) (hfa : mg "law" = some (.ref fa)) (B : Blt mg) (RC : RoomC K mg Cr) (R : ∃ a, Rk K mg a) (ht : PySem.W.tabIn K "latest_used" = some (cc, T))
    (F_names_used : Fn K mg "names_used" (top 6)) (F_name_written : Fn K mg "name_written" (top 7)) (F_refuse_unwritten : Fn K mg "refuse_unwritten" (top 8)) (F_needed_ahead : Fn K mg "needed_ahead" (top 11)) (F_living : Fn K mg "living" (top 10)) (F_places_needed : Fn K mg "places_needed" (top 13)) (F_refuse_too_few : Fn K mg "refuse_too_few" (top 14)) (F_lowest_free : Fn K mg "lowest_free" (top 16)) (F_first_use : Fn K mg "first_use" (top 18)) (F_latest_used : Fn K mg "latest_used" (top 17)) (F_narrowed : Fn K mg "narrowed" (top 19)) (F_Room_init : Mni K Cr "Room.__init__" (inClass (top 15) 0)) (F_Room_lying : Mn K Cr "lying" "Room.lying" (inClass (top 15) 1)) (F_Room_fetch : Mn K Cr "fetch" "Room.fetch" (inClass (top 15) 2)) (F_Room_shelve : Mn K Cr "shelve" "Room.shelve" (inClass (top 15) 3)) (F_Room_keep_only : Mn K Cr "keep_only" "Room.keep_only" (inClass (top 15) 5)) (F_Room_empty_place : Mn K Cr "empty_place" "Room.empty_place" (inClass (top 15) 4)) (F_writing_row : Fn K mg "writing_row" (top 26)) (F_fetch_used : Fn K mg "fetch_used" (top 25)) (F_put_row : Fn K mg "put_row" (top 24)) (F_rows_and_walk : Fn K mg "rows_and_walk" (top 23)) (F_placed : Fn K mg "placed" (top 21)) (F_walk_of : Fn K mg "walk_of" (top 22)) (F__law_whole : Fn K mg "_law_whole" (top 28)) (F__law_at : Fn K mg "_law_at" (top 29)) (F__law_rows_of : Fn K mg "_law_rows_of" (top 30)) (F__law_names_of : Fn K mg "_law_names_of" (top 31)) (F__law_comes_in : Fn K mg "_law_comes_in" (top 32)) (F__law_uses : Fn K mg "_law_uses" (top 33)) (F__law_writes : Fn K mg "_law_writes" (top 34)) (F__law_needed : Fn K mg "_law_needed" (top 35)) (F__law_needed_names : Fn K mg "_law_needed_names" (top 36)) (F__law_reckoned : Fn K mg "_law_reckoned" (top 37)) (F__law_row_done : Fn K mg "_law_row_done" (top 38)) (F__law_is_behind : Fn K mg "_law_is_behind" (top 39)) (F__law_on_places : Fn K mg "_law_on_places" (top 40)) (F__law_are_lying : Fn K mg "_law_are_lying" (top 41)) (F__law_lie_there : Fn K mg "_law_lie_there" (top 42)) (F__law_part_done : Fn K mg "_law_part_done" (top 43)) (F__law_is_mark : Fn K mg "_law_is_mark" (top 44)) (F__law_least_of : Fn K mg "_law_least_of" (top 45)) (F__law_room_for : Fn K mg "_law_room_for" (top 46)) (F__law_all_needed : Fn K mg "_law_all_needed" (top 47)) (F_law : Fn K mg "law" (top 48)) :
    ∃ (cc T : Addr) (fd : FuncData), PySem.W.tabIn K "latest_used" = some (cc, T) ∧ (∀ (s : Shared) (v : Value), BindsTo s fd ⟨[v], []⟩ [("_law_script", v)]) ∧ ∀ base : Heap, K.In base → base.Ns mainGlobals mg → PySem.W.CodeHd base cc T → BMainH mg base → FnOk l.prog w K mg base CX0 11 fa fd ["_law_script"] (spLaw6 K T) := by
  obtain ⟨aR, RR⟩ := R
  obtain ⟨f, fd, FF, hm⟩ := id F_law.ex
  have ef : f = fa := by
    have := hm.symm.trans hfa
    cases this; rfl
  subst ef
  refine ⟨cc, T, fd, ht, ?_, fun base _ _ hCH hBM => ?_⟩
  · obtain ⟨oc, od, kV, doc, pm, an, cdv, ct, osl, rfl, lk, hcd⟩ := FF.ex
    exact fun s v => .of_eq rfl
  · have d_names_used : Fd l.prog w K mg base 1 "names_used" _ _ := fd_names_used RR F_names_used
    have d_name_written : Fd l.prog w K mg base 1 "name_written" _ _ := fd_name_written F_name_written
    have d_refuse_unwritten := fd_refuse B d_names_used d_name_written F_refuse_unwritten
    have d_needed_ahead := fd_ahead B d_names_used d_name_written F_needed_ahead
    have d_living := fd_living B d_refuse_unwritten d_needed_ahead F_living
    have d_places_needed := fd_needs B d_names_used F_places_needed
    have d_refuse_too_few := fd_few B d_places_needed F_refuse_too_few
    have d_lowest_free : Fd l.prog w K mg base 1 "lowest_free" _ _ := fd_low B F_lowest_free
    have d_first_use := fd_first B d_names_used F_first_use
    have d_latest_used := fd_latest B d_first_use hCH hBM (fun _ _ _ _ _ q1 q2 => code_of KX G ht q1 q2) F_latest_used
    have d_narrowed : Fd l.prog w K mg base 1 "narrowed" _ _ := fd_narrowed B F_narrowed
    have d_Room_init : Mi l.prog w K mg base Cr 1 _ _ := mi_init RC F_Room_init
    have d_Room_lying : Md l.prog w K mg base Cr 1 "lying" _ (spLying Cr T) := md_lying RC F_Room_lying
    have d_Room_fetch : Md l.prog w K mg base Cr 1 "fetch" _ (spFetch Cr T) := md_fetch RC F_Room_fetch
    have d_Room_shelve : Md l.prog w K mg base Cr 2 "shelve" _ (spShelve Cr T) := md_shelve B RC d_lowest_free F_Room_shelve
    have d_Room_keep_only : Md l.prog w K mg base Cr 2 "keep_only" _ (spKeep Cr T) := md_keep RC d_narrowed F_Room_keep_only
    have d_Room_empty_place : _ := md_empty B RC d_lowest_free d_latest_used d_Room_shelve F_Room_empty_place
    have d_writing_row : Fd l.prog w K mg base 1 "writing_row" _ _ := fd_writing B F_writing_row
    have d_fetch_used := fd_fetchUsed B RC d_Room_fetch d_Room_empty_place F_fetch_used
    have d_put_row := fd_put B RC d_names_used d_name_written d_fetch_used d_Room_keep_only d_Room_empty_place d_writing_row F_put_row
    have d_rows_and_walk := fd_rw B RC d_living d_refuse_too_few d_Room_init d_put_row d_Room_lying F_rows_and_walk
    have d_placed := fd_placed B d_rows_and_walk F_placed
    have d_walk_of := fd_walkof B d_rows_and_walk F_walk_of
    have d__law_whole : Fd l.prog w K mg base 1 "_law_whole" _ _ := fd_whole B F__law_whole
    have d__law_at : Fd l.prog w K mg base 1 "_law_at" _ _ := fd_at B F__law_at
    have d__law_rows_of : Fd l.prog w K mg base 1 "_law_rows_of" _ _ := fd_rows B F__law_rows_of
    have d__law_names_of : Fd l.prog w K mg base 1 "_law_names_of" _ _ := fd_names_of B F__law_names_of
    have d__law_comes_in : Fd l.prog w K mg base 1 "_law_comes_in" _ _ := fd_comes B F__law_comes_in
    have d__law_uses : Fd l.prog w K mg base 1 "_law_uses" _ _ := fd_uses B F__law_uses
    have d_uses_g := fd_usesG (P := l.prog) (w := w) (base := base) B F__law_uses
    have d__law_writes : Fd l.prog w K mg base 1 "_law_writes" _ _ := fd_writes F__law_writes
    have d__law_needed := fd_needed B d__law_uses d__law_writes F__law_needed
    have d__law_needed_names := fd_names B d__law_needed F__law_needed_names
    have d__law_reckoned : Fd l.prog w K mg base 1 "_law_reckoned" _ _ := fd_reckoned B F__law_reckoned
    have d__law_row_done := fd_done B d__law_reckoned F__law_row_done
    have d__law_is_behind := fd_behind B d__law_whole F__law_is_behind
    have d__law_on_places := fd_on B d_uses_g d__law_row_done F__law_on_places
    have d__law_are_lying := fd_lying B d__law_whole F__law_are_lying
    have d__law_lie_there : Fd l.prog w K mg base 1 "_law_lie_there" _ _ := fd_there B F__law_lie_there
    have d__law_part_done := fd_part B d__law_on_places F__law_part_done
    have d__law_is_mark := fd_mark B d__law_whole F__law_is_mark
    have d__law_least_of := fd_least B d_uses_g F__law_least_of
    have d__law_room_for : Fd l.prog w K mg base 1 "_law_room_for" _ _ := fd_room B F__law_room_for
    have d__law_all_needed := fd_all B d__law_names_of d__law_at d__law_rows_of F__law_all_needed
    exact fd_law6 B d__law_names_of d__law_at d__law_rows_of d__law_room_for d__law_comes_in d__law_all_needed d__law_least_of d_placed d_walk_of d__law_is_behind d__law_is_mark d__law_row_done d__law_part_done d__law_needed_names d__law_are_lying d__law_lie_there FF
end Fp
def PySem.W.Fast.tw9517475408019658257 : Unit := ()
def PySem.W.Fast.tw3404083119586457132 : Unit := ()
def PySem.W.Fast.tw16057431825080869194 : Unit := ()
def PySem.W.Fast.tw8453085839611048168 : Unit := ()
def PySem.W.Fast.tw754694692265983353 : Unit := ()
def PySem.W.Fast.tw13733452921883018591 : Unit := ()
def PySem.W.Fast.tw17308053779385686485 : Unit := ()
def PySem.W.Fast.tw17178615293706902976 : Unit := ()
def PySem.W.Fast.tw1246701225653676441 : Unit := ()
def PySem.W.Fast.tw7042241236379238566 : Unit := ()
def PySem.W.Fast.tw17391865984387270031 : Unit := ()
def PySem.W.Fast.tw1536266539331008922 : Unit := ()
def PySem.W.Fast.tw1456481801662996591 : Unit := ()
def PySem.W.Fast.tw3025672362946738912 : Unit := ()
def PySem.W.Fast.tw229938734096782233 : Unit := ()
def PySem.W.Fast.tw1196300035500724354 : Unit := ()
def PySem.W.Fast.tw3555309439728748223 : Unit := ()
def PySem.W.Fast.tw1281659384972702731 : Unit := ()
def PySem.W.Fast.tw17945554403219459684 : Unit := ()
def PySem.W.Fast.tw16821093439707077215 : Unit := ()
def PySem.W.Fast.tw4275905033391886742 : Unit := ()
def PySem.W.Fast.tw12354494698907388570 : Unit := ()
def PySem.W.Fast.tw5879553771737372481 : Unit := ()
def PySem.W.Fast.tw14868723230101216345 : Unit := ()
def PySem.W.Fast.tw4086966232601663065 : Unit := ()
def PySem.W.Fast.tw8067339734344930585 : Unit := ()
def PySem.W.Fast.tw15212700075760255669 : Unit := ()
def PySem.W.Fast.tw11881477313140048902 : Unit := ()
def PySem.W.Fast.tw2026677064445059658 : Unit := ()
def PySem.W.Fast.tw6641106092869909786 : Unit := ()
def PySem.W.Fast.tw13898669889625545169 : Unit := ()
def PySem.W.Fast.tw18273252057210916384 : Unit := ()
def PySem.W.Fast.tw11131693865715467378 : Unit := ()
def PySem.W.Fast.tw5651747237553547516 : Unit := ()
def PySem.W.Fast.tw4917715345401900424 : Unit := ()
def PySem.W.Fast.tw13211597271340840978 : Unit := ()
def PySem.W.Fast.tw3708699998627694561 : Unit := ()
def PySem.W.Fast.tw7052559643401814081 : Unit := ()
def PySem.W.Fast.tw534498889360785000 : Unit := ()
def PySem.W.Fast.tw6802284588692136262 : Unit := ()
def PySem.W.Fast.tw2984765673204144291 : Unit := ()
def PySem.W.Fast.tw16906405123776227660 : Unit := ()
def PySem.W.Fast.tw7620541323478623389 : Unit := ()
def PySem.W.Fast.tw9213129496735954310 : Unit := ()
def PySem.W.Fast.tw15524838572435286035 : Unit := ()
def PySem.W.Fast.tw4720816054095102724 : Unit := ()
def PySem.W.Fast.tw6730260556711204285 : Unit := ()
def PySem.W.Fast.tw17043755147365903202 : Unit := ()
def PySem.W.Fast.tw18085539321308671993 : Unit := ()
def PySem.W.Fast.tw8725807999518326714 : Unit := ()
def PySem.W.Fast.tw18396242483293020959 : Unit := ()
def PySem.W.Fast.tw9052784775790409451 : Unit := ()
def PySem.W.Fast.tw2421905764022366534 : Unit := ()
def PySem.W.Fast.tw8697527461422644891 : Unit := ()
def PySem.W.Fast.tw5841979221713152282 : Unit := ()
def PySem.W.Fast.tw18122821102336170481 : Unit := ()
def PySem.W.Fast.tw246694458766546875 : Unit := ()
def PySem.W.Fast.tw12920649727190784259 : Unit := ()
def PySem.W.Fast.tw14294382249460881122 : Unit := ()
def PySem.W.Fast.tw2200468950682688666 : Unit := ()
def PySem.W.Fast.tw16317559117614042933 : Unit := ()
def PySem.W.Fast.tw2609845741805359530 : Unit := ()
def PySem.W.Fast.tw17311580188263402014 : Unit := ()
def PySem.W.Fast.tw18036056105443224123 : Unit := ()
def PySem.W.Fast.tw14299040329245502831 : Unit := ()
def PySem.W.Fast.tw17840377666823651731 : Unit := ()
def PySem.W.Fast.tw17488367282119530676 : Unit := ()
def PySem.W.Fast.tw2715802320440719418 : Unit := ()
def PySem.W.Fast.tw2850745393370435202 : Unit := ()
def PySem.W.Fast.tw11109717631058506478 : Unit := ()
def PySem.W.Fast.tw6165043121309546599 : Unit := ()
def PySem.W.Fast.tw4244450566506944247 : Unit := ()
def PySem.W.Fast.tw2445585326461342773 : Unit := ()
def PySem.W.Fast.tw16969767953834343340 : Unit := ()
def PySem.W.Fast.tw6153957925888061096 : Unit := ()
def PySem.W.Fast.tw8045485640425453571 : Unit := ()
def PySem.W.Fast.tw15244014021643789174 : Unit := ()
def PySem.W.Fast.tw6714844254328877291 : Unit := ()
def PySem.W.Fast.tw9615506088044799915 : Unit := ()
def PySem.W.Fast.tw3923903683270219520 : Unit := ()
def PySem.W.Fast.tw12766112131133865395 : Unit := ()
def PySem.W.Fast.tw6440022172719639042 : Unit := ()
def PySem.W.Fast.tw9232167594036569883 : Unit := ()
def PySem.W.Fast.tw16710364568419082453 : Unit := ()
def PySem.W.Fast.tw5179728865788035847 : Unit := ()
def PySem.W.Fast.tw8559434060860507694 : Unit := ()
def PySem.W.Fast.tw6926719558533328634 : Unit := ()
def PySem.W.Fast.tw1274092692656162734 : Unit := ()
def PySem.W.Fast.tw6519803930546519872 : Unit := ()
def PySem.W.Fast.tw11300669507283945742 : Unit := ()
def PySem.W.Fast.tw7328157761151719324 : Unit := ()
def PySem.W.Fast.tw6187983820840953368 : Unit := ()
def PySem.W.Fast.tw17142828827516161146 : Unit := ()
def PySem.W.Fast.tw18262441898872512387 : Unit := ()
def PySem.W.Fast.tw2850485481177830675 : Unit := ()
def PySem.W.Fast.tw8281526428705024233 : Unit := ()
def PySem.W.Fast.tw10620466950338248807 : Unit := ()
def PySem.W.Fast.tw2311897001046107054 : Unit := ()
def PySem.W.Fast.tw9001800197371146693 : Unit := ()
def PySem.W.Fast.tw634600096792168955 : Unit := ()
def PySem.W.Fast.tw202781184186621788 : Unit := ()
def PySem.W.Fast.tw17109791053790335646 : Unit := ()
def PySem.W.Fast.tw2630390164148142691 : Unit := ()
def PySem.W.Fast.tw6313175615060552269 : Unit := ()
def PySem.W.Fast.tw2823862671011710586 : Unit := ()
def PySem.W.Fast.tw14071767514312891647 : Unit := ()
def PySem.W.Fast.tw14345129805624248793 : Unit := ()
def PySem.W.Fast.tw10774289521594146568 : Unit := ()
def PySem.W.Fast.tw16537311979182094549 : Unit := ()
def PySem.W.Fast.tw15277968442739873875 : Unit := ()
def PySem.W.Fast.tw7527559283935224370 : Unit := ()
def PySem.W.Fast.tw2067488832404476083 : Unit := ()
def PySem.W.Fast.tw5556583544247551166 : Unit := ()
def PySem.W.Fast.tw1157284744695199023 : Unit := ()
def PySem.W.Fast.tw7492581403236988200 : Unit := ()
def PySem.W.Fast.tw2519753330286993851 : Unit := ()
def PySem.W.Fast.tw17365347296727694382 : Unit := ()
def PySem.W.Fast.tw14742713955071391057 : Unit := ()
def PySem.W.Fast.tw15343169173246041817 : Unit := ()
def PySem.W.Fast.tw15032322140810545465 : Unit := ()
def PySem.W.Fast.tw5308280419756617898 : Unit := ()
def PySem.W.Fast.tw4648785446058425329 : Unit := ()
def PySem.W.Fast.tw14954117195053865640 : Unit := ()
def PySem.W.Fast.tw1139576277081291731 : Unit := ()
def PySem.W.Fast.tw10348831274238090607 : Unit := ()
def PySem.W.Fast.tw4071770607011865781 : Unit := ()
def PySem.W.Fast.tw7602121777203776381 : Unit := ()
def PySem.W.Fast.tw11761478661769685356 : Unit := ()
def PySem.W.Fast.tw2657542520325232755 : Unit := ()
def PySem.W.Fast.tw18305469144391293612 : Unit := ()
def PySem.W.Fast.tw7019046538683427456 : Unit := ()
def PySem.W.Fast.tw17668157067660442728 : Unit := ()
def PySem.W.Fast.tw3098575771033200542 : Unit := ()
def PySem.W.Fast.tw1149357673933493859 : Unit := ()
def PySem.W.Fast.tw17853185083041976251 : Unit := ()
def PySem.W.Fast.tw9518039401982440566 : Unit := ()
def PySem.W.Fast.tw6465922133990425194 : Unit := ()
def PySem.W.Fast.tw14915125930540991139 : Unit := ()
def PySem.W.Fast.tw15615603929283719979 : Unit := ()
def PySem.W.Fast.tw14962137152310902068 : Unit := ()
def PySem.W.Fast.tw9560586747222747316 : Unit := ()
def PySem.W.Fast.tw13979115825443522862 : Unit := ()
def PySem.W.Fast.tw10387941921797926781 : Unit := ()
def PySem.W.Fast.tw11249985265697677731 : Unit := ()
def PySem.W.Fast.tw4503970166961363502 : Unit := ()
def PySem.W.Fast.tw14096502992713019706 : Unit := ()
def PySem.W.Fast.tw11211530401137502008 : Unit := ()
def PySem.W.Fast.tw661500763040095927 : Unit := ()
def PySem.W.Fast.tw1683603783072004610 : Unit := ()
def PySem.W.Fast.tw9821034324863619220 : Unit := ()
def PySem.W.Fast.tw13487862170329582907 : Unit := ()
def PySem.W.Fast.tw8652124042127245068 : Unit := ()
def PySem.W.Fast.tw3861320359703401151 : Unit := ()
def PySem.W.Fast.tw11995066021001068660 : Unit := ()
def PySem.W.Fast.tw18218304846058738948 : Unit := ()
def PySem.W.Fast.tw4024882114296519479 : Unit := ()
def PySem.W.Fast.tw1778179629900516829 : Unit := ()
def PySem.W.Fast.tw411003175806598684 : Unit := ()
def PySem.W.Fast.tw12742289734584487136 : Unit := ()
def PySem.W.Fast.tw16157706156665695001 : Unit := ()
def PySem.W.Fast.tw770834537003744908 : Unit := ()
def PySem.W.Fast.tw13066050221164244571 : Unit := ()
def PySem.W.Fast.tw15362464250897683248 : Unit := ()
def PySem.W.Fast.tw16024658870352885047 : Unit := ()
def PySem.W.Fast.tw11369895910822796970 : Unit := ()
def PySem.W.Fast.tw17416868609324100336 : Unit := ()
def PySem.W.Fast.tw9940353778676308155 : Unit := ()
def PySem.W.Fast.tw7936750545868874731 : Unit := ()
def PySem.W.Fast.tw4858506960901148410 : Unit := ()
def PySem.W.Fast.tw5385383793228612532 : Unit := ()
def PySem.W.Fast.tw11617995022210278610 : Unit := ()
def PySem.W.Fast.tw14026787784108727099 : Unit := ()
def PySem.W.Fast.tw6640664475713786894 : Unit := ()
def PySem.W.Fast.tw15819210772606582308 : Unit := ()
def PySem.W.Fast.tw17090346981316166778 : Unit := ()
def PySem.W.Fast.tw11287515021955172860 : Unit := ()
def PySem.W.Fast.tw9366514994374894914 : Unit := ()
def PySem.W.Fast.tw1059613180929743743 : Unit := ()
def PySem.W.Fast.tw4200597268347125225 : Unit := ()
def PySem.W.Fast.tw18353998397313417919 : Unit := ()
def PySem.W.Fast.tw8095256593789644506 : Unit := ()
def PySem.W.Fast.tw192826093992798615 : Unit := ()
def PySem.W.Fast.tw16093405733829487277 : Unit := ()
def PySem.W.Fast.tw7689172453680463080 : Unit := ()
def PySem.W.Fast.tw5150397356016705720 : Unit := ()
def PySem.W.Fast.tw9260690691412241213 : Unit := ()
def PySem.W.Fast.tw1395849217156001688 : Unit := ()
def PySem.W.Fast.tw16770064133492759833 : Unit := ()
def PySem.W.Fast.tw822037835771885586 : Unit := ()
def PySem.W.Fast.tw9073540009473079816 : Unit := ()
def PySem.W.Fast.tw3359895243110899075 : Unit := ()
def PySem.W.Fast.tw8119324396964691653 : Unit := ()
def PySem.W.Fast.tw14187608165058451239 : Unit := ()
def PySem.W.Fast.tw3739868618133871253 : Unit := ()
def PySem.W.Fast.tw16542177727668741714 : Unit := ()
def PySem.W.Fast.tw5825197309686811484 : Unit := ()
def PySem.W.Fast.tw16960088861032819770 : Unit := ()
def PySem.W.Fast.tw11045178206698512919 : Unit := ()
def PySem.W.Fast.tw3969722790189084391 : Unit := ()
def PySem.W.Fast.tw1825208650004792563 : Unit := ()
open PySem PySem.W PyProof.Rows
set_option maxRecDepth 100000 in
set_option maxHeartbeats 0 in
theorem PySem.Challenge.cw_fewplaces_k06_whole_side_by_side_holds : PySem.Challenge.rw_fewplaces_k06_whole_side_by_side.Holds := by
  w_on; o_law; k_head; (case hw => w_witness2)
  k_fill
  refine L2.walk_ofT (l := PySem.Challenge.rw_fewplaces_k06_whole_side_by_side) (n := 63) (k := 11) (x := "_law_script") (y := "latest_used") (sp := fun K T => Fp.spLaw6 K T) rfl (by decide) rfl ⟨rfl, by decide, by decide⟩ (fun w h Y => PySem.W.km_in_of Y) ⟨_, rfl⟩ ?hNoT ?hFF ?hSS
  case hSS => exact fun K H a T ns hl hT hS hn => ⟨a, ns, rfl, hS, hn, hl, .inl hT, fun _ => rfl⟩
  case hNoT => intro w; exact (Eq.refl true)
  case hFF =>
    intro w mg fa h KX G hmg
    have B : L2.Blt mg := by
      refine' Fp.blt_mk KX G ?h1 ?h2 ?h3 ?h4 ?h5 ?h6 ?h7 ?h8 ?h9 ?h10 ?h11 ?h12 ?h13 ?h14
      (case h1 => k_is); (case h2 => k_is); (case h3 => k_is); (case h4 => k_is); (case h5 => k_is); (case h6 => k_is); (case h7 => k_is)
      (case h8 => k_is); (case h9 => k_is); (case h10 => k_is); (case h11 => k_is); (case h12 => k_is); (case h13 => k_is); (case h14 => k_is)
    refine' Fp.all_mk KX G hmg B ?x ?r ?t ?f_names_used ?f_name_written ?f_refuse_unwritten ?f_needed_ahead ?f_living ?f_places_needed ?f_refuse_too_few ?f_lowest_free ?f_first_use ?f_latest_used ?f_narrowed ?f_Room_init ?f_Room_lying ?f_Room_fetch ?f_Room_shelve ?f_Room_keep_only ?f_Room_empty_place ?f_writing_row ?f_fetch_used ?f_put_row ?f_rows_and_walk ?f_placed ?f_walk_of ?f__law_whole ?f__law_at ?f__law_rows_of ?f__law_names_of ?f__law_comes_in ?f__law_uses ?f__law_writes ?f__law_needed ?f__law_needed_names ?f__law_reckoned ?f__law_row_done ?f__law_is_behind ?f__law_on_places ?f__law_are_lying ?f__law_lie_there ?f__law_part_done ?f__law_is_mark ?f__law_least_of ?f__law_room_for ?f__law_all_needed ?f_law
    case x =>
      refine' Fp.room_mk KX G ?xa ?xb ?xc ?xd ?xe ?xn1 ?xn2 ?xn3 ?xn4
      (case xa => k_is)
      (case xb => first | k_is | kernel_rfl); (case xc => first | k_is | kernel_rfl); (case xd => first | k_is | kernel_rfl); (case xe => first | k_is | kernel_rfl); (case xn1 => first | k_is | kernel_rfl); (case xn2 => first | k_is | kernel_rfl); (case xn3 => first | k_is | kernel_rfl); (case xn4 => first | k_is | kernel_rfl)
    case r =>
      refine' Fp.rk_mk KX G B ?re ?rl
      (case re => k_is); (case rl => k_is)
    case t =>
      refine' Fp.tab_mk ?ta ?tl ?tc ?tm ?tv
      (case ta => k_is); (case tl => k_is); (case tc => rfl); (case tm => k_is); (case tv => rfl)
    case f_Room_init =>
      refine' Fp.mni_mk ?im ?ia ?ii ?ikc ?il ?ic ?ik
      (case im => first | k_is | kernel_rfl); (case ia => k_is); (case ii => first | k_is | kernel_rfl); (case ikc => k_is); (case il => k_is); (case ic => k_is); (case ik => k_is)
    case f_Room_lying =>
      refine' Fp.mn_mk ?am0 ?im0 ?lm0 ?cm0 ?km0
      (case am0 => k_is); (case im0 => first | k_is | kernel_rfl); (case lm0 => k_is); (case cm0 => k_is); (case km0 => k_is)
    case f_Room_fetch =>
      refine' Fp.mn_mk ?am1 ?im1 ?lm1 ?cm1 ?km1
      (case am1 => k_is); (case im1 => first | k_is | kernel_rfl); (case lm1 => k_is); (case cm1 => k_is); (case km1 => k_is)
    case f_Room_shelve =>
      refine' Fp.mn_mk ?am2 ?im2 ?lm2 ?cm2 ?km2
      (case am2 => k_is); (case im2 => first | k_is | kernel_rfl); (case lm2 => k_is); (case cm2 => k_is); (case km2 => k_is)
    case f_Room_keep_only =>
      refine' Fp.mn_mk ?am3 ?im3 ?lm3 ?cm3 ?km3
      (case am3 => k_is); (case im3 => first | k_is | kernel_rfl); (case lm3 => k_is); (case cm3 => k_is); (case km3 => k_is)
    case f_Room_empty_place =>
      refine' Fp.mn_mk ?am4 ?im4 ?lm4 ?cm4 ?km4
      (case am4 => k_is); (case im4 => first | k_is | kernel_rfl); (case lm4 => k_is); (case cm4 => k_is); (case km4 => k_is)
    all_goals
      refine' Fp.fn_mk KX G ?a ?l ?c ?k
      (case a => k_is); (case l => k_is); (case c => k_is); (case k => k_is)
