import PyProof.Rows.All
import Wide.All
import OpenK.AllK
import Wide.FinOn
import PyProof.EqAt
import PyProof.EqKinds
import PyProof.TupleCall
import KE.BitLaws
import Open.SpecLaws
import KE.OsHead
import KE.OsGo
import KE.IntBitsLaws
import PyFlatLaws
import PySem.Challenge.RW_kindshares_s01_answers
section
set_option Elab.async false
set_option linter.all false
set_option maxRecDepth 100000
namespace L2
open PySem PySem.Spec PyProof.Rows
abbrev Key := Sum Int Str
def keyIs : Key → Value → Bool
  | .inl k, v => Value.isInt k v
  | .inr x, v => Value.isStrOf x v
def keyH (w : World) : Key → Int
  | .inl k => hashInt k
  | .inr x => hashStr w x
theorem keyIs_shape : ∀ {k : Key} {v : Value}, keyIs k v = true → (∃ i t, k = Sum.inl i ∧ v = Value.int i t) ∨ (∃ x t, k = Sum.inr x ∧ v = Value.str x t)
  | .inl i, v, h => by
    obtain ⟨t, e⟩ := Value.isInt_shape (k := i) (v := v) h
    exact .inl ⟨i, t, rfl, e⟩
  | .inr x, v, h => by
    obtain ⟨t, e⟩ := Value.isStrOf_shape (x := x) (v := v) h
    exact .inr ⟨x, t, rfl, e⟩
theorem key_ll (a b : Int) : decide ((Sum.inl a : Key) = Sum.inl b) = (a == b) := by
  by_cases e : a = b
  · subst e; simp
  · have h : ¬ (Sum.inl a : Key) = Sum.inl b := fun q => e (Sum.inl.inj q)
    rw [decide_eq_false h]
    exact (beq_eq_false_iff_ne.mpr e).symm
theorem key_rr (a b : Str) : decide ((Sum.inr a : Key) = Sum.inr b) = decide (a = b) := by
  by_cases e : a = b
  · subst e; simp
  · have h : ¬ (Sum.inr a : Key) = Sum.inr b := fun q => e (Sum.inr.inj q)
    rw [decide_eq_false h, decide_eq_false e]
theorem key_lr (a : Int) (b : Str) : decide ((Sum.inl a : Key) = Sum.inr b) = false := decide_eq_false (fun q => nomatch q)
theorem key_rl (a : Str) (b : Int) : decide ((Sum.inr a : Key) = Sum.inl b) = false := decide_eq_false (fun q => nomatch q)
def mixKind (prog : Program) (w : World) : PySem.KeyKind prog w Key where
  is := keyIs
  hash := keyH w
  inj := fun v a b ha hb => by
    rcases keyIs_shape ha with ⟨i, t, rfl, rfl⟩ | ⟨x, t, rfl, rfl⟩
    · rcases keyIs_shape hb with ⟨j, u, rfl, e⟩ | ⟨y, u, rfl, e⟩
      · injection e with e1 _; rw [e1]
      · exact nomatch e
    · rcases keyIs_shape hb with ⟨j, u, rfl, e⟩ | ⟨y, u, rfl, e⟩
      · exact nomatch e
      · injection e with e1 _; rw [e1]
  byValue := fun k v h => by
    rcases keyIs_shape h with ⟨i, t, rfl, rfl⟩ | ⟨x, t, rfl, rfl⟩ <;> rfl
  pyHash := fun hv h => by
    rcases keyIs_shape hv with ⟨i, t, rfl, rfl⟩ | ⟨x, t, rfl, rfl⟩
    · exact wpAny_pyHash_int h
    · exact wpAny_pyHash_str h
  eqBool := fun hu hv h => by
    rcases keyIs_shape hu with ⟨i, t, rfl, rfl⟩ | ⟨x, t, rfl, rfl⟩
    · rcases keyIs_shape hv with ⟨j, u, rfl, rfl⟩ | ⟨y, u, rfl, rfl⟩
      · rw [key_ll] at h; exact wpAny_eqBool_int h
      · rw [key_lr] at h; exact SeqAt.EqAt.int_str i t y u _ _ _ _ h
    · rcases keyIs_shape hv with ⟨j, u, rfl, rfl⟩ | ⟨y, u, rfl, rfl⟩
      · rw [key_rl] at h; exact SeqAt.EqAt.str_int x t j u _ _ _ _ h
      · rw [key_rr] at h; exact wpAny_eqBool_str h
  «strs» := fun k x t v h => by
    rcases keyIs_shape h with ⟨i, u, rfl, e⟩ | ⟨y, u, rfl, e⟩
    · exact nomatch e
    · injection e with e1 _
      subst e1
      cases v <;> rfl
end L2
namespace L2
open PySem PySem.Spec PyProof.Rows
inductive V where
  | non | bl (b : Bool) | int (i : Int) | str (x : Str) | byt (b : Array UInt8) | flt (b : UInt64) | ref (a : Addr) | ty (n : String)
  deriving DecidableEq
def RelV : V → Value → Prop
  | .non, u => u = Value.none
  | .bl b, u => u = Value.bool b
  | .int i, u => ∃ t, u = Value.int i t
  | .str x, u => ∃ t, u = Value.str x t
  | .byt b, u => ∃ t, u = Value.bytes b t
  | .flt b, u => ∃ t, u = Value.float b t
  | .ref a, u => u = Value.ref a
  | .ty n, u => u = Value.type n
abbrev Vals : List V → List Value → Prop := Paired RelV
theorem Vals.length {xs : List V} {us : List Value} (r : Vals xs us) : xs.length = us.length := Paired.length r
theorem Vals.get : ∀ {xs : List V} {us : List Value} {i : Nat} {x : V}, Vals xs us → xs[i]? = some x → ∃ u, us[i]? = some u ∧ RelV x u
  | _, _, _, _, .nil, e => by simp at e
  | _, _, 0, _, .cons r _, e => by simp at e; subst e; exact ⟨_, rfl, r⟩
  | _, _, i + 1, x, .cons _ t, e => by
    obtain ⟨u, h1, h2⟩ := Vals.get (i := i) (x := x) t (by simpa using e)
    exact ⟨u, by simpa using h1, h2⟩
theorem Vals.set {x : V} {u : Value} (r : RelV x u) : ∀ {xs : List V} {us : List Value} (i : Nat), Vals xs us → Vals (xs.set i x) (us.set i u)
  | _, _, _, .nil => .nil
  | _, _, 0, .cons _ t => .cons r t
  | _, _, i + 1, .cons q t => .cons q (Vals.set r i t)
theorem Vals.append : ∀ {xs ys : List V} {us ws : List Value}, Vals xs us → Vals ys ws → Vals (xs ++ ys) (us ++ ws)
  | _, _, _, _, .nil, s => s
  | _, _, _, _, .cons r t, s => .cons r (Vals.append t s)
theorem Vals.take : ∀ {xs : List V} {us : List Value} (n : Nat), Vals xs us → Vals (xs.take n) (us.take n)
  | _, _, 0, _ => .nil
  | _, _, _ + 1, .nil => .nil
  | _, _, n + 1, .cons r t => .cons r (Vals.take n t)
theorem Vals.drop : ∀ {xs : List V} {us : List Value} (n : Nat), Vals xs us → Vals (xs.drop n) (us.drop n)
  | _, _, 0, r => r
  | _, _, _ + 1, .nil => .nil
  | _, _, n + 1, .cons _ t => Vals.drop n t
theorem Vals.none_of : ∀ {xs : List V} {us : List Value} {i : Nat}, Vals xs us → xs[i]? = none → us[i]? = none := fun {xs us i} r e => by
  have h1 := r.length
  have h2 : xs.length ≤ i := List.getElem?_eq_none_iff.mp e
  exact List.getElem?_eq_none_iff.mpr (by omega)
def RelO : Option V → Option Value → Prop
  | some v, some u => RelV v u
  | none, none => True
  | _, _ => False
def KV {κ : Type} : List (κ × V) → List (κ × Value) → Prop := Paired fun (p : κ × V) (q : κ × Value) => p.1 = q.1 ∧ RelV p.2 q.2
def kV : Key → V
  | .inl i => .int i
  | .inr x => .str x
inductive HO where
  | lst (xs : List V)
  | tup (xs : List V)
  | dK (kvs : List (Key × V)) | dT (kvs : List (List Key × V))
  | set (S : Int → Bool) (n : Nat)
  | ins (C dx : Addr) (fs : List (Str × V))
  | own (x : Addr)
  | xd (fs : List (Str × V))
  | met (f x : Addr)
  | rng (lo hi : Int)
  | frz (o : Obj) (u : HO)
  | tbl (ps : Array Value)
  | ext (φ : Heap → Prop)
abbrev Hp := Addr → Option HO
def upd (H : Hp) (a : Addr) (o : HO) : Hp := fun b => if b = a then some o else H b
theorem upd_same {H : Hp} {a : Addr} {o : HO} : upd H a o a = some o := by unfold upd; rw [if_pos rfl]
theorem upd_ne {H : Hp} {a b : Addr} {o : HO} (h : b ≠ a) : upd H a o b = H b := by unfold upd; rw [if_neg h]
theorem upd_upd {H : Hp} {a : Addr} {o u : HO} : upd (upd H a o) a u = upd H a u := by
  funext b; unfold upd; split <;> rfl
theorem ne_of_none {H : Hp} {a b : Addr} {o : HO} (h : H a = some o) (h' : H b = none) : a ≠ b := by
  intro e; subst e; rw [h] at h'; cases h'
section
variable (P : Program) (w : World)
def ObjOk (H : Hp) (h : Heap) (a : Addr) : HO → Prop
  | .lst xs => xs.length ≤ sizeLine ∧ ∃ (its : List Value) (n : Nat), Vals xs its ∧ h.get? a = some { cls := .type "list", data := .seq its.toArray n }
  | .tup xs => xs.length ≤ sizeLine ∧ ∃ its : List Value, Vals xs its ∧ IsTup h a its.toArray
  | .dK kvs => kvs.length ≤ sizeLine ∧ (a == sysModules) = false ∧ ∃ vs, KV kvs vs ∧ h.DictOf (mixKind P w) a vs
  | .dT kvs => kvs.length ≤ sizeLine ∧ (a == sysModules) = false ∧ ∃ xs : List (List Key × Addr × Value),
      Paired (fun (p : List Key × V) (q : List Key × Addr × Value) => p.1 = q.1 ∧ H q.2.1 = some (.tup (p.1.map kV)) ∧ RelV p.2 q.2.2) kvs xs ∧
      ∃ o es ep, h.get? a = some o ∧ o.ExactDict ∧ o.data = .dict es ep ∧ es.toList = xs.map (entryOfKey (tupleKind (mixKind P w))) ∧ (xs.map (·.1)).Nodup
  | .set S n => h.SetOf (intKind P w) a S n
  | .ins C dx fs => H dx = some (.own a) ∧ fs.length ≤ 1000 ∧ dx ≠ a ∧ h.get? a = some (PySem.W.instObj C dx) ∧
      ∃ mA, h.Ns1 dx mA ∧ (∀ f, RelO (fs.lookup f) (mA f)) ∧ PySem.Within mA (fs.map (·.1))
  | .own _ => ∃ o, h.get? a = some o
  | .xd fs => ∃ mA, h.Ns1 a mA ∧ ∀ f, RelO (fs.lookup f) (mA f)
  | .rng lo hi => ∃ t u v, h.get? a = some { cls := .type "range", data := .fields #[.int lo t, .int hi u, .int 1 v] }
  | .frz o u => h.get? a = some o ∧ ObjOk H h a u
  | .tbl ps => h.get? a = some { cls := .none, data := .fields ps }
  | .met f x => h.get? a = some (PySem.W.methodObj (.ref f) (.ref x))
  | .ext φ => φ h ∧ (∃ o, h.get? a = some o) ∧ ∀ h1 h2 : Heap, φ h1 → (∀ o, h1.get? a = some o → h2.get? a = some o) → φ h2
def HOk (H : Hp) (h : Heap) : Prop := ∀ a o, H a = some o → ObjOk P w H h a o
end
section
variable {P : Program} {w : World} {H H' : Hp} {h h' : Heap} {a : Addr} {o : HO}
theorem ObjOk.lt (x : ObjOk P w H h a o) : a < h.objs.size := by
  cases o with
  | lst xs => obtain ⟨_, _, _, _, e⟩ := x; exact Heap.lt_size e
  | tup xs => obtain ⟨_, _, _, p⟩ := x; exact p.lt
  | dK kvs => obtain ⟨_, _, _, _, o, _, _, e, _⟩ := x; exact Heap.lt_size e
  | dT kvs => obtain ⟨_, _, _, _, o, _, _, e, _⟩ := x; exact Heap.lt_size e
  | set S n => obtain ⟨o, _, _, _, e, _⟩ := x; exact Heap.lt_size e
  | ins C dx fs => obtain ⟨_, _, _, e, _⟩ := x; exact Heap.lt_size e
  | own y => obtain ⟨_, e⟩ := x; exact Heap.lt_size e
  | xd fs => obtain ⟨_, ⟨_, _, _, e, _⟩, _⟩ := x; exact Heap.lt_size e
  | rng lo hi => obtain ⟨_, _, _, e⟩ := x; exact Heap.lt_size e
  | frz ob u => obtain ⟨e, _⟩ := x; exact Heap.lt_size e
  | tbl ps => exact Heap.lt_size (show h.get? a = some _ from x)
  | met f y => exact Heap.lt_size (show h.get? a = some _ from x)
  | ext φ => obtain ⟨_, ⟨_, e⟩, _⟩ := x; exact Heap.lt_size e
theorem Paired.mapP {α β : Type} {F G : α → β → Prop} : ∀ {l₁ : List α} {l₂ : List β}, Paired F l₁ l₂ → (∀ a b, F a b → G a b) → Paired G l₁ l₂
  | _, _, .nil, _ => .nil
  | _, _, .cons r t, f => .cons (f _ _ r) (Paired.mapP t f)
theorem ObjOk.stay (x : ObjOk P w H h a o) (k : ∀ b u, (b = a ∨ H b = some (.own a)) → h.get? b = some u → h'.get? b = some u)
    (ho : ∀ b, H b = some (.own a) → H' b = some (.own a)) (ht : ∀ b xs, H b = some (.tup xs) → H' b = some (.tup xs)) : ObjOk P w H' h' a o := by
  induction o with
  | lst xs => obtain ⟨z, its, n, r, e⟩ := x; exact ⟨z, its, n, r, k _ _ (.inl rfl) e⟩
  | tup xs => obtain ⟨z, its, r, ob, e, c⟩ := x; exact ⟨z, its, r, ob, k _ _ (.inl rfl) e, c⟩
  | dK kvs => obtain ⟨z, y, vs, r, ob, es, ep, e, c⟩ := x; exact ⟨z, y, vs, r, ob, es, ep, k _ _ (.inl rfl) e, c⟩
  | dT kvs =>
    obtain ⟨z, y, xs, r, ob, es, ep, e, c⟩ := x
    exact ⟨z, y, xs, Paired.mapP r fun p q z => ⟨z.1, ht _ _ z.2.1, z.2.2⟩, ob, es, ep, k _ _ (.inl rfl) e, c⟩
  | set S n => obtain ⟨ob, es, ep, t, e, c⟩ := x; exact ⟨ob, es, ep, t, k _ _ (.inl rfl) e, c⟩
  | ins C dx fs =>
    obtain ⟨d, z, ne, e, mA, ⟨od, es, ep, e2, c⟩, r⟩ := x
    exact ⟨ho _ d, z, ne, k _ _ (.inl rfl) e, mA, ⟨od, es, ep, k _ _ (.inr d) e2, c⟩, r⟩
  | own y => obtain ⟨ob, e⟩ := x; exact ⟨ob, k _ _ (.inl rfl) e⟩
  | xd fs => obtain ⟨mA, ⟨od, es, ep, e, c⟩, r⟩ := x; exact ⟨mA, ⟨od, es, ep, k _ _ (.inl rfl) e, c⟩, r⟩
  | rng lo hi => obtain ⟨t, u, v, e⟩ := x; exact ⟨t, u, v, k _ _ (.inl rfl) e⟩
  | frz ob u ih => obtain ⟨e, q⟩ := x; exact ⟨k _ _ (.inl rfl) e, ih q⟩
  | tbl ps =>
    have e : h.get? a = some { cls := .none, data := .fields ps } := x
    show h'.get? a = some { cls := .none, data := .fields ps }
    exact k a _ (.inl rfl) e
  | met f y =>
    have e : h.get? a = some (PySem.W.methodObj (.ref f) (.ref y)) := x
    show h'.get? a = some (PySem.W.methodObj (.ref f) (.ref y))
    exact k a _ (.inl rfl) e
  | ext φ => obtain ⟨p, ⟨o, e⟩, st⟩ := x; exact ⟨st _ _ p fun o q => k _ _ (.inl rfl) q, ⟨o, k _ _ (.inl rfl) e⟩, st⟩
theorem HOk.lt (x : HOk P w H h) (e : H a = some o) : a < h.objs.size := (x a o e).lt
theorem HOk.fresh (x : HOk P w H h) (e : h.objs.size ≤ a) : H a = none := by
  cases q : H a with
  | none => rfl
  | some u => exact absurd (Nat.lt_of_lt_of_le (x.lt q) e) (Nat.lt_irrefl _)
theorem HOk.kept (x : HOk P w H h) (k : ∀ b u, h.get? b = some u → h'.get? b = some u) : HOk P w H h' := fun a o e =>
  (x a o e).stay (fun b u _ q => k b u q) (fun _ q => q) fun _ _ q => q
theorem HOk.laid (x : HOk P w H h) (k : ∀ b u, h.get? b = some u → h'.get? b = some u) (hp : h.objs.size ≤ a) (new : ObjOk P w (upd H a o) h' a o) : HOk P w (upd H a o) h' := fun b u e => by
  have hn := x.fresh hp
  by_cases hb : b = a
  · subst hb; rw [upd_same] at e; cases e; exact new
  · rw [upd_ne hb] at e
    exact (x b u e).stay (fun c v _ q => k c v q) (fun c q => by rw [upd_ne (ne_of_none q hn)]; exact q) fun c xs q => by rw [upd_ne (ne_of_none q hn)]; exact q
end
def Rd (H : Hp) (a : Addr) (u : HO) : Prop := H a = some u ∨ ∃ o, H a = some (.frz o u)
theorem Rd.of {H : Hp} {a : Addr} {u : HO} (h : H a = some u) : Rd H a u := .inl h
theorem Rd.ok {P : Program} {w : World} {H : Hp} {h : Heap} {a : Addr} {u : HO} (r : Rd H a u) (x : HOk P w H h) : ObjOk P w H h a u := by
  rcases r with r | ⟨o, r⟩
  · exact x a u r
  · obtain ⟨_, q⟩ := x a _ r
    exact q
def Mut : Option HO → Prop
  | some (.lst _) => True
  | some (.dK _) => True
  | some (.dT _) => True
  | some (.set _ _) => True
  | some (.ins _ _ _) => True
  | some (.ext _) => True
  | _ => False
section
variable {P : Program} {w : World} {H : Hp} {h h' : Heap} {x e : Addr} {o' : HO}
theorem HOk.write (ok : HOk P w H h) (mu : Mut (H x)) (he : e = x ∨ H e = some (.own x)) (k : ∀ b u, b ≠ e → h.get? b = some u → h'.get? b = some u) (heo : ∃ u, h'.get? e = some u)
    (new : ObjOk P w (upd H x o') h' x o') : HOk P w (upd H x o') h' := fun b u q => by
  have nown : ∀ c y, H c = some (.own y) → c ≠ x := fun c y r z => by subst z; rw [r] at mu; exact mu
  have ntup : ∀ c xs, H c = some (.tup xs) → c ≠ x := fun c xs r z => by subst z; rw [r] at mu; exact mu
  by_cases hb : b = x
  · subst hb; rw [upd_same] at q; cases q; exact new
  · rw [upd_ne hb] at q
    by_cases hbe : b = e
    · have q' : H b = some (.own x) := by
        rcases he with z | z
        · exact absurd (hbe.trans z) hb
        · rw [hbe]; exact z
      rw [q] at q'; cases q'
      obtain ⟨v, hv⟩ := heo
      exact ⟨v, by rw [hbe]; exact hv⟩
    · refine (ok b u q).stay (fun c v hc r => k c v ?_ r) (fun c r => by rw [upd_ne (nown c b r)]; exact r) fun c xs r => by rw [upd_ne (ntup c xs r)]; exact r
      rcases hc with rfl | hc
      · exact hbe
      · rintro rfl
        rcases he with z | z
        · exact nown c b hc z
        · rw [hc] at z; cases z; exact hb rfl
end
structure Un (fs ex : List Addr) (H H' : Hp) (h h' : Heap) : Prop where
  keep : ∀ b o, h.get? b = some o → H b = none → b ∉ fs → b ∉ ex → h'.get? b = some o
  slot : ∀ b o, h.get? b = some o → H b = none → b ∈ fs → b ∉ ex → ∃ sl, h'.get? b = some { o with slots := sl }
  free : ∀ b o, h.get? b = some o → H b = none → b ∉ ex → H' b = none
  there : ∀ b o, h.get? b = some o → b ∉ ex → ∃ o', h'.get? b = some o'
  tups : ∀ b xs, H b = some (.tup xs) → H' b = some (.tup xs)
  frzs : ∀ b o u, H b = some (.frz o u) → H' b = some (.frz o u)
  tbls : ∀ b ps, H b = some (.tbl ps) → ∃ more, H' b = some (.tbl (ps ++ more))
section
variable {fs fs' ex ex' : List Addr} {H H1 H2 : Hp} {h h1 h2 h' : Heap} {a x e : Addr} {o : HO}
theorem Un.any (u : Un fs ex H H1 h h1) {b : Addr} {ob : Obj} (q : h.get? b = some ob) (n : H b = none) (hx : b ∉ ex) : ∃ sl, h1.get? b = some { ob with slots := sl } := by
  by_cases hb : b ∈ fs
  · exact u.slot b ob q n hb hx
  · exact ⟨ob.slots, u.keep b ob q n hb hx⟩
theorem Un.trans (a : Un fs ex H H1 h h1) (b : Un fs ex H1 H2 h1 h2) : Un fs ex H H2 h h2 where
  keep := fun c ob q n hc hx => b.keep c ob (a.keep c ob q n hc hx) (a.free c ob q n hx) hc hx
  slot := fun c ob q n hc hx => by
    obtain ⟨sl, e1⟩ := a.slot c ob q n hc hx
    obtain ⟨sl', e2⟩ := b.slot c _ e1 (a.free c ob q n hx) hc hx
    exact ⟨sl', e2⟩
  free := fun c ob q n hx => by
    obtain ⟨o', e1⟩ := a.there c ob q hx
    exact b.free c o' e1 (a.free c ob q n hx) hx
  there := fun c ob q hx => by
    obtain ⟨o', e1⟩ := a.there c ob q hx
    exact b.there c o' e1 hx
  tups := fun c xs q => b.tups c xs (a.tups c xs q)
  frzs := fun c ob xs q => b.frzs c ob xs (a.frzs c ob xs q)
  tbls := fun c ps q => by
    obtain ⟨m1, e1⟩ := a.tbls c ps q
    obtain ⟨m2, e2⟩ := b.tbls c _ e1
    exact ⟨m1 ++ m2, by rw [e2, Array.append_assoc]⟩
theorem Un.kept (k : ∀ b u, h.get? b = some u → h'.get? b = some u) : Un fs ex H H h h' :=
  ⟨fun b ob q _ _ _ => k b ob q, fun b ob q _ _ _ => ⟨ob.slots, k b ob q⟩, fun _ _ _ n _ => n, fun b ob q _ => ⟨ob, k b ob q⟩, fun _ _ q => q, fun _ _ _ q => q, fun _ ps q => ⟨#[], by rw [q]; simp⟩⟩
theorem Un.refl : Un fs ex H H h h := Un.kept fun _ _ q => q
theorem Un.laid (k : ∀ b u, h.get? b = some u → h'.get? b = some u) (hp : h.objs.size ≤ a) (hn : H a = none) : Un fs ex H (upd H a o) h h' where
  keep := fun b u q _ _ _ => k b u q
  slot := fun b u q _ _ _ => ⟨u.slots, k b u q⟩
  free := fun b u q n _ => by rw [upd_ne (Nat.ne_of_lt (Nat.lt_of_lt_of_le (Heap.lt_size q) hp))]; exact n
  there := fun b u q _ => ⟨u, k b u q⟩
  tups := fun b xs q => by rw [upd_ne (ne_of_none q hn)]; exact q
  frzs := fun b u xs q => by rw [upd_ne (ne_of_none q hn)]; exact q
  tbls := fun b ps q => ⟨#[], by rw [upd_ne (ne_of_none q hn), q]; simp⟩
theorem Un.write (mu : Mut (H x)) (he : e = x ∨ H e = some (.own x)) (k : ∀ b u, b ≠ e → h.get? b = some u → h'.get? b = some u) (heo : ∃ u, h'.get? e = some u) : Un fs ex H (upd H x o) h h' := by
  have hx : ∀ b, H b = none → b ≠ x := fun b n z => by subst z; rw [n] at mu; exact mu
  have hb : ∀ b, H b = none → b ≠ e := fun b n z => by
    subst z
    rcases he with r | r
    · exact hx b n r
    · rw [n] at r; cases r
  have hm : ∀ b u, H b = some u → ¬ Mut (some u) → b ≠ x := fun b u q nm z => by subst z; rw [q] at mu; exact nm mu
  refine ⟨fun b u q n _ _ => k b u (hb b n) q, fun b u q n _ _ => ⟨u.slots, k b u (hb b n) q⟩, fun b u q n _ => by rw [upd_ne (hx b n)]; exact n, fun b u q _ => ?_,
    fun b xs q => by rw [upd_ne (hm b _ q fun z => z)]; exact q, fun b u xs q => by rw [upd_ne (hm b _ q fun z => z)]; exact q, fun b ps q => ⟨#[], by rw [upd_ne (hm b _ q fun z => z), q]; simp⟩⟩
  by_cases hbe : b = e
  · subst hbe; exact heo
  · exact ⟨u, k b u hbe q⟩
theorem Un.mono (u : Un fs ex H H1 h h1) (hs : ∀ b ∈ fs, b ∈ fs') (hx : ∀ b ∈ ex, b ∈ ex') : Un fs' ex' H H1 h h1 :=
  ⟨fun b ob q n hb he => u.keep b ob q n (fun z => hb (hs b z)) fun z => he (hx b z), fun _ _ q n _ he => u.any q n fun z => he (hx _ z), fun b ob q n he => u.free b ob q n fun z => he (hx b z), fun b ob q he => u.there b ob q fun z => he (hx b z), u.tups, u.frzs, u.tbls⟩
end
def trk (h : Heap) (H : Hp) : List Addr := (List.range h.objs.size).filter fun a => (H a).isSome
def hidT (h : Heap) (H : Hp) : Heap := PySem.W.hideAll h (trk h H)
theorem hidT_size (h : Heap) (H : Hp) : (hidT h H).objs.size = h.objs.size := PySem.W.hideAll_size _ _
theorem hidT_get {h : Heap} {H : Hp} {b : Addr} {o : Obj} (e : h.get? b = some o) (n : H b = none) : (hidT h H).get? b = some o :=
  PySem.W.hideAll_get _ e fun hm => by
    have q : (H b).isSome = true := (List.mem_filter.mp hm).2
    rw [n] at q; simp at q
theorem of_hidT {h : Heap} {H : Hp} {b : Addr} {o : Obj} (e : (hidT h H).get? b = some o) : h.get? b = some o ∧ H b = none := by
  have e' : h.get? b = some o := PySem.W.of_hideAll (trk h H) e
  refine ⟨e', ?_⟩
  cases q : H b with
  | none => rfl
  | some x =>
    have hm : b ∈ trk h H := List.mem_filter.mpr ⟨List.mem_range.mpr (Heap.lt_size e'), by simp [q]⟩
    have z : (hidT h H).get? b = none := PySem.W.hideAll_none (trk h H) hm
    rw [z] at e; cases e
def allNews (g h : Heap) (L : Addr) : List (Addr × Obj) := (List.range h.objs.size).filterMap fun a => if a = L ∨ (g.get? a).isSome = true then none else (h.get? a).map fun o => (a, o)
def rest (g h : Heap) (L d : Addr) : List (Addr × Obj) := (allNews g h L).filter fun p => decide (p.1 ≠ d)
end L2
namespace L2
open PySem PySem.Spec PyProof.Rows
structure Mod (K : PySem.W.Frag) (mg : Str → Option Value) (base : Heap) : Prop where
  kin : K.In base
  glob : base.Ns mainGlobals mg
  blt : ∃ mb, base.Ns builtinsNs mb ∧ ∀ x : Str, x ≠ "__name__" → mb x = bootBuiltins x
  nolimit : base.NoLimit
structure Cx where
  prog : Program
  w : World
  K : PySem.W.Frag
  mg : Str → Option Value
  base : Heap
  A : Around
  N : List Str
  s_0 : Shared
  H_0 : Hp
  env : Env
  outer : List Env
  stack : List Env
  ex : List Addr
  fn : Str → Bool
  calm : Bool
  pn : List (Addr × Obj)
  xe : Value → Shared → Prop
def frs (l : List Env) : List Addr := l.filterMap (·.frame)
abbrev Cx.fs (X : Cx) : List Addr := frs X.outer
def Vis (sc : Scope) (x : Str) : Prop := sc.names.lookup x = some .local ∨ sc.names.lookup x = some .cell ∨ sc.names.lookup x = some .free
def Loc (sc : Scope) (x : Str) : Prop := sc.names.lookup x = some .local ∨ sc.names.lookup x = some .cell
def Look (env : Env) (h : Heap) (m : Str → Option Value) (x : Str) (u : Value) : Prop :=
  (env.kindOf x = some .local ∧ m x = some u) ∨ ((env.kindOf x = some .cell ∨ env.kindOf x = some .free) ∧ ∃ c, env.cells.lookup x = some c ∧ h.IsCell c (some u))
structure Cx.Ok (X : Cx) : Prop where
  mod : Mod X.K X.mg X.base
  kind : X.env.scope.kind = .function
  glob : X.env.globals = mainGlobals
  blt : X.env.builtins = builtinsNs
  above : X.s_0.heap.objs.size ≤ X.env.locals
  inj : ∀ x y c, X.env.cells.lookup x = some c → X.env.cells.lookup y = some c → x = y
  has : ∀ x, (X.env.kindOf x = some .cell ∨ X.env.kindOf x = some .free) → ∃ c, X.env.cells.lookup x = some c
  cab : ∀ x c, X.fn x = true → X.env.cells.lookup x = some c → X.s_0.heap.objs.size ≤ c
  hd : X.calm = true → X.A.handled = none
  frames : X.A.frames = some X.stack
  stk : X.stack = X.outer ∨ (X.stack = X.env :: X.outer ∧ X.env.frame = some X.env.locals)
  exf : ∀ b ∈ X.ex, b ≠ X.env.locals ∧ ∀ x c, X.env.cells.lookup x = some c → c ≠ b
  bs : ∀ b o, X.base.get? b = some o → X.s_0.heap.get? b = some o ∧ X.H_0 b = none
  bsz : X.base.objs.size ≤ X.s_0.heap.objs.size
  noex : ∀ b o, X.base.get? b = some o → b ∉ X.ex
  exfs : ∀ b ∈ X.ex, b ∉ X.fs
  funs : X.s_0.heap.FunFrames X.base X.outer
  frf : ∀ b ∈ X.fs, X.H_0 b = none
structure Inv (X : Cx) (pins : List (Addr × Obj)) (σ : List (Option V)) (H : Hp) (s : Shared) : Prop where
  ok : X.Ok
  os : s.os = X.s_0.os
  bare : AllBare s.gens
  base : Un X.fs X.ex X.H_0 H X.s_0.heap s.heap
  loc : ∃ m, s.heap.Ns X.env.locals m ∧ ∀ (i : Nat) (x : Str) (v : V), X.N[i]? = some x → σ[i]? = some (some v) → Vis X.env.scope x → ∃ u, RelV v u ∧ Look X.env s.heap m x u
  cell : ∀ x c, X.env.cells.lookup x = some c → ∃ v, s.heap.IsCell c v
  free : H X.env.locals = none
  freeC : ∀ x c, X.env.cells.lookup x = some c → H c = none
  pin : ∀ p ∈ X.pn ++ pins, s.heap.get? p.1 = some p.2 ∧ H p.1 = none ∧ p.1 ≠ X.env.locals ∧ p.1 ∉ X.fs ∧ ∀ v, p.2.data ≠ .cell v
  hok : HOk X.prog X.w H s.heap
  len : σ.length = X.N.length
section
variable {X : Cx} {pins : List (Addr × Obj)} {σ : List (Option V)} {H H' : Hp} {s : Shared} {h' : Heap}
theorem Cx.Ok.nofr (ok : X.Ok) {b : Addr} {o : Obj} (e : X.base.get? b = some o) : b ∉ X.fs := fun hb => by
  have := (ok.funs.mem hb).1
  rw [e] at this; cases this
theorem Inv.bs (I : Inv X pins σ H s) : ∀ b o, X.base.get? b = some o → s.heap.get? b = some o ∧ H b = none := fun b o e =>
  ⟨I.base.keep b o (I.ok.bs b o e).1 (I.ok.bs b o e).2 (I.ok.nofr e) (I.ok.noex b o e), I.base.free b o (I.ok.bs b o e).1 (I.ok.bs b o e).2 (I.ok.noex b o e)⟩
theorem Inv.bk (I : Inv X pins σ H s) : ∀ b o, X.base.get? b = some o → s.heap.get? b = some o := fun b o e => (I.bs b o e).1
theorem Inv.mod (I : Inv X pins σ H s) : Mod X.K X.mg X.base := I.ok.mod
theorem Inv.kIn (I : Inv X pins σ H s) : X.K.In s.heap := I.ok.mod.kin.keeps I.bk
theorem Inv.nolimit (I : Inv X pins σ H s) : s.heap.NoLimit := I.ok.mod.nolimit.keeps I.bk
theorem Inv.lt (I : Inv X pins σ H s) : X.env.locals < s.heap.objs.size := let ⟨_, hn, _⟩ := I.loc; hn.lt
theorem Inv.sz (I : Inv X pins σ H s) : X.s_0.heap.objs.size ≤ s.heap.objs.size := Nat.le_trans I.ok.above (Nat.le_of_lt I.lt)
theorem Inv.nofs (I : Inv X pins σ H s) {a : Addr} (h : s.heap.objs.size ≤ a) : a ∉ X.fs := fun hb => by
  obtain ⟨_, o, ho, _⟩ := I.ok.funs.mem hb
  exact absurd (Nat.lt_of_lt_of_le (Heap.lt_size ho) (Nat.le_trans I.sz h)) (Nat.lt_irrefl _)
theorem Inv.cne (I : Inv X pins σ H s) : ∀ x c, X.env.cells.lookup x = some c → c ≠ X.env.locals := fun x c e z => by
  obtain ⟨v, o, ho, hd⟩ := I.cell x c e
  obtain ⟨m, ⟨o', es, ep, ho', hd', _⟩, _⟩ := I.loc
  rw [z, ho'] at ho; cases ho; rw [hd'] at hd; cases hd
theorem Inv.funs (I : Inv X pins σ H s) : s.heap.FunFrames X.base X.outer := by
  have all : ∀ (l : List Env), (∀ b ∈ frs l, b ∈ X.fs) → X.s_0.heap.FunFrames X.base l → s.heap.FunFrames X.base l := by
    intro l
    induction l with
    | nil => intro _ _; trivial
    | cons env r ih =>
      intro hs hl
      obtain ⟨hk, ⟨L, o, hf, hn, ho, hd⟩, hr⟩ := hl
      have hL : L ∈ X.fs := hs L (by unfold frs; rw [List.filterMap_cons, hf]; exact List.mem_cons_self)
      obtain ⟨sl, e⟩ := I.base.slot L o ho (I.ok.frf L hL) hL fun z => I.ok.exfs L z hL
      exact ⟨hk, ⟨L, _, hf, hn, e, hd⟩, ih (fun b hb => hs b (by unfold frs; rw [List.filterMap_cons, hf]; exact List.mem_cons_of_mem _ hb)) hr⟩
  exact all X.outer (fun _ hb => hb) I.ok.funs
theorem Inv.stack (I : Inv X pins σ H s) : s.heap.FunFrames X.base X.stack := by
  rcases I.ok.stk with e | ⟨e, hf⟩
  · rw [e]; exact I.funs
  · rw [e]
    obtain ⟨m, hn, _⟩ := I.loc
    refine .cons (by rw [I.ok.kind]; decide) hf hn ?_ I.funs
    exact Heap.get?_none_of_le (Nat.le_trans I.ok.bsz I.ok.above)
theorem Inv.stkSub (I : Inv X pins σ H s) : ∀ b ∈ frs X.stack, b ∈ X.env.locals :: X.fs := fun b hb => by
  rcases I.ok.stk with e | ⟨e, hf⟩
  · rw [e] at hb; exact List.mem_cons_of_mem _ hb
  · rw [e] at hb
    unfold frs at hb
    rw [List.filterMap_cons, hf] at hb
    exact hb
theorem Inv.stkFree (I : Inv X pins σ H s) : ∀ b ∈ frs X.stack, H b = none := fun b hb => by
  rcases List.mem_cons.mp (I.stkSub b hb) with e | hb
  · rw [e]; exact I.free
  · obtain ⟨_, o, ho, _⟩ := I.ok.funs.mem hb
    exact I.base.free b o ho (I.ok.frf b hb) fun z => I.ok.exfs b z hb
theorem Inv.step {g' : Array GenState} {t' : Nat} {d' : Drawn} {ch : List Addr} (I : Inv X pins σ H s)
    (hch : ∀ b ∈ ch, (b ∈ X.ex ∨ X.s_0.heap.objs.size ≤ b) ∧ b ≠ X.env.locals ∧ (∀ x c, X.env.cells.lookup x = some c → c ≠ b) ∧ ∀ p ∈ X.pn ++ pins, p.1 ≠ b)
    (keep : ∀ b o, b ≠ X.env.locals → b ∉ X.fs → b ∉ ch → s.heap.get? b = some o → H b = none → h'.get? b = some o)
    (slot : ∀ b o, b ≠ X.env.locals → b ∈ X.fs → b ∉ ch → s.heap.get? b = some o → H b = none → ∃ sl, h'.get? b = some { o with slots := sl }) (free : ∀ b o, b ∉ ch → s.heap.get? b = some o → H b = none → H' b = none)
    (there : ∀ b o, b ∉ ch → s.heap.get? b = some o → ∃ o', h'.get? b = some o')
    (tups : ∀ b xs, H b = some (.tup xs) → H' b = some (.tup xs)) (frzs : ∀ b o u, H b = some (.frz o u) → H' b = some (.frz o u)) (tbls : ∀ b ps, H b = some (.tbl ps) → ∃ more, H' b = some (.tbl (ps ++ more)))
    (ns : ∀ m, s.heap.Ns X.env.locals m → h'.Ns X.env.locals m) (hok : HOk X.prog X.w H' h') (hg : AllBare g') :
    Inv X pins σ H' { s with heap := h', gens := g', drawn := d', toks := t' } := by
  have neL : ∀ b o, X.s_0.heap.get? b = some o → b ≠ X.env.locals := fun b o e => Nat.ne_of_lt (Nat.lt_of_lt_of_le (Heap.lt_size e) I.ok.above)
  have neC : ∀ b o, X.s_0.heap.get? b = some o → b ∉ X.ex → b ∉ ch := fun b o e hx hb => by
    rcases (hch b hb).1 with z | z
    · exact hx z
    · exact absurd (Nat.lt_of_lt_of_le (Heap.lt_size e) z) (Nat.lt_irrefl _)
  have cellK : ∀ x c, X.env.cells.lookup x = some c → ∀ v, s.heap.IsCell c v → h'.IsCell c v := fun x c e v ⟨o, ho, hd⟩ => by
    have nch : c ∉ ch := fun z => (hch c z).2.2.1 x c e rfl
    by_cases hc : c ∈ X.fs
    · obtain ⟨sl, q⟩ := slot c o (I.cne x c e) hc nch ho (I.freeC x c e)
      exact ⟨_, q, hd⟩
    · exact ⟨o, keep c o (I.cne x c e) hc nch ho (I.freeC x c e), hd⟩
  refine ⟨I.ok, I.os, hg, ⟨fun b o e n hb hx => ?_, fun b o e n hb hx => ?_, fun b o e n hx => ?_, fun b o e hx => ?_, fun b xs e => tups b xs (I.base.tups b xs e), fun b o xs e => frzs b o xs (I.base.frzs b o xs e), fun b ps e => ?_⟩, ?_, fun x c e => ?_, ?_, fun x c e => ?_, fun p hp => ?_, hok, I.len⟩
  · exact keep b o (neL b o e) hb (neC b o e hx) (I.base.keep b o e n hb hx) (I.base.free b o e n hx)
  · obtain ⟨sl, e1⟩ := I.base.slot b o e n hb hx
    obtain ⟨sl', e2⟩ := slot b _ (neL b o e) hb (neC b o e hx) e1 (I.base.free b o e n hx)
    exact ⟨sl', e2⟩
  · obtain ⟨o', e1⟩ := I.base.there b o e hx
    exact free b o' (neC b o e hx) e1 (I.base.free b o e n hx)
  · obtain ⟨o', e1⟩ := I.base.there b o e hx
    exact there b o' (neC b o e hx) e1
  · obtain ⟨m1, e1⟩ := I.base.tbls b ps e
    obtain ⟨m2, e2⟩ := tbls b _ e1
    exact ⟨m1 ++ m2, by rw [e2, Array.append_assoc]⟩
  · obtain ⟨m, hn, hl⟩ := I.loc
    refine ⟨m, ns m hn, fun i x v e1 e2 e3 => ?_⟩
    obtain ⟨u, r, l⟩ := hl i x v e1 e2 e3
    refine ⟨u, r, ?_⟩
    rcases l with l | ⟨k, c, e, z⟩
    · exact .inl l
    · exact .inr ⟨k, c, e, cellK x c e _ z⟩
  · obtain ⟨v, z⟩ := I.cell x c e
    exact ⟨v, cellK x c e v z⟩
  · obtain ⟨m, ⟨o, _, _, ho, _⟩, _⟩ := I.loc
    exact free _ o (fun z => (hch _ z).2.1 rfl) ho I.free
  · obtain ⟨v, o, ho, hd⟩ := I.cell x c e
    exact free c o (fun z => (hch c z).2.2.1 x c e rfl) ho (I.freeC x c e)
  · obtain ⟨e, n, ne, nf, d⟩ := I.pin p hp
    have nch : p.1 ∉ ch := fun z => (hch p.1 z).2.2.2 p hp rfl
    exact ⟨keep p.1 p.2 ne nf nch e n, free p.1 p.2 nch e n, ne, nf, d⟩
theorem Inv.un {t' : Nat} (I : Inv X pins σ H s) (u : Un X.fs [] H H' s.heap h') (hok : HOk X.prog X.w H' h') : Inv X pins σ H' { s with heap := h', toks := t' } := by
  obtain ⟨m, ⟨o, es, ep, ho, r⟩, _⟩ := id I.loc
  obtain ⟨sl, hL⟩ := u.any ho I.free (by simp)
  exact I.step (g' := s.gens) (d' := s.drawn) (ch := []) (fun _ z => nomatch z) (fun b o _ hb _ e n => u.keep b o e n hb (by simp)) (fun b o _ hb _ e n => u.slot b o e n hb (by simp)) (fun b o _ e n => u.free b o e n (by simp)) (fun b o _ e => u.there b o e (by simp)) u.tups u.frzs u.tbls (fun m' hm => by
    obtain ⟨o', es', ep', ho', r'⟩ := hm
    rw [ho] at ho'; cases ho'
    exact ⟨_, es', ep', hL, r'⟩) hok I.bare
theorem Inv.call {g' : Array GenState} {t' : Nat} {d' : Drawn} {ch : List Addr} (I : Inv X pins σ H s) (u : Un (frs X.stack) ch H H' s.heap h') (hok : HOk X.prog X.w H' h') (hg : AllBare g')
    (hch : ∀ b ∈ ch, (b ∈ X.ex ∨ X.s_0.heap.objs.size ≤ b) ∧ b ≠ X.env.locals ∧ (∀ x c, X.env.cells.lookup x = some c → c ≠ b) ∧ ∀ p ∈ X.pn ++ pins, p.1 ≠ b) :
    Inv X pins σ H' { s with heap := h', gens := g', drawn := d', toks := t' } := by
  obtain ⟨m, ⟨o, es, ep, ho, r⟩, _⟩ := id I.loc
  obtain ⟨sl, hL⟩ := u.any ho I.free fun z => (hch _ z).2.1 rfl
  exact I.step (ch := ch) hch (fun b o hL hb hc e n => u.keep b o e n (fun z => (List.mem_cons.mp (I.stkSub b z)).elim hL hb) hc) (fun b o _ _ hc e n => u.any e n hc) (fun b o hc e n => u.free b o e n hc) (fun b o hc e => u.there b o e hc) u.tups u.frzs u.tbls (fun m' hm => by
    obtain ⟨o', es', ep', ho', r'⟩ := hm
    rw [ho] at ho'; cases ho'
    exact ⟨_, es', ep', hL, r'⟩) hok hg
theorem Inv.turned {t' : Nat} {it : Addr} (I : Inv X pins σ H s) (k : ∀ b o, b ≠ it → s.heap.get? b = some o → h'.get? b = some o) (hn : H it = none) (hL : it ≠ X.env.locals)
    (h1 : it ∈ X.ex ∨ X.s_0.heap.objs.size ≤ it) (h2 : ∀ x c, X.env.cells.lookup x = some c → c ≠ it) (h3 : ∀ p ∈ X.pn ++ pins, p.1 ≠ it) : Inv X pins σ H { s with heap := h', toks := t' } := by
  have nit : ∀ b u, H b = some u → b ≠ it := fun b u e z => by rw [z, hn] at e; cases e
  refine I.step (g' := s.gens) (d' := s.drawn) (ch := [it]) (fun b hb => ?_) (fun b o _ _ hc e _ => k b o (fun z => hc (by simp [z])) e) (fun b o _ _ hc e _ => ⟨o.slots, k b o (fun z => hc (by simp [z])) e⟩) (fun _ _ _ _ n => n)
    (fun b o hc e => ⟨o, k b o (fun z => hc (by simp [z])) e⟩) (fun _ _ e => e) (fun _ _ _ e => e) (fun b ps e => ⟨#[], by rw [e]; simp⟩) (fun m hm => ?_) (fun b u e => ?_) I.bare
  · have e : b = it := by simpa using hb
    subst e
    exact ⟨h1, hL, h2, h3⟩
  · obtain ⟨o, es, ep, ho, r⟩ := hm
    exact ⟨o, es, ep, k _ o (Ne.symm hL) ho, r⟩
  · refine (I.hok b u e).stay (fun c v hc q => k c v ?_ q) (fun _ q => q) fun _ _ q => q
    rcases hc with z | z
    · rw [z]; exact nit b u e
    · exact nit c _ z
theorem Inv.tok (I : Inv X pins σ H s) (t : Nat) : Inv X pins σ H { s with toks := t } := I.un (h' := s.heap) (t' := t) Un.refl I.hok
theorem Inv.kept {t' : Nat} (I : Inv X pins σ H s) (k : ∀ b u, s.heap.get? b = some u → h'.get? b = some u) : Inv X pins σ H { s with heap := h', toks := t' } := I.un (Un.kept k) (I.hok.kept k)
theorem Inv.laid {a : Addr} {o : HO} {t' : Nat} (I : Inv X pins σ H s) (k : ∀ b u, s.heap.get? b = some u → h'.get? b = some u) (hp : s.heap.objs.size ≤ a) (new : ObjOk X.prog X.w (upd H a o) h' a o) :
    Inv X pins σ (upd H a o) { s with heap := h', toks := t' } := I.un (Un.laid k hp (I.hok.fresh hp)) (I.hok.laid k hp new)
theorem Inv.write {x e : Addr} {o : HO} {t' : Nat} (I : Inv X pins σ H s) (mu : Mut (H x)) (he : e = x ∨ H e = some (.own x)) (k : ∀ b u, b ≠ e → s.heap.get? b = some u → h'.get? b = some u) (heo : ∃ u, h'.get? e = some u)
    (new : ObjOk X.prog X.w (upd H x o) h' x o) : Inv X pins σ (upd H x o) { s with heap := h', toks := t' } := I.un (Un.write mu he k heo) (I.hok.write mu he k heo new)
theorem Inv.weak {σ' : List (Option V)} (I : Inv X pins σ H s) (hl : σ'.length = σ.length) (w : ∀ (i : Nat) v, σ'[i]? = some (some v) → σ[i]? = some (some v)) : Inv X pins σ' H s :=
  ⟨I.ok, I.os, I.bare, I.base, let ⟨m, hn, hl'⟩ := I.loc; ⟨m, hn, fun i x v e1 e2 e3 => hl' i x v e1 (w i v e2) e3⟩, I.cell, I.free, I.freeC, I.pin, I.hok, hl.trans I.len⟩
theorem Inv.pins_of {pins' : List (Addr × Obj)} (I : Inv X pins σ H s) (h : ∀ p ∈ pins', s.heap.get? p.1 = some p.2 ∧ H p.1 = none ∧ p.1 ≠ X.env.locals ∧ p.1 ∉ X.fs ∧ ∀ v, p.2.data ≠ .cell v) : Inv X pins' σ H s :=
  ⟨I.ok, I.os, I.bare, I.base, I.loc, I.cell, I.free, I.freeC, fun p hp => (List.mem_append.mp hp).elim (fun z => I.pin p (List.mem_append_left _ z)) (h p), I.hok, I.len⟩
theorem nodup_ix {N : List Str} (hN : N.Nodup) {i j : Nat} {x : Str} (a : N[i]? = some x) (b : N[j]? = some x) : i = j := by
  obtain ⟨h1, e1⟩ := List.getElem?_eq_some_iff.mp a
  obtain ⟨h2, e2⟩ := List.getElem?_eq_some_iff.mp b
  exact (List.getElem_inj hN).mp (e1.trans e2.symm)
theorem store_ok2 {M : Model} {A : Around} {E : Value → Shared → Prop} {i : Nat} {x : Str} {v : V} {u : Value} {Q : Unit → Shared → Prop} (I : Inv X pins σ H s) (hN : X.N.Nodup) (hi : X.N[i]? = some x) (hx : Loc X.env.scope x) (r : RelV v u)
    (h : ∀ s', Inv X pins (σ.set i (some v)) H s' → (∃ a, Heap.SameBut a s.heap s'.heap ∧ (a = X.env.locals ∨ X.env.cells.lookup x = some a)) → Q () s') (hf : X.fn x = true ∨ X.env.scope.names.lookup x = some .local := by first | exact .inl rfl | exact .inr rfl | assumption) : wpAny M A (storeName X.env x u) Q E s := by
  obtain ⟨m, hn, hl⟩ := id I.loc
  have hcls : (X.env.scope.kind == .class || (X.env.scope.kind == .module && X.env.locals != X.env.globals)) = false := by rw [I.ok.kind]; rfl
  have hiσ : i < σ.length := by rw [I.len]; exact (List.getElem?_eq_some_iff.mp hi).1
  have cne := I.cne
  have tracked : ∀ {a : Addr} {h' : Heap}, (∃ o, s.heap.get? a = some o ∧ H a = none) → Heap.SameBut a s.heap h' → HOk X.prog X.w H h' := fun {a h'} ha hs b ob e => by
    obtain ⟨_, _, hfree⟩ := ha
    refine (I.hok b ob e).stay (fun c w' hc q => (hs.2 c ?_).trans q) (fun _ q => q) fun _ _ q => q
    rintro rfl
    rcases hc with rfl | hc
    · rw [hfree] at e; cases e
    · rw [hfree] at hc; cases hc
  rcases hx with hk | hk
  · refine wpAny_storeName_local hk hn (fun h' hn' hs => ?_) hcls
    obtain ⟨oL, _, _, hoL, _⟩ := id hn
    refine h _ ⟨I.ok, I.os, I.bare, ⟨fun b o e n hb hx => ?_, fun b o e n hb hx => ?_, I.base.free, fun b o e hx => ?_, I.base.tups, I.base.frzs, I.base.tbls⟩, ⟨_, hn', fun j y v' e1 e2 e3 => ?_⟩, fun y c e => ?_, I.free, I.freeC, fun p hp => ?_, tracked ⟨oL, hoL, I.free⟩ hs, by simpa using I.len⟩ ⟨_, hs, .inl rfl⟩
    · exact (hs.2 b (Nat.ne_of_lt (Nat.lt_of_lt_of_le (Heap.lt_size e) I.ok.above))).trans (I.base.keep b o e n hb hx)
    · obtain ⟨sl, e1⟩ := I.base.slot b o e n hb hx
      exact ⟨sl, (hs.2 b (Nat.ne_of_lt (Nat.lt_of_lt_of_le (Heap.lt_size e) I.ok.above))).trans e1⟩
    · obtain ⟨o', e1⟩ := I.base.there b o e hx
      exact ⟨o', (hs.2 b (Nat.ne_of_lt (Nat.lt_of_lt_of_le (Heap.lt_size e) I.ok.above))).trans e1⟩
    · by_cases hj : j = i
      · subst hj
        rw [hi] at e1; cases e1
        rw [List.getElem?_set_self hiσ] at e2
        cases e2
        exact ⟨u, r, .inl ⟨hk, by simp⟩⟩
      · rw [List.getElem?_set_ne (Ne.symm hj)] at e2
        obtain ⟨u', r', q⟩ := hl j y v' e1 e2 e3
        refine ⟨u', r', ?_⟩
        rcases q with ⟨k, e⟩ | ⟨k, c, e, z⟩
        · refine .inl ⟨k, ?_⟩
          have : y ≠ x := fun e => hj (nodup_ix hN e1 (e ▸ hi))
          simp [this, e]
        · exact .inr ⟨k, c, e, z.sameBut hs (cne y c e)⟩
    · obtain ⟨w', z⟩ := I.cell y c e
      exact ⟨w', z.sameBut hs (cne y c e)⟩
    · obtain ⟨e, n, ne, nf, d⟩ := I.pin p hp
      exact ⟨(hs.2 p.1 ne).trans e, n, ne, nf, d⟩
  · have hfn : X.fn x = true := by
      rcases hf with z | z
      · exact z
      · rw [z] at hk; cases hk
    obtain ⟨c, hc⟩ := I.ok.has x (.inl hk)
    obtain ⟨w', z⟩ := I.cell x c hc
    refine wpAny_storeName_cell I.ok.kind hk hc z (fun h' hc' hs => ?_)
    obtain ⟨oc, hoc, hocd⟩ := id z
    refine h { s with heap := h' } ⟨I.ok, I.os, I.bare, ⟨fun b o e n hb hx => ?_, fun b o e n hb hx => ?_, I.base.free, fun b o e hx => ?_, I.base.tups, I.base.frzs, I.base.tbls⟩, ⟨m, hn.sameBut hs (Ne.symm (cne x c hc)), fun j y v' e1 e2 e3 => ?_⟩, fun y c' e => ?_, I.free, I.freeC, fun p hp => ?_, tracked ⟨oc, hoc, I.freeC x c hc⟩ hs, by simpa using I.len⟩ ⟨c, hs, .inr hc⟩
    · exact (hs.2 b (Nat.ne_of_lt (Nat.lt_of_lt_of_le (Heap.lt_size e) (I.ok.cab x c hfn hc)))).trans (I.base.keep b o e n hb hx)
    · obtain ⟨sl, e1⟩ := I.base.slot b o e n hb hx
      exact ⟨sl, (hs.2 b (Nat.ne_of_lt (Nat.lt_of_lt_of_le (Heap.lt_size e) (I.ok.cab x c hfn hc)))).trans e1⟩
    · obtain ⟨o', e1⟩ := I.base.there b o e hx
      exact ⟨o', (hs.2 b (Nat.ne_of_lt (Nat.lt_of_lt_of_le (Heap.lt_size e) (I.ok.cab x c hfn hc)))).trans e1⟩
    · by_cases hj : j = i
      · subst hj
        rw [hi] at e1; cases e1
        rw [List.getElem?_set_self hiσ] at e2
        cases e2
        exact ⟨u, r, .inr ⟨.inl hk, c, hc, hc'⟩⟩
      · rw [List.getElem?_set_ne (Ne.symm hj)] at e2
        obtain ⟨u', r', q⟩ := hl j y v' e1 e2 e3
        refine ⟨u', r', ?_⟩
        rcases q with q | ⟨k, c', e, z'⟩
        · exact .inl q
        · refine .inr ⟨k, c', e, z'.sameBut hs ?_⟩
          rintro rfl
          exact hj (nodup_ix hN e1 (I.ok.inj _ _ _ e hc ▸ hi))
    · by_cases hcc : c' = c
      · subst hcc; exact ⟨_, hc'⟩
      · obtain ⟨w2, z2⟩ := I.cell y c' e
        exact ⟨w2, z2.sameBut hs hcc⟩
    · obtain ⟨e, n, ne, nf, d⟩ := I.pin p hp
      refine ⟨(hs.2 p.1 ?_).trans e, n, ne, nf, d⟩
      intro q
      rw [q, hoc] at e
      have q' : oc = p.2 := Option.some.inj e
      exact d w' (by rw [← q']; exact hocd)
theorem store_ok {M : Model} {A : Around} {E : Value → Shared → Prop} {i : Nat} {x : Str} {v : V} {u : Value} {Q : Unit → Shared → Prop} (I : Inv X pins σ H s) (hN : X.N.Nodup) (hi : X.N[i]? = some x) (hx : Loc X.env.scope x) (r : RelV v u)
    (h : ∀ s', Inv X pins (σ.set i (some v)) H s' → Q () s') (hf : X.fn x = true ∨ X.env.scope.names.lookup x = some .local := by first | exact .inl rfl | exact .inr rfl | assumption) : wpAny M A (storeName X.env x u) Q E s :=
  store_ok2 I hN hi hx r (fun s' I' _ => h s' I') hf
theorem Inv.call' {s' : Shared} {ch : List Addr} (I : Inv X pins σ H s) (ho : s'.os = s.os) (u : Un (frs X.stack) ch H H' s.heap s'.heap) (hok : HOk X.prog X.w H' s'.heap) (hg : AllBare s'.gens)
    (hch : ∀ b ∈ ch, (b ∈ X.ex ∨ X.s_0.heap.objs.size ≤ b) ∧ b ≠ X.env.locals ∧ (∀ x c, X.env.cells.lookup x = some c → c ≠ b) ∧ ∀ p ∈ X.pn ++ pins, p.1 ≠ b) : Inv X pins σ H' s' := by
  obtain ⟨h', g', d', t', o'⟩ := s'
  have e : o' = s.os := ho
  subst e
  exact I.call (g' := g') (t' := t') (d' := d') u hok hg hch
end
abbrev XK := Value → Option Addr → Hp → Prop
abbrev St := List (Option V)
abbrev VK := V → Hp → Prop
abbrev TE := St → Hp → VK → Prop
abbrev TT := St → Hp → (Bool → Hp → Prop) → Prop
abbrev TA := St → Hp → (List V → Hp → Prop) → Prop
structure Ends where
  nx : St → Hp → Prop
  rt : VK
  bk : St → Hp → Prop := fun _ _ => False
  ct : St → Hp → Prop := fun _ _ => False
abbrev TS := Ends → St → Hp → Prop
def EP (X : Cx) (pins : List (Addr × Obj)) (σ : St) (Q : VK) (u : Value) (s' : Shared) : Prop := ∃ v H', Inv X pins σ H' s' ∧ RelV v u ∧ Q v H'
def TP (X : Cx) (pins : List (Addr × Obj)) (σ : St) (Q : Bool → Hp → Prop) (b : Bool) (s' : Shared) : Prop := ∃ H', Inv X pins σ H' s' ∧ Q b H'
def AP (X : Cx) (pins : List (Addr × Obj)) (σ : St) (Q : List V → Hp → Prop) (us : List Value) (s' : Shared) : Prop := ∃ vs H', Inv X pins σ H' s' ∧ Vals vs us ∧ Q vs H'
def SP (X : Cx) (pins : List (Addr × Obj)) (D : Ends) (f : Flow) (s' : Shared) : Prop :=
  match f with
  | .next => ∃ σ' H', Inv X pins σ' H' s' ∧ D.nx σ' H'
  | .brk => ∃ σ' H', Inv X pins σ' H' s' ∧ D.bk σ' H'
  | .cont => ∃ σ' H', Inv X pins σ' H' s' ∧ D.ct σ' H'
  | .ret u => ∃ v σ' H', Inv X pins σ' H' s' ∧ RelV v u ∧ D.rt v H'
def PE (X : Cx) (e : Expr) (t : TE) : Prop :=
  ∀ (pins : List (Addr × Obj)) (s : Shared) (σ : St) (H : Hp) (Q : VK), Inv X pins σ H s → t σ H Q → wpAny (model X.prog X.w) X.A (eval e X.env) (EP X pins σ Q) X.xe s
def PT (X : Cx) (e : Expr) (t : TT) : Prop :=
  ∀ (pins : List (Addr × Obj)) (s : Shared) (σ : St) (H : Hp) (Q : Bool → Hp → Prop), Inv X pins σ H s → t σ H Q → wpAny (model X.prog X.w) X.A (isTrue e X.env (eval e X.env)) (TP X pins σ Q) X.xe s
def PW (X : Cx) (e : Expr) (t : TT) : Prop :=
  ∀ (whole : Sem Value) (pins : List (Addr × Obj)) (s : Shared) (σ : St) (H : Hp) (Q : Bool → Hp → Prop), Inv X pins σ H s → t σ H Q → wpAny (model X.prog X.w) X.A (isTrue e X.env whole) (TP X pins σ Q) X.xe s
theorem PW.pt {X : Cx} {e : Expr} {t : TT} (h : PW X e t) : PT X e t := h _
def PA (X : Cx) (es : List Expr) (t : TA) : Prop :=
  ∀ (pos : Pos) (pins : List (Addr × Obj)) (s : Shared) (σ : St) (H : Hp) (Q : List V → Hp → Prop), Inv X pins σ H s → t σ H Q → wpAny (model X.prog X.w) X.A (spliced (backTo pos (starEach es X.env))) (AP X pins σ Q) X.xe s
def PS (X : Cx) (st : Stmt) (t : TS) : Prop :=
  ∀ (pins : List (Addr × Obj)) (s : Shared) (σ : St) (H : Hp) (D : Ends), Inv X pins σ H s → t D σ H → wpAny (model X.prog X.w) X.A (exec st X.env) (SP X pins D) X.xe s
def PSs (X : Cx) (st : List Stmt) (t : TS) : Prop :=
  ∀ (pins : List (Addr × Obj)) (s : Shared) (σ : St) (H : Hp) (D : Ends), Inv X pins σ H s → t D σ H → wpAny (model X.prog X.w) X.A (execs st X.env) (SP X pins D) X.xe s
theorem thn {α : Type} {t : Sem α} {Q Q' : α → Shared → Prop} {M : Model} {A : Around} {E : Value → Shared → Prop} {s : Shared} (h : wpAny M A t Q E s) (hQ : ∀ a s, Q a s → Q' a s) : wpAny M A t Q' E s := wpAny_mono h hQ fun _ _ x => x
end L2
namespace L2
open PySem PySem.Spec PyProof.Rows
section
variable {X : Cx}
def tVar (i : Nat) : TE := fun σ H Q => ∃ v, σ[i]? = some (some v) ∧ Q v H
def tC (v : V) : TE := fun _ H Q => Q v H
theorem pe_var {i : Nat} {x : Str} {pos : Pos} (hN : X.N[i]? = some x) (hv : Vis X.env.scope x) (hd : (x == ("__debug__" : Str)) = false := by decide) (hcd : (x == ("__classdict__" : Str)) = false := by decide) : PE X (.Name x pos) (tVar i) := by
  intro pins s σ H Q I h
  obtain ⟨v, e, h⟩ := h
  obtain ⟨m, hn, hl⟩ := I.loc
  obtain ⟨u, r, l⟩ := hl i x v hN e hv
  have fin : EP X pins σ Q u s := ⟨v, H, I, r, h⟩
  rcases l with ⟨hk, hm⟩ | ⟨hk, c, hc, hcell⟩
  · exact wpAny_Name (wpAny_loadName_local I.ok.kind hk hn hm fin) hd
  · rcases hk with hk | hk
    · exact wpAny_Name (wpAny_loadName_cell I.ok.kind hk hc hcell fin) hd
    · exact wpAny_Name (wpAny_loadName_free I.ok.kind hk hc hcell fin hcd) hd
theorem pe_int {i j pos} : PE X (.Constant (.int i) j pos) (tC (.int i)) := fun _ _ _ H _ I h => wpAny_Constant_int ⟨.int i, H, I.tok _, ⟨_, rfl⟩, h⟩
def Gl (X : Cx) (x : Str) : Prop := X.env.kindOf x = some .globalImplicit
theorem ld_glob {E : Value → Shared → Prop} {pins : List (Addr × Obj)} {s : Shared} {σ : St} {H : Hp} {x : Str} {u : Value} {pos : Pos} {Q : Value → Shared → Prop} (I : Inv X pins σ H s) (hg : Gl X x) (hm : X.mg x = some u) (h : Q u s)
    (hd : (x == ("__debug__" : Str)) = false := by decide) : wpAny (model X.prog X.w) X.A (eval (.Name x pos) X.env) Q E s :=
  Calls.Name_function_global I.ok.kind hg (Calls.loadGlobal_global (by rw [I.ok.glob]; exact I.mod.glob.keeps I.bk) hm h) hd
theorem ld_blt {E : Value → Shared → Prop} {pins : List (Addr × Obj)} {s : Shared} {σ : St} {H : Hp} {x : Str} {u : Value} {pos : Pos} {Q : Value → Shared → Prop} (I : Inv X pins σ H s) (hg : Gl X x) (hm : X.mg x = none) (hv : bootBuiltins x = some u) (h : Q u s)
    (hn : x ≠ "__name__" := by decide) (hd : (x == ("__debug__" : Str)) = false := by decide) : wpAny (model X.prog X.w) X.A (eval (.Name x pos) X.env) Q E s := by
  obtain ⟨mb, h1, h2⟩ := I.mod.blt
  exact Calls.Name_function_global I.ok.kind hg (Calls.loadGlobal_builtin (by rw [I.ok.glob]; exact I.mod.glob.keeps I.bk) hm (by rw [I.ok.blt]; exact h1.keeps I.bk) ((h2 x hn).trans hv) h) hd
theorem pe_glob {x : Str} {v : V} {u : Value} {pos : Pos} (hg : Gl X x) (hm : X.mg x = some u) (r : RelV v u) (hd : (x == ("__debug__" : Str)) = false := by decide) : PE X (.Name x pos) (tC v) :=
  fun _ _ _ H _ I h => ld_glob I hg hm ⟨v, H, I, r, h⟩ hd
variable {a b : Expr} {ta tb : TE} {pos : Pos}
def tB (t : TE) : TT := fun σ H Q => t σ H fun x H1 => ∃ c, x = .bl c ∧ Q c H1
theorem pt_val {e : Expr} {t : TE} (h : PE X e t) (he : ∀ whole, isTrue e X.env whole = (do let v ← whole; standAt e.pos; holding [v] (truthy v)) := by intro _; rfl) : PT X e (tB t) := by
  intro pins s σ H Q I hw
  refine isTrue_plain (thn (h pins s σ H _ I hw) fun v s1 ⟨x, H1, I1, r1, q1⟩ => ?_) (he _)
  obtain ⟨d, rfl, q⟩ := q1
  cases r1
  exact wpAny_truthy_bool ⟨H1, I1, q⟩
variable {tA tB' : TT} {rest : List Expr}
def tAnd (t u : TT) : TT := fun σ H Q => t σ H fun c H1 => if c = true then u σ H1 Q else Q false H1
def tOr (t u : TT) : TT := fun σ H Q => t σ H fun c H1 => if c = true then Q true H1 else u σ H1 Q
def tNot (t : TT) : TT := fun σ H Q => t σ H fun c H1 => Q (!c) H1
theorem pw_and1 (ha : PT X a tA) : PW X (.BoolOp .And [a] pos) tA := by
  intro wh pins s σ H Q I h
  refine isTrue_and (thn (ha pins s σ H Q I h) fun c s1 e => ?_)
  cases c with
  | true => exact isTrue_and_nil e
  | false => exact e
theorem pw_or1 (ha : PT X a tA) : PW X (.BoolOp .Or [a] pos) tA := by
  intro wh pins s σ H Q I h
  refine isTrue_or (thn (ha pins s σ H Q I h) fun c s1 e => ?_)
  cases c with
  | false => exact isTrue_or_nil e
  | true => exact e
theorem pw_and (ha : PT X a tA) (hb : PW X (.BoolOp .And (b :: rest) pos) tB') : PW X (.BoolOp .And (a :: b :: rest) pos) (tAnd tA tB') := by
  intro wh pins s σ H Q I h
  refine isTrue_and (thn (ha pins s σ H _ I h) fun c s1 ⟨H1, I1, q1⟩ => ?_)
  cases c with
  | true => exact hb wh pins s1 σ H1 Q I1 q1
  | false => exact ⟨H1, I1, q1⟩
theorem pw_or (ha : PT X a tA) (hb : PW X (.BoolOp .Or (b :: rest) pos) tB') : PW X (.BoolOp .Or (a :: b :: rest) pos) (tOr tA tB') := by
  intro wh pins s σ H Q I h
  refine isTrue_or (thn (ha pins s σ H _ I h) fun c s1 ⟨H1, I1, q1⟩ => ?_)
  cases c with
  | true => exact ⟨H1, I1, q1⟩
  | false => exact hb wh pins s1 σ H1 Q I1 q1
theorem pt_not (ha : PT X a tA) : PT X (.UnaryOp .Not a pos) (tNot tA) := by
  intro pins s σ H Q I h
  exact isTrue_not (ha pins s σ H (fun c H1 => Q (!c) H1) I h)
def tAndV (ta tb : TE) : TE := fun σ H Q => ta σ H fun x H1 => ∃ c, x = .bl c ∧ if c = true then tb σ H1 Q else Q (.bl false) H1
def tOrV (ta tb : TE) : TE := fun σ H Q => ta σ H fun x H1 => ∃ c, x = .bl c ∧ if c = true then Q (.bl true) H1 else tb σ H1 Q
def tNotV (ta : TE) : TE := fun σ H Q => ta σ H fun x H1 => ∃ c, x = .bl c ∧ Q (.bl (!c)) H1
theorem pe_one {op} {t : TE} (h : PE X a t) : PE X (.BoolOp op [a] pos) t := fun pins s σ H Q I hw => BoolOp_one (h pins s σ H Q I hw)
theorem pe_and (ha : PE X a ta) (hb : PE X (.BoolOp .And (b :: rest) pos) tb) : PE X (.BoolOp .And (a :: b :: rest) pos) (tAndV ta tb) := by
  intro pins s σ H Q I h
  refine BoolOp_and (thn (ha pins s σ H _ I h) fun v s1 ⟨x, H1, I1, r1, q1⟩ => ?_)
  obtain ⟨c, rfl, q1⟩ := q1
  cases r1
  refine wpAny_truthy_bool ?_
  cases c with
  | true => exact hb pins s1 σ H1 Q I1 q1
  | false => exact ⟨.bl false, H1, I1, rfl, q1⟩
end
end L2
namespace L2
open PySem PySem.Spec PyProof.Rows
def SqL (K : PySem.W.Frag) (H : Hp) (a : Addr) (xs : List V) : Prop :=
  Rd H a (.lst xs) ∨
    ∃ (o : Obj) (its : Array Value) (n : Nat), K.lookup a = some o ∧ o.cls = .type "list" ∧ o.dict = none ∧ o.data = .seq its n ∧ its.size ≤ sizeLine ∧ Vals xs its.toList
def SqT (K : PySem.W.Frag) (H : Hp) (a : Addr) (xs : List V) : Prop :=
  Rd H a (.tup xs) ∨
    ∃ (o : Obj) (its : Array Value) (n : Nat), K.lookup a = some o ∧ o.cls = .type "tuple" ∧ o.data = .seq its n ∧ its.size ≤ sizeLine ∧ Vals xs its.toList
def absV : Value → Option V
  | .none => some .non
  | .bool b => some (.bl b)
  | .int i _ => some (.int i)
  | .str x _ => some (.str x)
  | .bytes b _ => some (.byt b)
  | .float b _ => some (.flt b)
  | .ref a => some (.ref a)
  | .type n => some (.ty n)
  | _ => none
theorem RelV.abs {x : V} {u : Value} (r : RelV x u) : absV u = some x := by
  cases x with
  | non => cases r; rfl
  | bl _ => cases r; rfl
  | int _ => obtain ⟨t, rfl⟩ := r; rfl
  | str _ => obtain ⟨t, rfl⟩ := r; rfl
  | byt _ => obtain ⟨t, rfl⟩ := r; rfl
  | flt _ => obtain ⟨t, rfl⟩ := r; rfl
  | ref _ => cases r; rfl
  | ty _ => cases r; rfl
theorem RelV.inj {x y : V} {u : Value} (r : RelV x u) (q : RelV y u) : x = y := Option.some.inj (r.abs.symm.trans q.abs)
theorem Vals.inj : ∀ {xs ys : List V} {us : List Value}, Vals xs us → Vals ys us → xs = ys
  | _, _, _, .nil, .nil => rfl
  | _, _, _, .cons r t, .cons r' t' => by rw [r.inj r', Vals.inj t t']
section
variable {X : Cx} {pins : List (Addr × Obj)} {σ : St} {H : Hp} {s : Shared} {a : Addr} {xs ys : List V}
theorem SqL.of {K : PySem.W.Frag} (h : H a = some (.lst xs)) : SqL K H a xs := .inl (.inl h)
theorem SqT.of {K : PySem.W.Frag} (h : H a = some (.tup xs)) : SqT K H a xs := .inl (.inl h)
theorem Inv.list (I : Inv X pins σ H s) (h : SqL X.K H a xs) : ∃ its : List Value, Vals xs its ∧ PlainL s.heap a its.toArray ∧ xs.length ≤ sizeLine := by
  rcases h with h | ⟨o, its, n, hk, hc, hd, hs, hz, r⟩
  · obtain ⟨z, its, n, r, e⟩ := h.ok I.hok
    exact ⟨its, r, ⟨_, n, e, rfl, rfl, rfl⟩, z⟩
  · refine ⟨its.toList, r, ⟨o, n, I.kIn a o hk, hc, hd, by simpa using hs⟩, ?_⟩
    have e := r.length
    simp only [Array.length_toList] at e
    omega
theorem Inv.tuple (I : Inv X pins σ H s) (h : SqT X.K H a xs) : ∃ its : List Value, Vals xs its ∧ IsTup s.heap a its.toArray ∧ xs.length ≤ sizeLine := by
  rcases h with h | ⟨o, its, n, hk, hc, hs, hz, r⟩
  · obtain ⟨z, its, r, p⟩ := h.ok I.hok
    exact ⟨its, r, p, z⟩
  · refine ⟨its.toList, r, ⟨o, I.kIn a o hk, hc, n, by simpa using hs⟩, ?_⟩
    have e := r.length
    simp only [Array.length_toList] at e
    omega
theorem Inv.list_inj (I : Inv X pins σ H s) (h : SqL X.K H a xs) (h' : SqL X.K H a ys) : xs = ys := by
  obtain ⟨its, r, ⟨o, n, e, _, _, d⟩, _⟩ := I.list h
  obtain ⟨its', r', ⟨o', n', e', _, _, d'⟩, _⟩ := I.list h'
  rw [e] at e'; cases e'
  rw [d] at d'
  injection d' with d1 _
  have : its = its' := by simpa using congrArg Array.toList d1
  subst this
  exact r.inj r'
end
abbrev Cx.wish (X : Cx) (E : Value → Shared → Prop) : Cx := { X with xe := E }
abbrev Cx.nox (X : Cx) : Cx := X.wish fun _ _ => False
theorem Cx.Ok.wish {X : Cx} (ok : X.Ok) (E : Value → Shared → Prop) : (X.wish E).Ok :=
  ⟨ok.mod, ok.kind, ok.glob, ok.blt, ok.above, ok.inj, ok.has, ok.cab, ok.hd, ok.frames, ok.stk, ok.exf, ok.bs, ok.bsz, ok.noex, ok.exfs, ok.funs, ok.frf⟩
theorem Cx.Ok.unwish {X : Cx} {E : Value → Shared → Prop} (ok : (X.wish E).Ok) : X.Ok :=
  ⟨ok.mod, ok.kind, ok.glob, ok.blt, ok.above, ok.inj, ok.has, ok.cab, ok.hd, ok.frames, ok.stk, ok.exf, ok.bs, ok.bsz, ok.noex, ok.exfs, ok.funs, ok.frf⟩
section
variable {X : Cx} {pins : List (Addr × Obj)} {σ : St} {H : Hp} {s : Shared} {E : Value → Shared → Prop}
theorem Inv.wish (I : Inv X pins σ H s) (E : Value → Shared → Prop) : Inv (X.wish E) pins σ H s := ⟨I.ok.wish E, I.os, I.bare, I.base, I.loc, I.cell, I.free, I.freeC, I.pin, I.hok, I.len⟩
theorem Inv.unwish (I : Inv (X.wish E) pins σ H s) : Inv X pins σ H s := ⟨I.ok.unwish, I.os, I.bare, I.base, I.loc, I.cell, I.free, I.freeC, I.pin, I.hok, I.len⟩
theorem SP.unwish {D : Ends} {f : Flow} {s' : Shared} (h : SP (X.wish E) pins D f s') : SP X pins D f s' := by
  cases f with
  | next => obtain ⟨σ', H', I, q⟩ := h; exact ⟨σ', H', I.unwish, q⟩
  | brk => obtain ⟨σ', H', I, q⟩ := h; exact ⟨σ', H', I.unwish, q⟩
  | cont => obtain ⟨σ', H', I, q⟩ := h; exact ⟨σ', H', I.unwish, q⟩
  | ret u => obtain ⟨v, σ', H', I, r, q⟩ := h; exact ⟨v, σ', H', I.unwish, r, q⟩
theorem PE.nox {e : Expr} {t : TE} (h : PE X.nox e t) : PE X e t := fun pins s σ H Q I hw =>
  wpAny_mono (h pins s σ H Q (I.wish _) hw) (fun _ _ ⟨v, H', I', r, q⟩ => ⟨v, H', I'.unwish, r, q⟩) fun _ _ z => False.elim z
theorem PT.nox {e : Expr} {t : TT} (h : PT X.nox e t) : PT X e t := fun pins s σ H Q I hw =>
  wpAny_mono (h pins s σ H Q (I.wish _) hw) (fun _ _ ⟨H', I', q⟩ => ⟨H', I'.unwish, q⟩) fun _ _ z => False.elim z
theorem PSs.nox {st : List Stmt} {t : TS} (h : PSs X.nox st t) : PSs X st t := fun pins s σ H D I hw =>
  wpAny_mono (h pins s σ H D (I.wish _) hw) (fun _ _ q => q.unwish) fun _ _ z => False.elim z
end
section
variable {X : Cx} {st : Stmt} {rest : List Stmt} {t u : TS} {e : Expr} {te : TE} {pos : Pos}
def tNext : TS := fun D σ H => D.nx σ H
def tSeq (t u : TS) : TS := fun D σ H => t { D with nx := u D } σ H
theorem pss_nil : PSs X [] tNext := fun _ _ σ H _ I h => wpAny_execs_nil ⟨σ, H, I, h⟩
theorem pss_cons (h1 : PS X st t) (h2 : PSs X rest u) : PSs X (st :: rest) (tSeq t u) := by
  intro pins s σ H D I h
  refine wpAny_execs_cons (thn (h1 pins s σ H { D with nx := u D } I h) fun f s1 q => ?_)
  cases f with
  | next =>
    obtain ⟨σ', H', I', q⟩ := q
    exact h2 pins s1 σ' H' D I' q
  | ret v => exact q
  | brk => exact q
  | cont => exact q
theorem pss_one (h1 : PS X st t) : PSs X [st] t := by
  intro pins s σ H D I h
  refine wpAny_execs_cons (thn (h1 pins s σ H D I h) fun f s1 q => ?_)
  cases f with
  | next => exact wpAny_execs_nil q
  | ret v => exact q
  | brk => exact q
  | cont => exact q
theorem Inv.quiet {pins : List (Addr × Obj)} {σ : St} {H : Hp} {s : Shared} (I : Inv X pins σ H s) : interactive X.env = false := by simp [interactive, I.ok.kind]
def tDrop (te : TE) : TS := fun D σ H => te σ H fun _ H1 => D.nx σ H1
theorem ps_expr (he : PE X e te) (hs : swapsWith e none pos.line X.env = pure false := by rfl) : PS X (.Expr e pos) (tDrop te) := by
  intro pins s σ H D I h
  exact wpAny_Expr_any (thn (he pins s σ H _ I h) fun v s1 ⟨x, H1, I1, r1, q1⟩ => ⟨σ, H1, I1, q1⟩) I.quiet hs
def tRet (te : TE) : TS := fun D σ H => te σ H D.rt
theorem ps_ret (he : PE X e te) : PS X (.Return (some e) pos) (tRet te) := by
  intro pins s σ H D I h
  exact wpAny_Return_some (thn (he pins s σ H _ I h) fun v s1 ⟨x, H1, I1, r1, q1⟩ => ⟨x, σ, H1, I1, r1, q1⟩)
def tIfS (c : TT) (t u : TS) : TS := fun D σ H => c σ H fun b H1 => if b = true then t D σ H1 else u D σ H1
theorem ps_if {c : Expr} {a b : List Stmt} {tc : TT} (hc : PT X c tc) (ha : PSs X a t) (hb : PSs X b u) : PS X (.If c a b pos) (tIfS tc t u) := by
  intro pins s σ H D I h
  refine wpAny_If (thn (hc pins s σ H _ I h) fun d s1 ⟨H1, I1, q1⟩ => ?_)
  cases d with
  | true => exact ha pins s1 σ H1 D I1 q1
  | false => exact hb pins s1 σ H1 D I1 q1
end
abbrev TG := V → St → Hp → (St → Hp → Prop) → Prop
abbrev TGs := List V → St → Hp → (St → Hp → Prop) → Prop
def PG (X : Cx) (target : Expr) (t : TG) : Prop :=
  ∀ (pins : List (Addr × Obj)) (s : Shared) (σ : St) (H : Hp) (v : V) (u : Value) (Q : St → Hp → Prop), Inv X pins σ H s → RelV v u → t v σ H Q →
    wpAny (model X.prog X.w) X.A (assign target X.env u) (fun _ s' => ∃ σ' H', Inv X pins σ' H' s' ∧ Q σ' H') X.xe s
def PGs (X : Cx) (ts : List Expr) (t : TGs) : Prop :=
  ∀ (pins : List (Addr × Obj)) (s : Shared) (σ : St) (H : Hp) (vs : List V) (us : List Value) (Q : St → Hp → Prop), Inv X pins σ H s → Vals vs us → t vs σ H Q →
    wpAny (model X.prog X.w) X.A (assignInOrder ((assignEach ts X.env).map (·.2)) us) (fun _ s' => ∃ σ' H', Inv X pins σ' H' s' ∧ Q σ' H') X.xe s
abbrev TSet := V → V → V → Hp → (Hp → Prop) → Prop
def PSet (X : Cx) (t : TSet) : Prop :=
  ∀ (pins : List (Addr × Obj)) (s : Shared) (σ : St) (H : Hp) (o i v : V) (ov iv u : Value) (Q : Hp → Prop), Inv X pins σ H s → RelV o ov → RelV i iv → RelV v u → t o i v H Q →
    wpAny (model X.prog X.w) X.A (setItem ov iv u) (fun _ s' => ∃ H', Inv X pins σ H' s' ∧ Q H') X.xe s
abbrev TIp := V → V → Hp → VK → Prop
def PIp (X : Cx) (op : Operator) (t : TIp) : Prop :=
  ∀ (pins : List (Addr × Obj)) (s : Shared) (σ : St) (H : Hp) (x y : V) (v u : Value) (Q : VK), Inv X pins σ H s → RelV x v → RelV y u → t x y H Q →
    wpAny (model X.prog X.w) X.A (inplaceOp op v u) (EP X pins σ Q) X.xe s
section
variable {X : Cx} {pos : Pos}
def gName (i : Nat) : TG := fun v σ H Q => Q (σ.set i (some v)) H
theorem pg_name {i : Nat} {x : Str} (hN : X.N.Nodup) (hi : X.N[i]? = some x) (hx : Loc X.env.scope x) (hf : X.fn x = true ∨ X.env.scope.names.lookup x = some .local := by first | exact .inl rfl | exact .inr rfl | assumption) : PG X (.Name x pos) (gName i) := by
  intro pins s σ H v u Q I r h
  exact wpAny_assign_Name (store_ok I hN hi hx r (fun s' I' => ⟨_, H, I', h⟩) hf)
def gNil : TGs := fun vs σ H Q => vs = [] ∧ Q σ H
def gCons (t : TG) (u : TGs) : TGs := fun vs σ H Q => ∃ v r, vs = v :: r ∧ t v σ H fun σ' H' => u r σ' H' Q
theorem pgs_nil : PGs X [] gNil := by
  intro pins s σ H vs us Q I r h
  obtain ⟨e, h⟩ := h
  subst e
  cases r
  exact assignInOrder_nil ⟨σ, H, I, h⟩
theorem pgs_cons {e : Expr} {es : List Expr} {t : TG} {u : TGs} (h1 : PG X e t) (h2 : PGs X es u)
    (hs : (assignEach (e :: es) X.env).map (·.2) = assign e X.env :: (assignEach es X.env).map (·.2) := by rfl) : PGs X (e :: es) (gCons t u) := by
  intro pins s σ H vs us Q I r h
  obtain ⟨v, vr, e1, h⟩ := h
  subst e1
  cases r with
  | cons r rr =>
    rw [hs]
    refine assignInOrder_cons (thn (h1 pins s σ H _ _ _ I r h) fun _ s1 ⟨σ1, H1, I1, q1⟩ => ?_)
    exact h2 pins s1 σ1 H1 _ _ Q I1 rr q1
def gTup (K : PySem.W.Frag) (n : Nat) (t : TGs) : TG := fun v σ H Q => ∃ a xs, v = .ref a ∧ SqT K H a xs ∧ xs.length = n ∧ t xs σ H Q
theorem pg_tup {es : List Expr} {k : Nat} {t : TGs} {n : Nat} (hc : X.calm = true) (h : PGs X es t)
    (hn : (assignEach es X.env).length = n := by rfl) (hst : (assignEach es X.env).findIdx? (·.1) = none := by rfl) : PG X (.Tuple es k pos) (gTup X.K n t) := by
  intro pins s σ H v u Q I r hw
  obtain ⟨a, xs, e1, hq, hl, hw⟩ := hw
  subst e1
  cases r
  obtain ⟨its, rv, ht, hz⟩ := I.tuple hq
  refine assign_Tuple_tuple (I.ok.hd hc) ht (by simp [hn, ← hl, rv.length]) hst fun h' hx => ?_
  have I1 : Inv X pins σ H { s with heap := h' } := I.kept (t' := s.toks) fun b o e => hx b o (Nat.ne_of_lt (Heap.lt_size e)) e
  exact h pins _ σ H xs _ Q I1 (by simpa using rv) hw
def gSub (to ti : TE) (t : TSet) : TG := fun v σ H Q => to σ H fun o H1 => ti σ H1 fun i H2 => t o i v H2 fun H3 => Q σ H3
theorem pg_sub {o i : Expr} {to ti : TE} {t : TSet} (ho : PE X o to) (hi : PE X i ti) (hs : PSet X t)
    (ha : ∀ v, assign (.Subscript o i pos) X.env v = (do
      let ov ← holding [v] (eval o X.env)
      let iv ← holding [v, ov] (eval i X.env)
      standAt pos
      holding [v, ov, iv] (setItem ov iv v)
      release [v, ov, iv] []) := by intro _; rfl) : PG X (.Subscript o i pos) (gSub to ti t) := by
  intro pins s σ H v u Q I r h
  rw [ha]
  refine wpAny_bind (wpAny_holding (thn (ho pins s σ H _ I h) fun ov s1 ⟨x, H1, I1, r1, q1⟩ => ?_))
  refine wpAny_bind (wpAny_holding (thn (hi pins s1 σ H1 _ I1 q1) fun iv s2 ⟨y, H2, I2, r2, q2⟩ => ?_))
  refine wpAny_bind (wpAny_standAt (wpAny_bind (wpAny_holding (thn (hs pins s2 σ H2 x y v ov iv u _ I2 r1 r2 r q2) fun _ s3 ⟨H3, I3, q3⟩ => ?_))))
  exact wpAny_release ⟨σ, H3, I3, q3⟩
def tAsg (te : TE) (g : TG) : TS := fun D σ H => te σ H fun x H1 => g x σ H1 D.nx
theorem ps_asg {tg e : Expr} {te : TE} {g : TG} (he : PE X e te) (hg : PG X tg g) (hs : swapsWithSole [tg] e pos.line X.env = pure false := by rfl) (hw : swappedStores [tg] e X.env = pure none := by rfl)
    (h1 : (assignEach [tg] X.env).map (·.2) = [assign tg X.env] := by rfl) : PS X (.Assign [tg] e pos) (tAsg te g) := by
  intro pins s σ H D I h
  refine wpAny_Assign_stores (thn (he pins s σ H _ I h) fun v s1 ⟨x, H1, I1, r1, q1⟩ => ?_) hs hw
  rw [h1]
  exact thn (hg pins s1 σ H1 x v _ I1 r1 q1) fun _ s2 q => q
theorem ps_set {i : Nat} {x : Str} {e : Expr} {te : TE} {pos' : Pos} (hN : X.N.Nodup) (hi : X.N[i]? = some x) (hx : Loc X.env.scope x) (he : PE X e te) (hs : swapsWith e (some (.Name x pos')) pos.line X.env = pure false := by rfl) (hf : X.fn x = true ∨ X.env.scope.names.lookup x = some .local := by first | exact .inl rfl | exact .inr rfl | assumption) :
    PS X (.Assign [.Name x pos'] e pos) (tAsg te (gName i)) := by
  intro pins s σ H D I h
  refine wpAny_Assign_Name (thn (he pins s σ H _ I h) fun v s1 ⟨y, H1, I1, r1, q1⟩ => ?_) hs
  exact store_ok I1 hN hi hx r1 (fun s2 I2 => ⟨_, H1, I2, q1⟩) hf
def tAugS (to ti te : TE) (tget : V → V → Hp → VK → Prop) (tip : TIp) (tset : TSet) : TS := fun D σ H => to σ H fun o H1 => ti σ H1 fun i H2 => tget o i H2 fun x H3 => te σ H3 fun y H4 => tip x y H4 fun z H5 => tset o i z H5 fun H6 => D.nx σ H6
def PGet (X : Cx) (t : V → V → Hp → VK → Prop) : Prop :=
  ∀ (pins : List (Addr × Obj)) (s : Shared) (σ : St) (H : Hp) (o i : V) (ov iv : Value) (Q : VK), Inv X pins σ H s → RelV o ov → RelV i iv → t o i H Q →
    wpAny (model X.prog X.w) X.A (getItem ov iv) (EP X pins σ Q) X.xe s
theorem ps_augS {o i e : Expr} {to ti te : TE} {tget : V → V → Hp → VK → Prop} {tip : TIp} {tset : TSet} {op : Operator} {tpos : Pos} (ho : PE X o to) (hi : PE X i ti) (hg : PGet X tget) (he : PE X e te) (hp : PIp X op tip) (hs : PSet X tset)
    (ha : ∀ ov iv new, augStore i ov iv new = (do holding [new, ov, iv] (setItem ov iv new); release [new, ov, iv] []; pure .next) := by intros; rfl) : PS X (.AugAssign (.Subscript o i tpos) op e pos) (tAugS to ti te tget tip tset) := by
  intro pins s σ H D I h
  refine wpAny_AugAssign_SubscriptAny (thn (ho pins s σ H _ I h) fun ov s1 ⟨x1, H1, I1, r1, q1⟩ => ?_) ha
  refine thn (hi pins s1 σ H1 _ I1 q1) fun iv s2 ⟨x2, H2, I2, r2, q2⟩ => ?_
  refine thn (hg pins s2 σ H2 x1 x2 ov iv _ I2 r1 r2 q2) fun old s3 ⟨x3, H3, I3, r3, q3⟩ => ?_
  refine thn (he pins s3 σ H3 _ I3 q3) fun v s4 ⟨x4, H4, I4, r4, q4⟩ => ?_
  refine thn (hp pins s4 σ H4 x3 x4 old v _ I4 r3 r4 q4) fun new s5 ⟨x5, H5, I5, r5, q5⟩ => ?_
  exact thn (hs pins s5 σ H5 x1 x2 x5 ov iv new _ I5 r1 r2 r5 q5) fun _ s6 ⟨H6, I6, q6⟩ => ⟨σ, H6, I6, q6⟩
def ipI (f : Int → Int → Int) : TIp := fun x y H Q => ∃ i j, x = .int i ∧ y = .int j ∧ Q (.int (f i j)) H
theorem ip_add : PIp X .Add (ipI fun i j => i + j) := by
  intro pins s σ H x y v u Q I r1 r2 h
  obtain ⟨i, j, e1, e2, q⟩ := h
  subst e1; subst e2
  obtain ⟨t, rfl⟩ := r1
  obtain ⟨t', rfl⟩ := r2
  exact iadd_int ⟨.int _, H, I.tok _, ⟨_, rfl⟩, q⟩
theorem ip_sub : PIp X .Sub (ipI fun i j => i - j) := by
  intro pins s σ H x y v u Q I r1 r2 h
  obtain ⟨i, j, e1, e2, q⟩ := h
  subst e1; subst e2
  obtain ⟨t, rfl⟩ := r1
  obtain ⟨t', rfl⟩ := r2
  exact isub_int ⟨.int _, H, I.tok _, ⟨_, rfl⟩, q⟩
end
section
variable {X : Cx} {pos : Pos}
def tWhile (c : TT) (tb : TS) : TS := fun D σ H => ∃ W : Nat → St → Hp → Prop, (∃ m, W m σ H) ∧ ∀ m σ H, W m σ H →
  c σ H fun b H1 => if b = true then ∃ N : St → Hp → Prop, (∀ σ' H', N σ' H' → ∃ m', m' < m ∧ W m' σ' H') ∧ tb { D with nx := N, ct := N, bk := D.nx } σ H1 else D.nx σ H1
theorem ps_while {c : Expr} {body : List Stmt} {tc : TT} {tb : TS} (hp : PassesOwn (model X.prog X.w) X.A X.env X.xe) (hc : PT X c tc) (hb : PSs X body tb) : PS X (.While c body [] pos) (tWhile tc tb) := by
  intro pins s σ H D I h
  obtain ⟨W, ⟨m0, w0⟩, turn⟩ := h
  refine wpAny_While (codeAny_whileLoop (fun n s' => ∃ σ' H', Inv X pins σ' H' s' ∧ W n σ' H') ?_ m0 ⟨σ, H, I, w0⟩)
  rintro n s1 ⟨σ1, H1, I1, w1⟩
  refine wpAny_passesOwn hp (thn (hc pins s1 σ1 H1 _ I1 (turn n σ1 H1 w1)) fun b s2 ⟨H2, I2, q2⟩ => ?_)
  cases b with
  | true =>
    obtain ⟨N, hN, q2⟩ := q2
    rw [if_pos rfl]
    refine wpAny_passesOwn hp (thn (hb pins s2 σ1 H2 _ I2 q2) fun f s3 q3 => ?_)
    cases f with
    | next =>
      obtain ⟨σ3, H3, I3, n3⟩ := q3
      obtain ⟨m', hm, w3⟩ := hN σ3 H3 n3
      exact ⟨m', hm, σ3, H3, I3, w3⟩
    | cont =>
      obtain ⟨σ3, H3, I3, n3⟩ := q3
      obtain ⟨m', hm, w3⟩ := hN σ3 H3 n3
      exact ⟨m', hm, σ3, H3, I3, w3⟩
    | brk => exact q3
    | ret v => exact q3
  | false =>
    rw [if_neg Bool.false_ne_true]
    exact wpAny_execs_nil ⟨σ1, H2, I2, q2⟩
end
structure It where
  go : Nat → Hp → Prop
  yld : Nat → Hp → V → Hp → Prop
  stop : Nat → Hp → Prop
def FpOk (X : Cx) (pins : List (Addr × Obj)) (H : Hp) (b : Addr) : Prop :=
  H b = none ∧ b ≠ X.env.locals ∧ b ∉ X.fs ∧ (b ∈ X.ex ∨ X.s_0.heap.objs.size ≤ b) ∧ (∀ x c, X.env.cells.lookup x = some c → c ≠ b) ∧ ∀ p ∈ X.pn ++ pins, p.1 ≠ b
theorem Inv.fpOk {X : Cx} {pins : List (Addr × Obj)} {σ : St} {H H' : Hp} {s : Shared} {b : Addr} (I : Inv X pins σ H s) (hb : s.heap.objs.size ≤ b) (hn : H' b = none) : FpOk X pins H' b := by
  refine ⟨hn, Nat.ne_of_gt (Nat.lt_of_lt_of_le I.lt hb), I.nofs hb, .inr (Nat.le_trans I.sz hb), fun x c e z => ?_, fun p hp z => ?_⟩
  · obtain ⟨v, q⟩ := I.cell x c e
    exact absurd (Nat.lt_of_lt_of_le q.lt (by rw [z]; exact hb)) (Nat.lt_irrefl _)
  · exact absurd (Nat.lt_of_lt_of_le (Heap.lt_size (I.pin p hp).1) (by rw [z]; exact hb)) (Nat.lt_irrefl _)
structure Turn (P : Program) (w : World) (K : PySem.W.Frag) (tg : Expr) (J : It) (fp : List Addr) (it : Addr) (tn : Nat → Heap → Prop) : Prop where
  mem : it ∈ fp
  obj : ∀ i h, tn i h → ∀ b ∈ fp, ∃ o, h.get? b = some o ∧ ∀ v, o.data ≠ .cell v
  keep : ∀ i h h', tn i h → (∀ b ∈ fp, ∀ o, h.get? b = some o → h'.get? b = some o) → tn i h'
  item : ∀ (X : Cx), X.prog = P → X.w = w → X.K = K → X.calm = true → ∀ (i : Nat) (pins : List (Addr × Obj)) (s : Shared) (σ : St) (H : Hp) (E : Value → Shared → Prop), Inv X pins σ H s → (∀ b ∈ fp, FpOk X pins H b) → tn i s.heap → J.go i H →
    wpAny (model P w) X.A (pyNext (.ref it)) (fun r s1 => ∃ u, r = some u ∧
      wpAny (model P w) X.A (letOwnedTupleGo tg (.ref it) u) (fun _ s2 => ∃ x H', Inv X pins σ H' s2 ∧ RelV x u ∧ J.yld i H x H' ∧ tn (i + 1) s2.heap ∧ ∀ b ∈ fp, H' b = none) E s1) E s
  done : ∀ (X : Cx), X.prog = P → X.w = w → X.K = K → X.calm = true → ∀ (i : Nat) (pins : List (Addr × Obj)) (s : Shared) (σ : St) (H : Hp) (E : Value → Shared → Prop), Inv X pins σ H s → (∀ b ∈ fp, FpOk X pins H b) → tn i s.heap → J.stop i H →
    wpAny (model P w) X.A (pyNext (.ref it)) (fun r s1 => r = none ∧ Inv X pins σ H s1) E s
  self : ∀ (A : Around) (i : Nat) (s : Shared) (Q : Value → Shared → Prop) (E : Value → Shared → Prop), tn i s.heap → Q (.ref it) s → wpAny (model P w) A (pyIter (.ref it)) Q E s
abbrev TI := St → Hp → (It → Hp → Prop) → Prop
def PIE (X : Cx) (pins : List (Addr × Obj)) (σ : St) (tg : Expr) (R : It → Hp → Prop) (itv : Value) (s2 : Shared) : Prop :=
  ∃ (it : Addr) (fp : List Addr) (tn : Nat → Heap → Prop) (J : It) (H' : Hp), itv = .ref it ∧ Inv X pins σ H' s2 ∧ Turn X.prog X.w X.K tg J fp it tn ∧ tn 0 s2.heap ∧ (∀ b ∈ fp, FpOk X pins H' b) ∧ R J H'
def PI (X : Cx) (tg iter : Expr) (wi : TI) : Prop :=
  ∀ (pins : List (Addr × Obj)) (s : Shared) (σ : St) (H : Hp) (R : It → Hp → Prop), Inv X pins σ H s → wi σ H R →
    wpAny (model X.prog X.w) X.A (eval iter X.env) (fun v s1 => wpAny (model X.prog X.w) X.A (pyIter v) (PIE X pins σ tg R) X.xe s1) X.xe s
theorem go_of {M : Model} {A : Around} {E : Value → Shared → Prop} {s : Shared} {tg : Expr} {it : Addr} {u : Value} {o : Obj} {n : String} {vs : Array Value} {Q : Unit → Shared → Prop} (ho : s.heap.get? it = some o) (hc : o.cls = .type n) (hd : o.data = .fields vs)
    (hn : ["enumerate", "zip", "dict_itemiterator", "dict_reverseitemiterator", "odict_iterator", "itertools.zip_longest", "itertools.pairwise"].contains n = false) (hQ : Q () s) : wpAny M A (letOwnedTupleGo tg (.ref it) u) Q E s := by
  unfold letOwnedTupleGo
  cases tg <;> first
    | exact wpAny_pure hQ
    | (cases u <;> first
        | exact wpAny_pure hQ
        | (refine wpAny_bind (wpAny_load ho ?_)
           rw [hc, hd]
           show wpAny M A (if (["enumerate", "zip", "dict_itemiterator", "dict_reverseitemiterator", "odict_iterator", "itertools.zip_longest", "itertools.pairwise"].contains n && vs[0]? == some (rawInt _)) = true then _ else _) Q E s
           rw [if_neg (by intro h; rw [hn, Bool.false_and] at h; cases h)]
           exact wpAny_pure hQ))
def Itl (K : PySem.W.Frag) (a : Addr) : It :=
  ⟨fun i H => ∃ xs x, SqL K H a xs ∧ xs[i]? = some x, fun i H x H' => H' = H ∧ ∀ xs, SqL K H a xs → xs[i]? = some x, fun i H => ∃ xs, SqL K H a xs ∧ xs.length ≤ i⟩
def Itr (lo : Int) (n : Nat) : It := ⟨fun i _ => i < n, fun i H x H' => H' = H ∧ x = .int (lo + i), fun i _ => n ≤ i⟩
theorem turn_list {P : Program} {w : World} {K : PySem.W.Frag} {tg : Expr} (a it : Addr) : Turn P w K tg (Itl K a) [it] it (fun i h => h.IsListIter it a i) where
  mem := by simp
  obj := fun i h st b hb => by
    have e : b = it := by simpa using hb
    subst e
    obtain ⟨o, e, c, d⟩ := st
    exact ⟨o, e, fun v z => by rw [d] at z; cases z⟩
  keep := fun i h h' st k => st.at fun o e => k it (by simp) o e
  item := by
    intro X hP hw hK hc i pins s σ H E I hf st hg
    subst hP hw hK
    obtain ⟨xs, x, hq, hx⟩ := hg
    obtain ⟨its, rv, p, hz⟩ := I.list hq
    obtain ⟨u, hu, ru⟩ := rv.get hx
    obtain ⟨f0, f1, f2, f3, f4, f5⟩ := hf it (by simp)
    refine wpAny_pyNext_list_item st p.isList (x := u) (by simpa using hu) fun h' st' sb => ?_
    have I1 : Inv X pins σ H { s with heap := h' } := I.turned (t' := s.toks) (fun b o hb e => (sb.2 b hb).trans e) f0 f1 f3 f4 f5
    obtain ⟨o, e, c, d⟩ := id st'
    exact ⟨u, rfl, go_of (s := { s with heap := h' }) e c d (by decide) ⟨x, H, I1, ru, ⟨rfl, fun ys hy => by rw [I.list_inj hy hq]; exact hx⟩, st', fun b hb => (hf b hb).1⟩⟩
  done := by
    intro X hP hw hK hc i pins s σ H E I hf st hg
    subst hP hw hK
    obtain ⟨xs, hq, hx⟩ := hg
    obtain ⟨its, rv, p, hz⟩ := I.list hq
    obtain ⟨f0, f1, f2, f3, f4, f5⟩ := hf it (by simp)
    have hl := rv.length
    exact wpAny_pyNext_list_end (I.ok.hd hc) st p.isList (by simp; omega) fun h' eb => ⟨rfl, I.turned (t' := s.toks) (fun b o hb e => eb b o hb e) f0 f1 f3 f4 f5⟩
  self := fun _ _ _ _ _ st h => wpAny_pyIter_listiter st h
theorem turn_range {P : Program} {w : World} {K : PySem.W.Frag} {tg : Expr} (it : Addr) (lo : Int) (n : Nat) : Turn P w K tg (Itr lo n) [it] it (fun i h => IsRangeIter h it (lo + (i : Nat) * 1) ((n : Int) - (i : Nat)) 1) where
  mem := by simp
  obj := fun i h st b hb => by
    have e : b = it := by simpa using hb
    subst e
    exact ⟨_, st, fun v z => by
      have z' : Data.fields _ = Data.cell v := z
      cases z'⟩
  keep := fun i h h' st k => k it (by simp) _ st
  item := by
    intro X hP hw hK hc i pins s σ H E I hf st hg
    subst hP hw hK
    obtain ⟨f0, f1, f2, f3, f4, f5⟩ := hf it (by simp)
    have W := Walks.range (prog := X.prog) (w := X.w) (I.ok.hd hc) it lo 1 n
    refine W.item i s _ _ hg st fun v h' tk hv st' kk => ?_
    obtain ⟨t, rfl⟩ := hv
    have I1 : Inv X pins σ H { s with heap := h', toks := tk } := I.turned (fun b o hb e => kk b o (by simpa using hb) e) f0 f1 f3 f4 f5
    refine ⟨_, rfl, go_of (s := { s with heap := h', toks := tk }) (n := "range_iterator") st' rfl rfl (by decide) ⟨.int (lo + i), H, I1, ⟨t, ?_⟩, ⟨rfl, rfl⟩, st', fun b hb => (hf b hb).1⟩⟩
    rw [Int.mul_one]
  done := by
    intro X hP hw hK hc i pins s σ H E I hf st hg
    subst hP hw hK
    obtain ⟨f0, f1, f2, f3, f4, f5⟩ := hf it (by simp)
    exact wpAny_pyNext_range_end (I.ok.hd hc) st (by have : n ≤ i := hg; omega) fun h' eb => ⟨rfl, I.turned (t' := s.toks) (fun b o hb e => eb b o hb e) f0 f1 f3 f4 f5⟩
  self := fun _ _ _ _ _ st h => wpAny_pyIter_rangeiter st h
end L2
namespace L2
open PySem PySem.Spec PyProof.Rows
section
variable {X : Cx} {tg : Expr}
def iList (K : PySem.W.Frag) (tl : TE) : TI := fun σ H R => tl σ H fun x H1 => ∃ a, x = .ref a ∧ (∃ xs, SqL K H1 a xs) ∧ R (Itl K a) H1
theorem pi_list {l : Expr} {tl : TE} (hl : PE X l tl) : PI X tg l (iList X.K tl) := by
  intro pins s σ H R I h
  refine thn (hl pins s σ H _ I h) fun v s1 ⟨x, H1, I1, r1, q1⟩ => ?_
  obtain ⟨a, e, ⟨xs, hq⟩, q⟩ := q1
  subst e
  cases r1
  obtain ⟨its, rv, p, hz⟩ := I1.list hq
  refine wpAny_pyIter_list p.isList ?_
  refine ⟨s1.heap.objs.size, [s1.heap.objs.size], _, _, H1, rfl, I1.kept (t' := s1.toks) fun b o e => Heap.get?_push_of_some _ e, turn_list a _, ⟨_, Heap.get?_push_size _ rfl, rfl, rfl⟩, fun b hb => ?_, q⟩
  have e : b = s1.heap.objs.size := by simpa using hb
  subst e
  exact I1.fpOk (Nat.le_refl _) (I1.hok.fresh (Nat.le_refl _))
theorem range_it {pins : List (Addr × Obj)} {σ : St} {H : Hp} {s : Shared} {R : It → Hp → Prop} {E : Value → Shared → Prop} {lo hi : Int} {t u v : Tok} {tk : Nat} (I : Inv X pins σ H s) (h1 : -(2 ^ 62) ≤ lo) (h2 : lo < 2 ^ 62) (h3 : -(2 ^ 62) ≤ hi) (h4 : hi < 2 ^ 62)
    (q : R (Itr lo (hi - lo).toNat) H) : wpAny (model X.prog X.w) X.A (pyIter (.ref s.heap.objs.size)) (PIE X pins σ tg R) E { s with heap := s.heap.push { cls := .type "range", data := .fields #[.int lo t, .int hi u, .int 1 v] }, toks := tk } := by
  refine wpAny_pyIter_range (IsRange.new ..) (small_one h1 h2 h3 h4) ?_
  have I1 : Inv X pins σ H { s with heap := s.heap.push { cls := .type "range", data := .fields #[.int lo t, .int hi u, .int 1 v] }, toks := tk } := I.kept fun b o e => Heap.get?_push_of_some _ e
  refine ⟨(s.heap.push { cls := .type "range", data := .fields #[.int lo t, .int hi u, .int 1 v] }).objs.size, [(s.heap.push { cls := .type "range", data := .fields #[.int lo t, .int hi u, .int 1 v] }).objs.size], _, _, H, rfl,
    I1.kept (t' := tk) fun b o e => Heap.get?_push_of_some _ e, turn_range _ lo (hi - lo).toNat, ?_, fun b hb => ?_, q⟩
  · have e1 : lo + ((0 : Nat) : Int) * 1 = lo := by simp
    have e2 : (((hi - lo).toNat : Nat) : Int) - ((0 : Nat) : Int) = Builtin.Range.rangeSize lo hi 1 := by rw [rangeSize_one]; split <;> omega
    show IsRangeIter _ _ (lo + ((0 : Nat) : Int) * 1) ((((hi - lo).toNat : Nat) : Int) - ((0 : Nat) : Int)) 1
    rw [e1, e2]
    exact Heap.get?_push_size _ rfl
  · have e : b = (s.heap.push { cls := .type "range", data := .fields #[.int lo t, .int hi u, .int 1 v] }).objs.size := by simpa using hb
    subst e
    exact I1.fpOk (Nat.le_refl _) (I1.hok.fresh (Nat.le_refl _))
def iRng1 (ta : TA) : TI := fun σ H R => ta σ H fun vs H1 => ∃ j : Int, vs = [.int j] ∧ -(2 ^ 62) ≤ j ∧ j < 2 ^ 62 ∧ R (Itr 0 j.toNat) H1
def iRng2 (ta : TA) : TI := fun σ H R => ta σ H fun vs H1 => ∃ i j : Int, vs = [.int i, .int j] ∧ (-(2 ^ 62) ≤ i ∧ i < 2 ^ 62 ∧ -(2 ^ 62) ≤ j ∧ j < 2 ^ 62) ∧ R (Itr i (j - i).toNat) H1
theorem pi_range1 {a : Expr} {ta : TA} {p pos : Pos} (hg : Gl X "range") (hm : X.mg "range" = none) (ha : PA X [a] ta) (hs : starEach [a] X.env = [(false, eval a X.env)] := by rfl) : PI X tg (.Call (.Name "range" p) [a] [] pos) (iRng1 ta) := by
  intro pins s σ H R I h
  refine Call_ (ld_blt I hg hm boot_range (PyProof.Rows.callWith_type1 (thn (ha pos pins s σ H _ I h) fun us s1 ⟨vs, H1, I1, r1, q1⟩ => ?_) hs rfl))
  obtain ⟨j, e, q1, q2, q⟩ := q1
  subst e
  cases r1 with
  | cons r rr =>
    cases rr
    obtain ⟨t, rfl⟩ := r
    exact call_range_1 (range_it I1 (by omega) (by omega) q1 q2 (by simpa using q))
theorem pi_range2 {a b : Expr} {ta : TA} {p pos : Pos} (hg : Gl X "range") (hm : X.mg "range" = none) (ha : PA X [a, b] ta) (hs : starEach [a, b] X.env = [(false, eval a X.env), (false, eval b X.env)] := by rfl) (hs2 : starEach [b] X.env = [(false, eval b X.env)] := by rfl) :
    PI X tg (.Call (.Name "range" p) [a, b] [] pos) (iRng2 ta) := by
  intro pins s σ H R I h
  refine Call_ (ld_blt I hg hm boot_range (PyProof.Rows.callWith_type1 (thn (ha pos pins s σ H _ I h) fun us s1 ⟨vs, H1, I1, r1, q1⟩ => ?_) (by rw [hs, hs2]) (by rw [hs2]; rfl)))
  obtain ⟨i, j, e, ⟨q1, q2, q3, q4⟩, q⟩ := q1
  subst e
  cases r1 with
  | cons r rr =>
    cases rr with
    | cons r' rr =>
      cases rr
      obtain ⟨t, rfl⟩ := r
      obtain ⟨t', rfl⟩ := r'
      exact call_range_2 (range_it I1 q1 q2 q3 q4 q)
def tFor (wi : TI) (g : TG) (tb : TS) : TS := fun D σ H => wi σ H fun J H1 => ∃ W : Nat → Nat → St → Hp → Prop, (∃ m, W 0 m σ H1) ∧ ∀ i m σ H, W i m σ H →
  (J.stop i H ∧ D.nx σ H) ∨ (J.go i H ∧ ∃ N : St → Hp → Prop, (∀ σ' H', N σ' H' → ∃ m', m' < m ∧ W (i + 1) m' σ' H') ∧ ∀ x H', J.yld i H x H' → g x σ H' fun σ2 H2 => tb { D with nx := N, ct := N, bk := D.nx } σ2 H2)
def pinsAt (fp : List Addr) (h : Heap) : List (Addr × Obj) := fp.filterMap fun b => (h.get? b).map fun o => (b, o)
theorem mem_pinsAt {fp : List Addr} {h : Heap} {b : Addr} {o : Obj} (hb : b ∈ fp) (e : h.get? b = some o) : (b, o) ∈ pinsAt fp h := List.mem_filterMap.mpr ⟨b, hb, by rw [e]; rfl⟩
theorem of_pinsAt {fp : List Addr} {h : Heap} {p : Addr × Obj} (hp : p ∈ pinsAt fp h) : p.1 ∈ fp ∧ h.get? p.1 = some p.2 := by
  obtain ⟨b, hb, e⟩ := List.mem_filterMap.mp hp
  cases q : h.get? b with
  | none => rw [q] at e; cases e
  | some o =>
    rw [q] at e
    have e' : (b, o) = p := Option.some.inj e
    subst e'
    exact ⟨hb, q⟩
theorem Inv.pinned {pins : List (Addr × Obj)} {σ : St} {H : Hp} {s : Shared} {fp : List Addr} (I : Inv X pins σ H s) (hf : ∀ b ∈ fp, FpOk X pins H b) (ho : ∀ b ∈ fp, ∃ o, s.heap.get? b = some o ∧ ∀ v, o.data ≠ .cell v) : Inv X (pins ++ pinsAt fp s.heap) σ H s :=
  I.pins_of fun p hp => (List.mem_append.mp hp).elim (fun z => I.pin p (List.mem_append_right _ z)) fun z => by
    obtain ⟨hb, e⟩ := of_pinsAt z
    obtain ⟨f0, f1, f2, _⟩ := hf p.1 hb
    obtain ⟨o, e', d⟩ := ho p.1 hb
    rw [e] at e'; cases e'
    exact ⟨e, f0, f1, f2, d⟩
theorem Inv.unpinned {pins pl : List (Addr × Obj)} {σ : St} {H : Hp} {s : Shared} (I : Inv X (pins ++ pl) σ H s) : Inv X pins σ H s := I.pins_of fun p hp => I.pin p (List.mem_append_right _ (List.mem_append_left _ hp))
theorem ps_for {iter : Expr} {body : List Stmt} {wi : TI} {g : TG} {tb : TS} {pos : Pos} (hp : PassesOwn (model X.prog X.w) X.A X.env X.xe) (hc : X.calm = true) (hi : PI X tg iter wi) (hg : PG X tg g) (hb : PSs X body tb)
    (hs : ∀ x, foldedSetIterable iter X.env x = pure x := by intro _; rfl) : PS X (.For tg iter body [] pos) (tFor wi g tb) := by
  intro pins s σ H D I h
  refine wpAny_For (thn (hi pins s σ H _ I h) fun v s1 h1 => thn h1 fun itv s2 h2 => ?_) hs
  obtain ⟨it, fp, tn, J, H2, e, I2, T, st2, f2, W, ⟨m0, w0⟩, turn⟩ := h2
  subst e
  have stat : ∀ {H' : Hp}, (∀ b ∈ fp, H' b = none) → ∀ b ∈ fp, FpOk X pins H' b := fun hn b hb => ⟨hn b hb, (f2 b hb).2⟩
  refine codeAny_forLoop_any (fun n s' => ∃ i σ' H', Inv X pins σ' H' s' ∧ tn i s'.heap ∧ (∀ b ∈ fp, H' b = none) ∧ W i n σ' H') ?_ m0 ⟨0, σ, H2, I2, st2, fun b hb => (f2 b hb).1, w0⟩
  rintro n s3 ⟨i, σ3, H3, I3, st3, fr3, w3⟩
  rcases turn i n σ3 H3 w3 with ⟨stop, qn⟩ | ⟨go, N, hN, step⟩
  · refine wpAny_passesOwn hp (thn (T.done X rfl rfl rfl hc i pins s3 σ3 H3 X.xe I3 (stat fr3) st3 stop) fun r s4 ⟨hr, I4⟩ => ?_)
    subst hr
    exact wpAny_execs_nil ⟨σ3, H3, I4, qn⟩
  · refine wpAny_passesOwn hp (thn (T.item X rfl rfl rfl hc i pins s3 σ3 H3 X.xe I3 (stat fr3) st3 go) fun r s4 ⟨u, hr, h4⟩ => ?_)
    subst hr
    refine wpAny_passesOwn hp (thn h4 fun _ s5 ⟨x, H5, I5, r5, y5, st5, fr5⟩ => ?_)
    have I5' := I5.pinned (stat fr5) (T.obj _ _ st5)
    refine wpAny_passesOwn hp (thn (hg _ s5 σ3 H5 x u _ I5' r5 (step x H5 y5)) fun _ s6 ⟨σ6, H6, I6, q6⟩ => ?_)
    refine wpAny_passesOwn hp (thn (hb _ s6 σ6 H6 _ I6 q6) fun f s7 q7 => ?_)
    have again : ∀ {σ7 : St} {H7 : Hp}, Inv X (pins ++ pinsAt fp s5.heap) σ7 H7 s7 → N σ7 H7 → ∃ m, m < n ∧ ∃ i σ' H', Inv X pins σ' H' s7 ∧ tn i s7.heap ∧ (∀ b ∈ fp, H' b = none) ∧ W i m σ' H' := fun {σ7 H7} I7 n7 => by
      obtain ⟨m', hm, w7⟩ := hN σ7 H7 n7
      refine ⟨m', hm, i + 1, σ7, H7, I7.unpinned, T.keep _ _ _ st5 fun b hb o e => (I7.pin (b, o) (List.mem_append_right _ (List.mem_append_right _ (mem_pinsAt hb e)))).1, fun b hb => ?_, w7⟩
      obtain ⟨o, e, d⟩ := T.obj _ _ st5 b hb
      exact (I7.pin (b, o) (List.mem_append_right _ (List.mem_append_right _ (mem_pinsAt hb e)))).2.1
    cases f with
    | next => obtain ⟨σ7, H7, I7, n7⟩ := q7; exact again I7 n7
    | cont => obtain ⟨σ7, H7, I7, n7⟩ := q7; exact again I7 n7
    | brk => obtain ⟨σ7, H7, I7, q7⟩ := q7; exact ⟨σ7, H7, I7.unpinned, q7⟩
    | ret v => obtain ⟨x7, σ7, H7, I7, r7, q7⟩ := q7; exact ⟨x7, σ7, H7, I7.unpinned, r7, q7⟩
end
theorem for_range {lo : Int} {n : Nat} {g : TG} {tb : TS} {D : Ends} {σ : St} {H : Hp} (Pv : Nat → St → Hp → Prop) (h0 : Pv 0 σ H)
    (hs : ∀ i σ H, i < n → Pv i σ H → g (.int (lo + i)) σ H fun σ2 H2 => tb { D with nx := Pv (i + 1), ct := Pv (i + 1), bk := D.nx } σ2 H2) (hd : ∀ σ H, Pv n σ H → D.nx σ H) :
    ∃ W : Nat → Nat → St → Hp → Prop, (∃ m, W 0 m σ H) ∧ ∀ i m σ H, W i m σ H →
      ((Itr lo n).stop i H ∧ D.nx σ H) ∨ ((Itr lo n).go i H ∧ ∃ N : St → Hp → Prop, (∀ σ' H', N σ' H' → ∃ m', m' < m ∧ W (i + 1) m' σ' H') ∧ ∀ x H', (Itr lo n).yld i H x H' → g x σ H' fun σ2 H2 => tb { D with nx := N, ct := N, bk := D.nx } σ2 H2) := by
  refine ⟨fun i m σ H => m = n - i ∧ i ≤ n ∧ Pv i σ H, ⟨n, by simp, Nat.zero_le _, h0⟩, ?_⟩
  rintro i m σ H ⟨rfl, hi, p⟩
  by_cases hlt : i < n
  · refine .inr ⟨hlt, Pv (i + 1), fun σ' H' p' => ⟨n - (i + 1), by omega, rfl, hlt, p'⟩, fun x H' y => ?_⟩
    obtain ⟨e, y⟩ := y
    subst e y
    exact hs i σ _ hlt p
  · have e : i = n := by omega
    subst e
    exact .inl ⟨Nat.le_refl _, hd σ H p⟩
theorem while_by {c : TT} {tb : TS} {D : Ends} {σ : St} {H : Hp} (Pv : St → Hp → Prop) (μ : St → Hp → Nat) (h0 : Pv σ H)
    (hs : ∀ σ H, Pv σ H → c σ H fun b H1 => if b = true then tb { D with nx := fun σ' H' => Pv σ' H' ∧ μ σ' H' < μ σ H, ct := fun σ' H' => Pv σ' H' ∧ μ σ' H' < μ σ H, bk := D.nx } σ H1 else D.nx σ H1)
    (mono : ∀ σ H Q Q', (∀ b H1, Q b H1 → Q' b H1) → c σ H Q → c σ H Q') : tWhile c tb D σ H := by
  refine ⟨fun m σ H => m = μ σ H ∧ Pv σ H, ⟨_, rfl, h0⟩, ?_⟩
  rintro m σ H ⟨rfl, p⟩
  refine mono σ H _ _ (fun b H1 q => ?_) (hs σ H p)
  cases b with
  | true => exact ⟨_, fun σ' H' ⟨p', l⟩ => ⟨_, l, rfl, p'⟩, q⟩
  | false => exact q
end L2
namespace L2
open PySem PySem.Spec PyProof.Rows
abbrev R2 := V → V → Hp → VK → Prop
def OpR (X : Cx) (f : Value → Value → Sem Value) (r : R2) : Prop :=
  ∀ (pins : List (Addr × Obj)) (s : Shared) (σ : St) (H : Hp) (x y : V) (v u : Value) (Q : VK), Inv X pins σ H s → RelV x v → RelV y u → r x y H Q →
    wpAny (model X.prog X.w) X.A (f v u) (EP X pins σ Q) X.xe s
def UnR (X : Cx) (f : Value → Sem Value) (r : V → Hp → VK → Prop) : Prop :=
  ∀ (pins : List (Addr × Obj)) (s : Shared) (σ : St) (H : Hp) (x : V) (v : Value) (Q : VK), Inv X pins σ H s → RelV x v → r x H Q →
    wpAny (model X.prog X.w) X.A (f v) (EP X pins σ Q) X.xe s
def CallR (X : Cx) (f : Value) (r : List V → Hp → VK → Prop) : Prop :=
  ∀ (pins : List (Addr × Obj)) (s : Shared) (σ : St) (H : Hp) (xs : List V) (us : List Value) (Q : VK), Inv X pins σ H s → Vals xs us → r xs H Q →
    wpAny (model X.prog X.w) X.A (call f us) (EP X pins σ Q) X.xe s
def tOp (r : R2) (ta tb : TE) : TE := fun σ H Q => ta σ H fun x H1 => tb σ H1 fun y H2 => r x y H2 Q
def tUn (r : V → Hp → VK → Prop) (ta : TE) : TE := fun σ H Q => ta σ H fun x H1 => r x H1 Q
def rI (C : Int → Int → Prop) (g : Int → Int → V) : R2 := fun x y H Q => ∃ i j, x = .int i ∧ y = .int j ∧ C i j ∧ Q (g i j) H
def rI0 (g : Int → Int → V) : R2 := fun x y H Q => ∃ i j, x = .int i ∧ y = .int j ∧ Q (g i j) H
def rU (g : Int → V) : V → Hp → VK → Prop := fun x H Q => ∃ i, x = .int i ∧ Q (g i) H
section
variable {X : Cx} {a b c : Expr} {ta tb tc : TE} {pos : Pos}
theorem binT (ha : PE X a ta) (hb : PE X b tb) {pins : List (Addr × Obj)} {s : Shared} {σ : St} {H : Hp} {R : V → V → Hp → Prop} (I : Inv X pins σ H s)
    (h : ta σ H fun x H1 => tb σ H1 fun y H2 => R x y H2) {Q : Value → Shared → Prop} {f : Value → Value → Sem Value}
    (hf : ∀ v u s2 x y H2, Inv X pins σ H2 s2 → RelV x v → RelV y u → R x y H2 → wpAny (model X.prog X.w) X.A (f v u) Q X.xe s2) :
    wpAny (model X.prog X.w) X.A (eval a X.env) (fun v s₁ => wpAny (model X.prog X.w) X.A (eval b X.env) (fun u s₂ => wpAny (model X.prog X.w) X.A (f v u) Q X.xe s₂) X.xe s₁) X.xe s := by
  refine thn (ha pins s σ H _ I h) fun v s1 ⟨x, H1, I1, r1, q1⟩ => ?_
  refine thn (hb pins s1 σ H1 _ I1 q1) fun u s2 ⟨y, H2, I2, r2, q2⟩ => ?_
  exact hf v u s2 x y H2 I2 r1 r2 q2
theorem pe_op {op : Operator} {r : R2} (ho : OpR X (binaryOp op) r) (ha : PE X a ta) (hb : PE X b tb) : PE X (.BinOp a op b pos) (tOp r ta tb) := by
  intro pins s σ H Q I h
  exact wpAny_BinOp (binT ha hb I h fun v u s2 x y H2 I2 rx ry q => ho pins s2 σ H2 x y v u Q I2 rx ry q)
theorem pe_un {op : UnaryOp} {r : V → Hp → VK → Prop} (ho : UnR X (unaryOp op) r) (ha : PE X a ta) : PE X (.UnaryOp op a pos) (tUn r ta) := by
  intro pins s σ H Q I h
  exact UnaryOp_ (thn (ha pins s σ H _ I h) fun v s1 ⟨x, H1, I1, r1, q1⟩ => ho pins s1 σ H1 x v Q I1 r1 q1)
theorem opI {f : Value → Value → Sem Value} {C : Int → Int → Prop} {g : Int → Int → Int}
    (rule : ∀ (i j : Int) (t u : Tok) (s : Shared) (Q : Value → Shared → Prop) (E : Value → Shared → Prop), C i j → Q (.int (g i j) s.toks) { s with toks := s.toks + 1 } → wpAny (model X.prog X.w) X.A (f (.int i t) (.int j u)) Q E s) :
    OpR X f (rI C fun i j => .int (g i j)) := by
  intro pins s σ H x y v u Q I rx ry h
  obtain ⟨i, j, rfl, rfl, hc, q⟩ := h
  obtain ⟨t, rfl⟩ := rx
  obtain ⟨t', rfl⟩ := ry
  exact rule i j t t' s _ _ hc ⟨.int (g i j), H, I.tok _, ⟨_, rfl⟩, q⟩
theorem opI0 {f : Value → Value → Sem Value} {g : Int → Int → Int}
    (rule : ∀ (i j : Int) (t u : Tok) (s : Shared) (Q : Value → Shared → Prop) (E : Value → Shared → Prop), Q (.int (g i j) s.toks) { s with toks := s.toks + 1 } → wpAny (model X.prog X.w) X.A (f (.int i t) (.int j u)) Q E s) :
    OpR X f (rI0 fun i j => .int (g i j)) := by
  intro pins s σ H x y v u Q I rx ry h
  obtain ⟨i, j, rfl, rfl, q⟩ := h
  obtain ⟨t, rfl⟩ := rx
  obtain ⟨t', rfl⟩ := ry
  exact rule i j t t' s _ _ ⟨.int (g i j), H, I.tok _, ⟨_, rfl⟩, q⟩
theorem opB0 {f : Value → Value → Sem Value} {g : Int → Int → Bool}
    (rule : ∀ (i j : Int) (t u : Tok) (s : Shared) (Q : Value → Shared → Prop) (E : Value → Shared → Prop), Q (.bool (g i j)) s → wpAny (model X.prog X.w) X.A (f (.int i t) (.int j u)) Q E s) :
    OpR X f (rI0 fun i j => .bl (g i j)) := by
  intro pins s σ H x y v u Q I rx ry h
  obtain ⟨i, j, rfl, rfl, q⟩ := h
  obtain ⟨t, rfl⟩ := rx
  obtain ⟨t', rfl⟩ := ry
  exact rule i j t t' s _ _ ⟨.bl (g i j), H, I, rfl, q⟩
def CMul (i j : Int) : Prop := (-(2 ^ 64) < i ∧ i < 2 ^ 64) ∨ (-(2 ^ 64) < j ∧ j < 2 ^ 64)
theorem CMul.ok {i j : Int} (h : CMul i j) : IntMulOk i j := by
  rcases h with ⟨h1, h2⟩ | ⟨h1, h2⟩
  · exact .of_left (intBits_le_64 h1 h2)
  · exact .of_right (intBits_le_64 h1 h2)
theorem op_add : OpR X (binaryOp .Add) (rI0 fun i j => .int (i + j)) := opI0 fun _ _ _ _ _ _ _ q => add_int q
theorem op_sub : OpR X (binaryOp .Sub) (rI0 fun i j => .int (i - j)) := opI0 fun _ _ _ _ _ _ _ q => sub_int q
theorem op_mod : OpR X (binaryOp .Mod) (rI (fun _ j => 0 < j) fun i j => .int (i % j)) := opI fun i j _ _ _ _ _ hc q => by
  have h1 : (0 : Int) < j := hc
  exact mod_int' (by omega) (by rw [Int.fmod_eq_emod_of_nonneg i (by omega)]; exact q)
theorem unI {f : Value → Sem Value} {g : Int → Int}
    (rule : ∀ (i : Int) (t : Tok) (s : Shared) (Q : Value → Shared → Prop) (E : Value → Shared → Prop), Q (.int (g i) s.toks) { s with toks := s.toks + 1 } → wpAny (model X.prog X.w) X.A (f (.int i t)) Q E s) :
    UnR X f (rU fun i => .int (g i)) := by
  intro pins s σ H x v Q I rx h
  obtain ⟨i, rfl, q⟩ := h
  obtain ⟨t, rfl⟩ := rx
  exact rule i t s _ _ ⟨.int (g i), H, I.tok _, ⟨_, rfl⟩, q⟩
theorem un_neg : UnR X (unaryOp .USub) (rU fun i => .int (-i)) := unI fun _ _ _ _ _ q => neg_int q
end
def scal : V → V → Bool
  | .non, .non => true | .non, .int _ => true | .int _, .non => true | .non, .bl _ => true | .bl _, .non => true | .non, .str _ => true | .str _, .non => true
  | .int _, .int _ => true | .bl _, .bl _ => true | .str _, .str _ => true | .byt _, .byt _ => true
  | .int _, .str _ => true | .str _, .int _ => true | .bl _, .str _ => true | .str _, .bl _ => true
  | _, _ => false
def rEq : R2 := fun x y H Q => scal x y = true ∧ Q (.bl (decide (x = y))) H
def rNe : R2 := fun x y H Q => scal x y = true ∧ Q (.bl (!decide (x = y))) H
theorem dec_int {i j : Int} : decide (V.int i = V.int j) = (i == j) := by
  rw [Bool.eq_iff_iff]
  simp
theorem dec_bl {i j : Bool} : decide (V.bl i = V.bl j) = (i == j) := by
  rw [Bool.eq_iff_iff]
  simp
theorem dec_str {i j : Str} : decide (V.str i = V.str j) = (i == j) := by
  rw [Bool.eq_iff_iff]
  simp
theorem dec_byt {i j : Array UInt8} : decide (V.byt i = V.byt j) = (i.toList == j.toList) := by
  rw [Bool.eq_iff_iff]
  cases i
  cases j
  simp
section
variable {X : Cx} {a b c : Expr} {ta tb tc : TE} {pos : Pos}
theorem fin_bl {pins : List (Addr × Obj)} {σ : St} {H : Hp} {s : Shared} {Q : VK} {k k' : Bool} (I : Inv X pins σ H s) (q : Q (.bl k) H) (e : k = k') : EP X pins σ Q (.bool k') s := by
  subst e
  exact ⟨.bl k, H, I, rfl, q⟩
theorem op_eq : OpR X (compareOp .Eq) rEq := by
  intro pins s σ H x y v u Q I rx ry h
  obtain ⟨hs, q⟩ := h
  cases x with
  | non =>
    cases rx
    cases y with
    | non => cases ry; exact PySem.EqNone.eq_none_none (fin_bl I q (by simp))
    | bl j => cases ry; exact PySem.EqNone.eq_none_bool (fin_bl I q (by simp))
    | int j => obtain ⟨t', rfl⟩ := ry; exact PySem.EqNone.eq_none_int (fin_bl I q (by simp))
    | str j => obtain ⟨t', rfl⟩ := ry; exact PySem.EqNone.eq_none_str (fin_bl I q (by simp))
    | _ => exact absurd (show false = true from hs) Bool.false_ne_true
  | bl i =>
    cases rx
    cases y with
    | non => cases ry; exact PySem.EqNone.eq_bool_none (fin_bl I q (by simp))
    | bl j => cases ry; exact eq_bool (fin_bl I q dec_bl)
    | str j => obtain ⟨t', rfl⟩ := ry; exact PySem.EqMixed.eq_bool_str (fin_bl I q (by simp))
    | _ => exact absurd (show false = true from hs) Bool.false_ne_true
  | int i =>
    obtain ⟨t, rfl⟩ := rx
    cases y with
    | non => cases ry; exact PySem.EqNone.eq_int_none (fin_bl I q (by simp))
    | int j => obtain ⟨t', rfl⟩ := ry; exact eq_int (fin_bl I q dec_int)
    | str j => obtain ⟨t', rfl⟩ := ry; exact PySem.EqMixed.eq_int_str (fin_bl I q (by simp))
    | _ => exact absurd (show false = true from hs) Bool.false_ne_true
  | str i =>
    obtain ⟨t, rfl⟩ := rx
    cases y with
    | non => cases ry; exact PySem.EqNone.eq_str_none (fin_bl I q (by simp))
    | bl j => cases ry; exact PySem.EqMixed.eq_str_bool (fin_bl I q (by simp))
    | int j => obtain ⟨t', rfl⟩ := ry; exact PySem.EqMixed.eq_str_int (fin_bl I q (by simp))
    | str j => obtain ⟨t', rfl⟩ := ry; exact eq_str (fin_bl I q dec_str)
    | _ => exact absurd (show false = true from hs) Bool.false_ne_true
  | byt i =>
    obtain ⟨t, rfl⟩ := rx
    cases y with
    | byt j => obtain ⟨t', rfl⟩ := ry; exact PySem.W.eq_bytes (fin_bl I q dec_byt)
    | _ => exact absurd (show false = true from hs) Bool.false_ne_true
  | _ => cases y <;> exact absurd (show false = true from hs) Bool.false_ne_true
theorem op_ne : OpR X (compareOp .NotEq) rNe := by
  intro pins s σ H x y v u Q I rx ry h
  obtain ⟨hs, q⟩ := h
  cases x with
  | non =>
    cases rx
    cases y with
    | non => cases ry; exact PySem.EqNone.ne_none_none (fin_bl I q (by simp))
    | bl j => cases ry; exact PySem.EqNone.ne_none_bool (fin_bl I q (by simp))
    | int j => obtain ⟨t', rfl⟩ := ry; exact PySem.EqNone.ne_none_int (fin_bl I q (by simp))
    | str j => obtain ⟨t', rfl⟩ := ry; exact PySem.EqNone.ne_none_str (fin_bl I q (by simp))
    | _ => exact absurd (show false = true from hs) Bool.false_ne_true
  | bl i =>
    cases rx
    cases y with
    | non => cases ry; exact PySem.EqNone.ne_bool_none (fin_bl I q (by simp))
    | bl j => cases ry; exact ne_bool (fin_bl I q (congrArg not dec_bl))
    | str j => obtain ⟨t', rfl⟩ := ry; exact PySem.EqMixed.ne_bool_str (fin_bl I q (by simp))
    | _ => exact absurd (show false = true from hs) Bool.false_ne_true
  | int i =>
    obtain ⟨t, rfl⟩ := rx
    cases y with
    | non => cases ry; exact PySem.EqNone.ne_int_none (fin_bl I q (by simp))
    | int j => obtain ⟨t', rfl⟩ := ry; exact ne_int (fin_bl I q (congrArg not dec_int))
    | str j => obtain ⟨t', rfl⟩ := ry; exact PySem.EqMixed.ne_int_str (fin_bl I q (by simp))
    | _ => exact absurd (show false = true from hs) Bool.false_ne_true
  | str i =>
    obtain ⟨t, rfl⟩ := rx
    cases y with
    | non => cases ry; exact PySem.EqNone.ne_str_none (fin_bl I q (by simp))
    | bl j => cases ry; exact PySem.EqMixed.ne_str_bool (fin_bl I q (by simp))
    | int j => obtain ⟨t', rfl⟩ := ry; exact PySem.EqMixed.ne_str_int (fin_bl I q (by simp))
    | str j => obtain ⟨t', rfl⟩ := ry; exact ne_str (fin_bl I q (congrArg not dec_str))
    | _ => exact absurd (show false = true from hs) Bool.false_ne_true
  | byt i =>
    obtain ⟨t, rfl⟩ := rx
    cases y with
    | byt j => obtain ⟨t', rfl⟩ := ry; exact PySem.W.ne_bytes (fin_bl I q (congrArg not dec_byt))
    | _ => exact absurd (show false = true from hs) Bool.false_ne_true
  | _ => cases y <;> exact absurd (show false = true from hs) Bool.false_ne_true
theorem op_lt : OpR X (compareOp .Lt) (rI0 fun i j => .bl (decide (i < j))) := opB0 fun _ _ _ _ _ _ _ q => lt_int q
theorem op_le : OpR X (compareOp .LtE) (rI0 fun i j => .bl (decide (i ≤ j))) := opB0 fun _ _ _ _ _ _ _ q => le_int q
theorem op_gt : OpR X (compareOp .Gt) (rI0 fun i j => .bl (decide (j < i))) := opB0 fun _ _ _ _ _ _ _ q => gt_int q
theorem op_ge : OpR X (compareOp .GtE) (rI0 fun i j => .bl (decide (j ≤ i))) := opB0 fun _ _ _ _ _ _ _ q => ge_int q
theorem nomark (b : Expr) {op : CmpOp} (h : op ≠ .In := by decide) (h2 : op ≠ .NotIn := by decide) : behindInMarks op b = false := by
  have e1 : (op == CmpOp.In) = false := by cases op <;> first | rfl | exact absurd rfl h
  have e2 : (op == CmpOp.NotIn) = false := by cases op <;> first | rfl | exact absurd rfl h2
  cases b <;> simp [behindInMarks, e1, e2]
theorem pe_cmpR {op : CmpOp} {r : R2} (ho : OpR X (compareOp op) r) (ha : PE X a ta) (hb : PE X b tb) (hm : behindInMarks op b = false) : PE X (.Compare a [op] [b] pos) (tOp r ta tb) := by
  intro pins s σ H Q I h
  exact wpAny_Compare1 (binT ha hb I h fun v u s2 x y H2 I2 rx ry q => ho pins s2 σ H2 x y v u Q I2 rx ry q) hm
def tTest (t : TE) : TT := fun σ H Q => t σ H fun x H' => ∃ k, x = .bl k ∧ Q k H'
theorem pt_cmpR {op : CmpOp} {r : R2} (ho : OpR X (compareOp op) r) (ha : PE X a ta) (hb : PE X b tb) (hm : behindInMarks op b = false) : PT X (.Compare a [op] [b] pos) (tTest (tOp r ta tb)) := by
  intro pins s σ H Q I h
  refine wpAny_isTrue_Compare1 (thn (ha pins s σ H _ I h) fun v s1 ⟨x, H1, I1, r1, q1⟩ => thn (hb pins s1 σ H1 _ I1 q1) fun u s2 ⟨y, H2, I2, r2, q2⟩ =>
    thn (ho pins s2 σ H2 x y v u _ I2 r1 r2 q2) fun c s3 ⟨z, H3, I3, r3, k, e, q3⟩ => ?_) hm
  subst e
  cases r3
  exact wpAny_truthy_bool ⟨H3, I3, q3⟩
def tChain (r r' : R2) (ta tb tc : TE) : TE := fun σ H Q => ta σ H fun x H1 => tb σ H1 fun y H2 => r x y H2 fun z H3 => ∃ k, z = .bl k ∧
  (if k = true then tc σ H3 fun w' H4 => r' y w' H4 Q else Q (.bl false) H3)
theorem pe_chain {op op' : CmpOp} {r r' : R2} (ho : OpR X (compareOp op) r) (ho' : OpR X (compareOp op') r') (ha : PE X a ta) (hb : PE X b tb) (hc : PE X c tc)
    (hm : lastMarks [op, op'] [b, c] = false := by with_unfolding_all rfl) : PE X (.Compare a [op, op'] [b, c] pos) (tChain r r' ta tb tc) := by
  intro pins s σ H Q I h
  refine Compare_chain (thn (ha pins s σ H _ I h) fun v s1 ⟨x, H1, I1, r1, q1⟩ => chain_link (thn (hb pins s1 σ H1 _ I1 q1) fun u s2 ⟨y, H2, I2, r2, q2⟩ =>
    thn (ho pins s2 σ H2 x y v u _ I2 r1 r2 q2) fun d s3 ⟨z, H3, I3, r3, k, e, q3⟩ => ?_)) hm
  subst e
  cases r3
  refine wpAny_truthy_bool ?_
  cases k with
  | false => exact ite_ff ⟨.bl false, H3, I3, rfl, q3⟩
  | true => exact ite_tt (chain_last (thn (hc pins s3 σ H3 _ I3 q3) fun w' s4 ⟨z', H4, I4, r4, q4⟩ => ho' pins s4 σ H4 y z' u w' Q I4 r2 r4 q4))
theorem pt_chain {op op' : CmpOp} {r r' : R2} (ho : OpR X (compareOp op) r) (ho' : OpR X (compareOp op') r') (ha : PE X a ta) (hb : PE X b tb) (hc : PE X c tc)
    (hm : lastMarks [op, op'] [b, c] = false := by with_unfolding_all rfl) : PT X (.Compare a [op, op'] [b, c] pos) (tTest (tChain r r' ta tb tc)) := by
  intro pins s σ H Q I h
  refine isTrue_chain (thn (ha pins s σ H _ I h) fun v s1 ⟨x, H1, I1, r1, q1⟩ => test_link (thn (hb pins s1 σ H1 _ I1 q1) fun u s2 ⟨y, H2, I2, r2, q2⟩ =>
    thn (ho pins s2 σ H2 x y v u _ I2 r1 r2 q2) fun d s3 ⟨z, H3, I3, r3, k, e, q3⟩ => ?_)) hm
  subst e
  cases r3
  refine wpAny_truthy_bool ?_
  cases k with
  | false =>
    obtain ⟨k', e', q'⟩ := q3
    cases e'
    exact ite_ff ⟨H3, I3, q'⟩
  | true =>
    refine ite_tt (test_last (thn (hc pins s3 σ H3 _ I3 q3) fun w' s4 ⟨z', H4, I4, r4, q4⟩ => thn (ho' pins s4 σ H4 y z' u w' _ I4 r2 r4 q4) fun d' s5 ⟨z2, H5, I5, r5, k2, e2, q5⟩ => ?_))
    subst e2
    cases r5
    exact wpAny_truthy_bool ⟨H5, I5, q5⟩
theorem line63 : (sizeLine : Nat) < 2 ^ 63 := by rw [sizeLine_eq]; decide
theorem vals1 {x : V} {us : List Value} (r : Vals [x] us) : ∃ u, us = [u] ∧ RelV x u := by
  cases r with
  | cons r1 r2 => cases r2; exact ⟨_, rfl, r1⟩
end
end L2
namespace L2
open PySem PySem.Spec PyProof.Rows
structure ObjM (h : Heap) (x dx C : Addr) (mA : Str → Option Value) : Prop where
  obj : h.get? x = some (PySem.W.instObj C dx)
  ns : h.Ns1 dx mA
  ne : dx ≠ x
theorem lookIn_ns {h : Heap} {dx : Addr} {mA : Str → Option Value} (n : h.Ns1 dx mA) : ∃ od, h.get? dx = some od ∧ ∀ name, PySem.W.lookIn name od = some (mA name) := by
  obtain ⟨o, es, ep, ho, hd, hk, _, hm⟩ := n
  refine ⟨o, ho, fun name => ?_⟩
  have e := hm name
  unfold nsFind findBy at e
  rw [← Array.find?_toList] at e
  unfold PySem.W.lookIn
  rw [hd]
  dsimp only
  split
  · rename_i y q
    rw [q] at e
    exact congrArg some e
  · rename_i q
    rw [q] at e
    have a : es.toList.any (·.refKey) = false := by
      rw [List.any_eq_false]
      intro y hy
      obtain ⟨z, t, hkey⟩ := hk y (Array.mem_toList_iff.mp hy)
      simp [DictEntry.refKey, hkey]
    have a' : ¬ es.toList.any (·.refKey) = true := by rw [a]; exact Bool.false_ne_true
    rw [if_neg a']
    exact congrArg some e
theorem ObjM.look {h : Heap} {x dx C : Addr} {mA : Str → Option Value} (I : ObjM h x dx C mA) : ∃ od, PySem.W.InstAt h x (PySem.W.instObj C dx) C (some od) ∧ ∀ name, PySem.W.lookIn name od = some (mA name) :=
  let ⟨od, ho, hl⟩ := lookIn_ns I.ns
  ⟨od, ⟨I.obj, rfl, rfl, ho⟩, hl⟩
section
variable {prog : Program} {w : World} {A : Around} {E : Value → Shared → Prop} {s : Shared} {K : PySem.W.Frag} {x dx C f : Addr} {mA : Str → Option Value} {name : Str} {v : Value}
theorem get_map {expr : Bool} {Q : Value → Shared → Prop} (X : K.In s.heap) (I : ObjM s.heap x dx C mA) (hg : PySem.W.plainGet K C name = true) (hh : PySem.W.hasDictIn K C = true)
    (ha : PySem.W.findIn K (.ref C) name = some none) (hv : mA name = some v) (hv' : PySem.W.handedIn v = true) (h : Q v { s with toks := s.toks + 1 }) :
    wpAny (model prog w) A (getAttr (.ref x) name expr) Q E s := by
  obtain ⟨od, J, hl⟩ := I.look
  exact PySem.W.get_value X J (PySem.W.plainGet_of hg).1 (PySem.W.findObj_own hh ha rfl (by rw [hl, hv])) hv' h
theorem set_map {ns : List Str} {Q : Unit → Shared → Prop} (X : K.In s.heap) (I : ObjM s.heap x dx C mA)
    (hs : PySem.W.findIn K (.ref C) "__setattr__" = some (some (.builtin "object.__setattr__"))) (hp : PySem.W.plainOver K C = true) (ht : PySem.W.takerIn K C name = some none) (hh : PySem.W.hasDictIn K C = true)
    (hw : PySem.Within mA ns) (hsz : ns.length ≤ sizeLine)
    (h : ∀ h', ObjM h' x dx C (fun y => if y = name then some v else mA y) → Heap.SameBut dx s.heap h' → Q () { s with heap := h', toks := s.toks + 2 }) :
    wpAny (model prog w) A (setAttr (.ref x) name v) Q E s := by
  obtain ⟨od, J, hl⟩ := I.look
  refine PySem.W.set_plain X J hs (PySem.W.osa_open (s := { s with toks := s.toks + 1 }) (r := none) X J hp ht fun b => ?_)
  obtain ⟨cd, hc, hd'⟩ := PySem.W.any_some hh
  have hx : s.heap.get? x = some ⟨.ref C, some dx, .plain, #[]⟩ := I.obj
  refine wpAny_bind (wpAny_pure (wpAny_bind (wpAny_bind (wpAny_loadPart hx (wpAny_bind (PySem.W.Looks.here (s := { s with toks := s.toks + 1 }) (PySem.W.looks_clsIn X hc) ?_))))))
  rw [hd']
  refine wpAny_pure (a := some dx) (wpAny_bind (wpAny_pure (wpAny_bind ?_)))
  refine wpAny_nsSet1 (s := { s with toks := s.toks + 1 }) I.ns fun h' hn2 hs2 => ?_
  obtain ⟨oD, esD, epD, hoD, hdD, hcD⟩ := hn2.count (PySem.Within.cons name v hw)
  refine wpAny_bind (wpAny_lookBehind hoD (by rw [hdD]; exact pastItsLine_dict (Nat.le_trans hcD (by rw [List.length_cons]; omega))) ?_)
  exact wpAny_pure (h _ ⟨(hs2.2 _ (Ne.symm I.ne)).trans I.obj, hn2, I.ne⟩ hs2)
theorem make_map {R : Result → Shared → Prop} {vs : List Value} {kw : List (Str × Value)} (X : K.In s.heap) (hm : PySem.W.makesIn K C = true)
    (hi : PySem.W.findIn K (.ref C) "__init__" = some (some (.ref f))) (hf : PySem.W.typeIn K (.ref f) = some (.type "function"))
    (h : codeAny (model prog w) (A.under (.builtin "type.__call__" ⟨.ref C :: vs, kw⟩)) (.call (.ref f) ⟨.ref (s.heap.objs.size + 1) :: vs, kw⟩) (PySem.W.InitBack (s.heap.objs.size + 1) R)
      { s with heap := (s.heap.push PySem.W.emptyDict).push (PySem.W.instObj C s.heap.objs.size) }) :
    codeAny (model prog w) A (.call (.ref C) ⟨vs, kw⟩) R s := by
  obtain ⟨hh, g, d, t, os⟩ := s
  exact PySem.W.make_core (PySem.W.makes_of X hm) (PySem.W.looks_findIn X hi) (fun self => PySem.W.bind_fn X self hf) (.inl rfl) h
end
def putF (f : Str) (v : V) : List (Str × V) → List (Str × V)
  | [] => [(f, v)]
  | (g, x) :: r => if g = f then (g, v) :: r else (g, x) :: putF f v r
theorem lookup_putF (f g : Str) (v : V) : ∀ fs : List (Str × V), (putF f v fs).lookup g = if g = f then some v else fs.lookup g
  | [] => by
    show List.lookup g [(f, v)] = _
    by_cases h : g = f
    · have hb : (g == f) = true := beq_iff_eq.mpr h
      simp only [List.lookup, hb, if_pos h]
    · have hb : (g == f) = false := beq_eq_false_iff_ne.mpr h
      simp only [List.lookup, hb, if_neg h]
  | (k, x) :: r => by
    have ih := lookup_putF f g v r
    rw [show putF f v ((k, x) :: r) = (if k = f then (k, v) :: r else (k, x) :: putF f v r) from rfl]
    by_cases hk : k = f
    · rw [if_pos hk]
      by_cases h : g = k
      · have hb : (g == k) = true := beq_iff_eq.mpr h
        simp only [List.lookup, hb, if_pos (h.trans hk)]
      · have hb : (g == k) = false := beq_eq_false_iff_ne.mpr h
        simp only [List.lookup, hb, if_neg (fun e : g = f => h (e.trans hk.symm))]
    · rw [if_neg hk]
      by_cases h : g = k
      · have hb : (g == k) = true := beq_iff_eq.mpr h
        simp only [List.lookup, hb, if_neg (fun e : g = f => hk (h.symm.trans e))]
      · have hb : (g == k) = false := beq_eq_false_iff_ne.mpr h
        simp only [List.lookup, hb]
        exact ih
theorem keys_putF (f : Str) (v : V) : ∀ fs : List (Str × V), f ∈ (putF f v fs).map (·.1) ∧ ∀ g, g ∈ fs.map (·.1) → g ∈ (putF f v fs).map (·.1)
  | [] => ⟨by simp [putF], fun g h => by simp at h⟩
  | (k, x) :: r => by
    obtain ⟨i1, i2⟩ := keys_putF f v r
    rw [show putF f v ((k, x) :: r) = (if k = f then (k, v) :: r else (k, x) :: putF f v r) from rfl]
    by_cases hk : k = f
    · rw [if_pos hk]
      subst hk
      exact ⟨by simp, fun g h => by simpa using h⟩
    · rw [if_neg hk]
      refine ⟨?_, fun g h => ?_⟩
      · rw [List.map_cons]
        exact List.mem_cons_of_mem _ i1
      · rw [List.map_cons] at h ⊢
        rcases List.mem_cons.mp h with e | e
        · exact List.mem_cons.mpr (.inl e)
        · exact List.mem_cons_of_mem _ (i2 g e)
theorem length_putF (f : Str) (v : V) : ∀ fs : List (Str × V), (putF f v fs).length ≤ fs.length + 1
  | [] => by simp [putF]
  | (k, x) :: r => by
    have ih := length_putF f v r
    rw [show putF f v ((k, x) :: r) = (if k = f then (k, v) :: r else (k, x) :: putF f v r) from rfl]
    by_cases hk : k = f
    · rw [if_pos hk, List.length_cons, List.length_cons]; omega
    · rw [if_neg hk, List.length_cons, List.length_cons]; omega
theorem RelO.some_of {v : V} {o : Option Value} (r : RelO (some v) o) : ∃ u, o = some u ∧ RelV v u := by
  cases o with
  | none => exact (show False from r).elim
  | some u => exact ⟨u, rfl, r⟩
theorem RelO.none_of {o : Option Value} (r : RelO none o) : o = none := by
  cases o with
  | none => rfl
  | some u => exact (show False from r).elim
theorem handed_of {v : V} {u : Value} (r : RelV v u) : PySem.W.handedIn u = true := by
  cases v with
  | non => cases (show u = Value.none from r); rfl
  | bl b => cases (show u = Value.bool b from r); rfl
  | int i => obtain ⟨t, e⟩ := (show ∃ t, u = Value.int i t from r); cases e; rfl
  | str x => obtain ⟨t, e⟩ := (show ∃ t, u = Value.str x t from r); cases e; rfl
  | byt b => obtain ⟨t, e⟩ := (show ∃ t, u = Value.bytes b t from r); cases e; rfl
  | flt b => obtain ⟨t, e⟩ := (show ∃ t, u = Value.float b t from r); cases e; rfl
  | ref a => cases (show u = Value.ref a from r); rfl
  | ty n => cases (show u = Value.type n from r); rfl
section
variable {P : Program} {w : World} {H H' : Hp} {h h' : Heap} {a C dx : Addr} {fs fs' : List (Str × V)}
theorem ins_get (hok : HOk P w H h) (e : H a = some (.ins C dx fs)) : ∃ mA, ObjM h a dx C mA ∧ (∀ f, RelO (fs.lookup f) (mA f)) ∧ PySem.Within mA (fs.map (·.1)) ∧ fs.length ≤ 1000 ∧ H dx = some (.own a) := by
  obtain ⟨d, z, ne, ob, mA, n, r, q⟩ := (show ObjOk P w H h a (.ins C dx fs) from hok a _ e)
  exact ⟨mA, ⟨ob, n, ne⟩, r, q, z, d⟩
end
structure Cls (K : PySem.W.Frag) (C : Addr) : Prop where
  pg : PySem.W.plainGet K C Str.empty = true
  hd : PySem.W.hasDictIn K C = true
  po : PySem.W.plainOver K C = true
  sa : PySem.W.findIn K (.ref C) "__setattr__" = some (some (.builtin "object.__setattr__"))
theorem Cls.get {K : PySem.W.Frag} {C : Addr} (c : Cls K C) (f : Str) : PySem.W.plainGet K C f = true := c.pg
def NoAttr (K : PySem.W.Frag) (C : Addr) (f : Str) : Prop := PySem.W.findIn K (.ref C) f = some none
theorem NoAttr.taker {K : PySem.W.Frag} {C : Addr} {f : Str} (n : NoAttr K C f) : PySem.W.takerIn K C f = some none := by
  unfold PySem.W.takerIn
  rw [show PySem.W.findIn K (.ref C) f = some none from n]
  rfl
section
variable {X : Cx} {pins : List (Addr × Obj)} {σ : St} {H : Hp} {s : Shared} {a C dx : Addr} {fs : List (Str × V)} {f : Str} {v : V} {A : Around} {E : Value → Shared → Prop}
theorem getattr_ok {b : Bool} {Q : Value → Shared → Prop} (I : Inv X pins σ H s) (e : H a = some (.ins C dx fs)) (c : Cls X.K C) (n : NoAttr X.K C f) (l : fs.lookup f = some v)
    (h : ∀ u s', Inv X pins σ H s' → RelV v u → Q u s') : wpAny (model X.prog X.w) A (getAttr (.ref a) f b) Q E s := by
  obtain ⟨mA, O, r, _, _, _⟩ := ins_get I.hok e
  obtain ⟨u, hu, ru⟩ := RelO.some_of (v := v) (o := mA f) (by rw [← l]; exact r f)
  exact get_map I.kIn O (c.get f) c.hd n hu (handed_of ru) (h u _ (I.tok _) ru)
theorem setattr_ok {y : V} {u : Value} {Q : Unit → Shared → Prop} (I : Inv X pins σ H s) (e : H a = some (.ins C dx fs)) (c : Cls X.K C) (n : NoAttr X.K C f) (hl : fs.length < 1000) (ry : RelV y u)
    (h : ∀ s', Inv X pins σ (upd H a (.ins C dx (putF f y fs))) s' → Q () s') : wpAny (model X.prog X.w) A (setAttr (.ref a) f u) Q E s := by
  obtain ⟨mA, O, r, wi, _, ho⟩ := ins_get I.hok e
  have hz : (fs.map (·.1)).length ≤ sizeLine := by rw [List.length_map, sizeLine_eq]; omega
  refine set_map I.kIn O c.sa c.po n.taker c.hd wi hz fun h' O' sb => h _ ?_
  have hd : ∃ o, h'.get? dx = some o := let ⟨o, _, _, e', _⟩ := O'.ns; ⟨o, e'⟩
  refine I.write (x := a) (e := dx) (by rw [e]; exact True.intro) (.inr ho) (fun b q hb z => (sb.2 b hb).trans z) hd ?_
  refine ⟨by rw [upd_ne O.ne]; exact ho, ?_, O.ne, O'.obj, _, O'.ns, fun g => ?_, fun g hg => ?_⟩
  · have := length_putF f y fs; omega
  · show RelO ((putF f y fs).lookup g) (if g = f then some u else mA g)
    rw [lookup_putF]
    by_cases q : g = f
    · rw [if_pos q, if_pos q]; exact ry
    · rw [if_neg q, if_neg q]; exact r g
  · by_cases q : g = f
    · rw [q]; exact (keys_putF f y fs).1
    · refine (keys_putF f y fs).2 g (wi g fun z => hg ?_)
      show (if g = f then some u else mA g) = none
      rw [if_neg q]; exact z
theorem Inv.made (I : Inv X pins σ H s) : Inv X pins σ (upd (upd H s.heap.objs.size (.own (s.heap.objs.size + 1))) (s.heap.objs.size + 1) (.ins C s.heap.objs.size []))
    { s with heap := (s.heap.push PySem.W.emptyDict).push (PySem.W.instObj C s.heap.objs.size) } := by
  have e1 : (s.heap.push PySem.W.emptyDict).get? s.heap.objs.size = some PySem.W.emptyDict := Heap.get?_push_size s.heap rfl
  have e2 : ((s.heap.push PySem.W.emptyDict).push (PySem.W.instObj C s.heap.objs.size)).get? (s.heap.objs.size + 1) = some (PySem.W.instObj C s.heap.objs.size) := by
    have := Heap.get?_push_size (s.heap.push PySem.W.emptyDict) (o := PySem.W.instObj C s.heap.objs.size) rfl
    rwa [Heap.size_push] at this
  have e3 : (s.heap.push PySem.W.emptyDict).Ns s.heap.objs.size (fun _ => none) := ⟨PySem.W.emptyDict, #[], _, e1, rfl, (fun e he => absurd he (by simp)), fun _ => rfl⟩
  have I1 := I.laid (a := s.heap.objs.size) (o := .own (s.heap.objs.size + 1)) (h' := s.heap.push PySem.W.emptyDict) (t' := s.toks) (fun b u q => Heap.get?_push_of_some _ q) (Nat.le_refl _) ⟨_, e1⟩
  refine I1.laid (a := s.heap.objs.size + 1) (o := .ins C s.heap.objs.size []) (t' := s.toks) (fun b u q => Heap.get?_push_of_some _ q) (Nat.le_of_eq (Heap.size_push _ _)) ?_
  have ne : s.heap.objs.size ≠ s.heap.objs.size + 1 := Nat.ne_of_lt (Nat.lt_succ_self _)
  refine ⟨by rw [upd_ne ne, upd_same], Nat.zero_le _, ne, e2, fun _ => none, (Heap.Ns1.of_empty e3).at fun o q => Heap.get?_push_of_some _ q, fun _ => True.intro, fun y hy => absurd rfl hy⟩
theorem attr_of {prog : Program} {w : World} {env : Env} {e : Expr} {f : Str} {pos : Pos} {s : Shared} {Q : Value → Shared → Prop} (hb : attributeBase e f env (eval e env) = eval e env)
    (h : wpAny (model prog w) A (eval e env) (fun o s₁ => wpAny (model prog w) A (getAttr o f true) Q E s₁) E s) : wpAny (model prog w) A (eval (.Attribute e f pos) env) Q E s :=
  Attribute_any_ h (by rw [arm_eval_Attribute, hb])
end
def tFld (K : PySem.W.Frag) (ta : TE) (f : Str) : TE := fun σ H Q => ta σ H fun x H1 => ∃ a C dx fs v, x = .ref a ∧ H1 a = some (.ins C dx fs) ∧ Cls K C ∧ NoAttr K C f ∧ fs.lookup f = some v ∧ Q v H1
def sFld (K : PySem.W.Frag) (ta tv : TE) (f : Str) : TS := fun D σ H => tv σ H fun y H1 => ta σ H1 fun x H2 => ∃ a C dx fs, x = .ref a ∧ H2 a = some (.ins C dx fs) ∧ Cls K C ∧ NoAttr K C f ∧ fs.length < 1000 ∧
  D.nx σ (upd H2 a (.ins C dx (putF f y fs)))
section
variable {X : Cx} {o e value : Expr} {f : Str} {pos pos' tpos : Pos} {ta tv : TE}
theorem pe_fld (he : PE X e ta) (hb : attributeBase e f X.env (eval e X.env) = eval e X.env) : PE X (.Attribute e f pos) (tFld X.K ta f) := by
  intro pins s σ H Q I h
  refine attr_of hb (thn (he pins s σ H _ I h) fun u s1 ⟨x, H1, I1, rx, a, C, dx, fs, v, ex, ea, c, n, l, q⟩ => ?_)
  subst ex
  obtain rfl : u = Value.ref a := rx
  exact getattr_ok I1 ea c n l fun u' s2 I2 ru => ⟨v, H1, I2, ru, q⟩
theorem ps_fld (ha : PE X o ta) (hv : PE X value tv) (hs : swapsWith value (some (.Attribute o f pos')) pos.line X.env = pure false) : PS X (.Assign [.Attribute o f pos'] value pos) (sFld X.K ta tv f) := by
  intro pins s σ H D I h
  refine plainObj_wpAny_Assign_Attribute (thn (hv pins s σ H _ I h) fun u s1 ⟨y, H1, I1, ry, q⟩ => thn (ha pins s1 σ H1 _ I1 q) fun ov s2 ⟨x, H2, I2, rx, a, C, dx, fs, ex, ea, c, n, l, q2⟩ => ?_) hs
  subst ex
  obtain rfl : ov = Value.ref a := rx
  exact setattr_ok I2 ea c n l ry fun s3 I3 => ⟨σ, _, I3, q2⟩
end
section
variable {X : Cx} {pins : List (Addr × Obj)} {σ : St} {H : Hp} {s : Shared} {A : Around} {E : Value → Shared → Prop} {Q : Value → Shared → Prop} {c : Value} {b : Bool}
end
end L2
namespace L2
open PySem PySem.Spec PyProof.Rows
structure Room (k : Nat) (A : Around) : Prop where
  hd : A.handled = none
  dp : A.depth + 3 * k + 5 < recursionLimit
  un : A.units + 16 * k + 200 < cLine
theorem Room.mono {j k : Nat} {A : Around} (r : Room k A) (h : j ≤ k) : Room j A := ⟨r.hd, by have := r.dp; omega, by have := r.un; omega⟩
theorem Room.deeper {k : Nat} {A : Around} (r : Room (k + 1) A) (env : Env) : Room k (A.deeper env) :=
  ⟨r.hd, by have := r.dp; show A.depth + 1 + 3 * k + 5 < _; omega, by have := r.un; show A.units + 3 + 16 * k + 200 < _; omega⟩
theorem Room.in1 {k : Nat} {A : Around} (r : Room (k + 1) A) : Room k A.in1 :=
  ⟨r.hd, by have := r.dp; show A.depth + 3 * k + 5 < _; omega, by have := r.un; show A.units + 1 + 16 * k + 200 < _; omega⟩
theorem make_depth {A : Around} {C : Addr} {us : List Value} {kw : List (Str × Value)} : (A.under (.builtin "type.__call__" ⟨.ref C :: us, kw⟩)).depth = A.depth + 1 := by
  first | rfl | simp [Around.under, Code.weight, Code.isCreation, Code.isGuard, Code.isCaller, Code.frames, Code.isFrame, guardIds]
theorem make_units {A : Around} {C : Addr} {us : List Value} {kw : List (Str × Value)} : (A.under (.builtin "type.__call__" ⟨.ref C :: us, kw⟩)).units = A.units + 1 := by
  first | rfl | simp [Around.under, Code.cUnits, Code.frames, Code.isFrame]
theorem Room.make {k : Nat} {A : Around} (r : Room (k + 1) A) (C : Addr) (us : List Value) (kw : List (Str × Value)) : Room k (A.under (.builtin "type.__call__" ⟨.ref C :: us, kw⟩)) :=
  ⟨r.hd, by have := r.dp; rw [make_depth]; omega, by have := r.un; rw [make_units]; omega⟩
theorem Room.depth {k : Nat} {A : Around} (r : Room k A) : A.depth < recursionLimit := by have := r.dp; omega
theorem Room.units {k : Nat} {A : Around} (r : Room k A) : A.units + 64 < cLine := by have := r.un; omega
def tNil : TA := fun _ H Q => Q [] H
def tCons (ta : TE) (tr : TA) : TA := fun σ H Q => ta σ H fun x H1 => tr σ H1 fun xs H2 => Q (x :: xs) H2
section
variable {X : Cx} {e : Expr} {es : List Expr} {te : TE} {t : TA} {pos : Pos}
theorem pa_nil : PA X [] tNil := fun _ _ _ _ H Q I h => Calls.spliced_nil ⟨[], H, I, .nil, h⟩
theorem pa_cons (ha : PE X e te) (hr : PA X es t) (hs : starEach (e :: es) X.env = (false, eval e X.env) :: starEach es X.env := by rfl) : PA X (e :: es) (tCons te t) := by
  intro pos pins s σ H Q I h
  rw [hs]
  show wpAny _ _ (spliced ((false, eval e X.env) :: backTo pos (starEach es X.env))) _ _ s
  refine Calls.spliced_cons (thn (ha pins s σ H _ I h) fun u s1 ⟨x, H1, I1, r1, q1⟩ => ?_)
  exact thn (hr pos pins s1 σ H1 _ I1 q1) fun us s2 ⟨xs, H2, I2, r2, q2⟩ => ⟨x :: xs, H2, I2, .cons r1 r2, q2⟩
def tTup (t : TA) : TE := fun σ H Q => t σ H fun xs H1 => xs.length ≤ sizeLine ∧ ∀ p, H1 p = none → Q (.ref p) (upd H1 p (.tup xs))
def tLst (t : TA) : TE := fun σ H Q => t σ H fun xs H1 => xs.length ≤ sizeLine ∧ ∀ p, H1 p = none → Q (.ref p) (upd H1 p (.lst xs))
theorem pe_tup {x1} (h : PA X es t) : PE X (.Tuple es x1 pos) (tTup t) := by
  intro pins s σ H Q I hq
  refine wpAny_Tuple_spliced (thn (h pos pins s σ H _ I hq) fun us s1 ⟨xs, H1, I1, r, z, q⟩ => ⟨by rw [← r.length]; exact z, ?_⟩)
  have hf : H1 s1.heap.objs.size = none := I1.hok.fresh (Nat.le_refl _)
  refine ⟨.ref s1.heap.objs.size, upd H1 s1.heap.objs.size (.tup xs), I1.laid (t' := s1.toks) (fun b u e => Heap.get?_push_of_some _ e) (Nat.le_refl _) ?_, rfl, q _ hf⟩
  exact ⟨z, us, r, ⟨_, Heap.get?_push_size _ rfl, rfl, _, rfl⟩⟩
end
abbrev Sp := List V → Hp → VK → XK → Prop
abbrev CXT := List Env → Hp → Shared → XK → Value → Shared → Prop
structure Env0 (P : Program) (w : World) (K : PySem.W.Frag) (mg : Str → Option Value) (base : Heap) (A : Around) (outer : List Env) (s : Shared) (H : Hp) : Prop where
  frames : A.frames = some outer
  mod : Mod K mg base
  bs : ∀ b o, base.get? b = some o → s.heap.get? b = some o ∧ H b = none
  bsz : base.objs.size ≤ s.heap.objs.size
  funs : s.heap.FunFrames base outer
  frf : ∀ b ∈ frs outer, H b = none
  hok : HOk P w H s.heap
  bare : AllBare s.gens
def CE (outer : List Env) (P : Program) (w : World) (H : Hp) (s : Shared) (Q : VK) (u : Value) (s' : Shared) : Prop :=
  ∃ v H', s'.os = s.os ∧ AllBare s'.gens ∧ Un (frs outer) [] H H' s.heap s'.heap ∧ HOk P w H' s'.heap ∧ RelV v u ∧ Q v H'
def CR (CX : CXT) (outer : List Env) (P : Program) (w : World) (H : Hp) (s : Shared) (Q : VK) (E : XK) (r : Result) (s' : Shared) : Prop :=
  match r with
  | .ok (.ret u) => CE outer P w H s Q u s'
  | .ok _ => False
  | .error e => CX outer H s E e s'
structure FnOk (P : Program) (w : World) (K : PySem.W.Frag) (mg : Str → Option Value) (base : Heap) (CX : CXT) (k : Nat) (f : Addr) (fd : FuncData) (ps : List Str) (sp : Sp) : Prop where
  len : ∀ vs H Q E, sp vs H Q E → vs.length = ps.length
  run : ∀ (A : Around) (outer : List Env) (s : Shared) (H : Hp) (args : Args) (us : List Value) (vs : List V) (Q : VK) (E : XK), Room k A → Env0 P w K mg base A outer s H → BindsTo s fd args (ps.zip us) → Vals vs us → sp vs H Q E →
    codeAny (model P w) A (.call (.ref f) args) (CR CX outer P w H s Q E) s
theorem FnOk.mono {P : Program} {w : World} {K : PySem.W.Frag} {mg : Str → Option Value} {base : Heap} {CX : CXT} {j k : Nat} {f : Addr} {fd : FuncData} {ps : List Str} {sp : Sp} (F : FnOk P w K mg base CX j f fd ps sp) (h : j ≤ k) :
    FnOk P w K mg base CX k f fd ps sp := ⟨F.len, fun A outer s H args us vs Q E hr => F.run A outer s H args us vs Q E (hr.mono h)⟩
theorem FnOk.imp {P : Program} {w : World} {K : PySem.W.Frag} {mg : Str → Option Value} {base : Heap} {CX : CXT} {k : Nat} {f : Addr} {fd : FuncData} {ps : List Str} {sp sp' : Sp} (F : FnOk P w K mg base CX k f fd ps sp)
    (h : ∀ vs H Q E, sp' vs H Q E → sp vs H Q E) : FnOk P w K mg base CX k f fd ps sp' :=
  ⟨fun vs H Q E q => F.len vs H Q E (h _ _ _ _ q), fun A outer s H args us vs Q E hr he hb hv hs => F.run A outer s H args us vs Q E hr he hb hv (h _ _ _ _ hs)⟩
theorem Env0.make {P : Program} {w : World} {K : PySem.W.Frag} {mg : Str → Option Value} {base : Heap} {A : Around} {outer : List Env} {s : Shared} {H : Hp} (e : Env0 P w K mg base A outer s H) (C : Addr) (us : List Value) (kw : List (Str × Value)) :
    Env0 P w K mg base (A.under (.builtin "type.__call__" ⟨.ref C :: us, kw⟩)) outer s H := ⟨by first | exact e.frames | (simpa [Around.under, Code.envs, Code.isFrame, pushEnvs] using e.frames), e.mod, e.bs, e.bsz, e.funs, e.frf, e.hok, e.bare⟩
theorem Env0.in1 {P : Program} {w : World} {K : PySem.W.Frag} {mg : Str → Option Value} {base : Heap} {A : Around} {outer : List Env} {s : Shared} {H : Hp} (e : Env0 P w K mg base A outer s H) :
    Env0 P w K mg base A.in1 outer s H := ⟨e.frames, e.mod, e.bs, e.bsz, e.funs, e.frf, e.hok, e.bare⟩
section
variable {X : Cx} {pins : List (Addr × Obj)} {σ : St} {H : Hp} {s s' : Shared}
theorem Inv.env0 (I : Inv X pins σ H s) : Env0 X.prog X.w X.K X.mg X.base X.A X.stack s H :=
  ⟨I.ok.frames, I.ok.mod, I.bs, Nat.le_trans I.ok.bsz I.sz, I.stack, I.stkFree, I.hok, I.bare⟩
theorem Inv.after {Q : VK} {u : Value} (I : Inv X pins σ H s) (h : CE X.stack X.prog X.w H s Q u s') : EP X pins σ Q u s' := by
  obtain ⟨v, H', os, bare, un, hok, r, q⟩ := h
  obtain ⟨hh, g, d, t, os'⟩ := s'
  obtain rfl : os' = s.os := os
  exact ⟨v, H', I.call (h' := hh) (g' := g) (d' := d) (t' := t) (ch := []) un hok bare (fun b z => absurd z (by simp)), r, q⟩
end
def tCall (sp : Sp) (dvs : List V) (E : XK) (t : TA) : TE := fun σ H Q => t σ H fun vs H1 => sp (vs ++ dvs) H1 Q E
def tMake (C : Addr) (sp : Sp) (dvs : List V) (E : XK) (t : TA) : TE := fun σ H Q => t σ H fun vs H1 => ∀ x dx, H1 x = none → H1 dx = none → dx ≠ x →
  sp (.ref x :: (vs ++ dvs)) (upd (upd H1 dx (.own x)) x (.ins C dx [])) (fun v H2 => v = .non ∧ Q (.ref x) H2) E
def Binds (K : PySem.W.Frag) (fd : FuncData) (ps : List Str) (ds : List Value) : Prop :=
  ∀ (s : Shared) (us : List Value), K.In s.heap → (us ++ ds).length = ps.length → BindsTo s fd ⟨us, []⟩ (ps.zip (us ++ ds))
theorem Binds.all {K : PySem.W.Frag} {fd : FuncData} {ps : List Str} (h : ∀ us : List Value, us.length = ps.length → bindArgs fd ⟨us, []⟩ = pure (ps.zip us)) : Binds K fd ps [] := fun s us _ hl => by
  rw [List.append_nil] at hl ⊢
  exact .of_eq (h us hl)
def Passes (CX : CXT) (X : Cx) (E : XK) : Prop := ∀ (pins : List (Addr × Obj)) (σ : St) (H : Hp) (s : Shared) (e : Value) (s' : Shared), Inv X pins σ H s → CX X.stack H s E e s' → X.xe e s'
section
variable {X : Cx} {CX : CXT} {k : Nat} {f C : Addr} {fd : FuncData} {ps : List Str} {sp : Sp} {dvs : List V} {ds : List Value} {E : XK} {x m : Str} {p pos apos : Pos} {e o : Expr} {es : List Expr} {ta : TE} {t : TA}
theorem run_fn {pins : List (Addr × Obj)} {σ : St} {H : Hp} {s : Shared} {Q : VK} {us : List Value} {vs : List V} (F : FnOk X.prog X.w X.K X.mg X.base CX k f fd ps sp) (hr : Room k X.A) (hb : Binds X.K fd ps ds) (hd : Vals dvs ds) (hx : Passes CX X E)
    (I : Inv X pins σ H s) (r : Vals vs us) (h : sp (vs ++ dvs) H Q E) : wpAny (model X.prog X.w) X.A (call (.ref f) us) (EP X pins σ Q) X.xe s := by
  have r2 : Vals (vs ++ dvs) (us ++ ds) := r.append hd
  have hl : (us ++ ds).length = ps.length := by rw [← r2.length]; exact F.len _ _ _ _ h
  refine wpAny_call (codeAny_mono (F.run X.A X.stack s H ⟨us, []⟩ (us ++ ds) (vs ++ dvs) Q E hr I.env0 (hb s us I.kIn hl) r2 h) fun r s' hq => ?_)
  cases r with
  | error e => exact hx pins σ H s e s' I hq
  | ok fl =>
    cases fl with
    | ret u => exact I.after hq
    | next => exact False.elim hq
    | brk => exact False.elim hq
    | cont => exact False.elim hq
theorem pe_call (F : FnOk X.prog X.w X.K X.mg X.base CX k f fd ps sp) (hr : Room k X.A) (hg : Gl X x) (hm : X.mg x = some (.ref f)) (hk : PySem.W.keepIn X.K (.ref f) = true) (hb : Binds X.K fd ps ds) (hd : Vals dvs ds) (hx : Passes CX X E)
    (ha : PA X (e :: es) t) (hdb : (x == ("__debug__" : Str)) = false := by decide) (he : starEach (e :: es) X.env = (false, eval e X.env) :: starEach es X.env := by rfl) (hpl : (backTo pos (starEach es X.env)).any (·.1) = false := by rfl) :
    PE X (.Call (.Name x p) (e :: es) [] pos) (tCall sp dvs E t) := by
  intro pins s σ H Q I h
  refine wpAny_Call_Name_kw (ld_glob I hg hm ?_ hdb)
  refine PySem.W.callWith_K (h₀ := X.base) I.ok.mod.kin hk (thn (ha pos pins s σ H _ I h) fun us s1 ⟨vs, H1, I1, r, q⟩ => ⟨I1.kIn, ?_⟩) he hpl
  exact run_fn F hr hb hd hx I1 r q
structure Mk (K : PySem.W.Frag) (C f : Addr) : Prop where
  makes : PySem.W.makesIn K C = true
  init : PySem.W.findIn K (.ref C) "__init__" = some (some (.ref f))
  fn : PySem.W.isFn K (.ref f) = true
  kp : PySem.W.keepIn K (.ref C) = true
theorem run_make {pins : List (Addr × Obj)} {σ : St} {H : Hp} {s : Shared} {Q : VK} {us : List Value} {vs : List V} (M : Mk X.K C f) (F : FnOk X.prog X.w X.K X.mg X.base CX k f fd ps sp) (hr : Room (k + 1) X.A) (hb : Binds X.K fd ps ds) (hd : Vals dvs ds)
    (hx : Passes CX X E) (I : Inv X pins σ H s) (r : Vals vs us)
    (h : ∀ x dx, H x = none → H dx = none → dx ≠ x → sp (.ref x :: (vs ++ dvs)) (upd (upd H dx (.own x)) x (.ins C dx [])) (fun v H2 => v = .non ∧ Q (.ref x) H2) E) :
    wpAny (model X.prog X.w) X.A (call (.ref C) us) (EP X pins σ Q) X.xe s := by
  have hq := h (s.heap.objs.size + 1) s.heap.objs.size (I.hok.fresh (Nat.le_succ _)) (I.hok.fresh (Nat.le_refl _)) (Nat.ne_of_lt (Nat.lt_succ_self _))
  have I2 := Inv.made (C := C) I
  have r2 : Vals (V.ref (s.heap.objs.size + 1) :: (vs ++ dvs)) (Value.ref (s.heap.objs.size + 1) :: (us ++ ds)) := .cons rfl (r.append hd)
  have hl : (Value.ref (s.heap.objs.size + 1) :: us ++ ds).length = ps.length := by
    have e := r2.length
    rw [F.len _ _ _ _ hq] at e
    exact e.symm
  refine wpAny_call (make_map (f := f) I.kIn M.makes M.init (beq_iff_eq.mp M.fn) (codeAny_mono (F.run _ X.stack _ _ ⟨Value.ref (s.heap.objs.size + 1) :: us, []⟩ (Value.ref (s.heap.objs.size + 1) :: (us ++ ds)) _ _ E (hr.make C us [])
    (I2.env0.make C us []) (hb _ (Value.ref (s.heap.objs.size + 1) :: us) I2.kIn hl) r2 hq) fun r s' hq' => ?_))
  cases r with
  | error e => exact hx pins σ _ _ e s' I2 hq'
  | ok fl =>
    cases fl with
    | ret u =>
      obtain ⟨v, H', I3, rv, ev, q3⟩ := I2.after hq'
      subst ev
      exact ⟨rv, ⟨V.ref (s.heap.objs.size + 1), H', I3, rfl, q3⟩⟩
    | next => exact False.elim hq'
    | brk => exact False.elim hq'
    | cont => exact False.elim hq'
theorem pe_make0 (M : Mk X.K C f) (F : FnOk X.prog X.w X.K X.mg X.base CX k f fd ps sp) (hr : Room (k + 1) X.A) (hg : Gl X x) (hm : X.mg x = some (.ref C)) (hb : Binds X.K fd ps ds) (hd : Vals dvs ds) (hx : Passes CX X E)
    (hdb : (x == ("__debug__" : Str)) = false := by decide) : PE X (.Call (.Name x p) [] [] pos) (tMake C sp dvs E tNil) := by
  intro pins s σ H Q I h
  refine wpAny_Call_Name_kw (ld_glob I hg hm ?_ hdb)
  exact PySem.W.callWith_K0 I.kIn M.kp (run_make (us := []) M F hr hb hd hx I .nil h)
end
section
variable {X : Cx} {CX : CXT} {k : Nat} {f C : Addr} {fd : FuncData} {ps ks : List Str} {sp : Sp} {E : XK} {x m : Str} {p pos apos kpos : Pos} {e o : Expr} {es : List Expr} {kws : List Keyword} {te ta : TE} {t tk : TA} {nm : Option Str}
variable {g : List Value → List Value → List Value} {gV : List V → List V → List V}
end
structure FnScope (N P : List Str) (sc : Scope) : Prop where
  kind : sc.kind = .function
  co : sc.isCoroutine = false
  gen : sc.isGenerator = false
  nd : N.Nodup
  pre : N.take P.length = P
  par : ∀ x ∈ P, sc.names.lookup x = some .local ∨ sc.names.lookup x = some .cell
  nofree : ∀ y ∈ sc.names, y.2 ≠ .free
theorem bindL_out {kindOf : Str → Option NameKind} {x : Str} : ∀ {binds : List (Str × Value)} {m : Str → Option Value}, (∀ v, (x, v) ∉ binds) → bindL kindOf binds m x = m x
  | [], _, _ => rfl
  | (n, v) :: r, m, h => by
    unfold bindL
    rw [bindL_out fun w hw => h w (List.mem_cons_of_mem _ hw)]
    split
    · have : x ≠ n := by rintro rfl; exact h v List.mem_cons_self
      simp [this]
    · rfl
theorem bindC_out {kindOf : Str → Option NameKind} {x : Str} : ∀ {binds : List (Str × Value)} {m : Str → Option Value}, (∀ v, (x, v) ∉ binds) → bindC kindOf binds m x = m x
  | [], _, _ => rfl
  | (n, v) :: r, m, h => by
    unfold bindC
    rw [bindC_out fun w hw => h w (List.mem_cons_of_mem _ hw)]
    split
    · rfl
    · have : x ≠ n := by rintro rfl; exact h v List.mem_cons_self
      simp [this]
theorem bindL_get {kindOf : Str → Option NameKind} {x : Str} {v : Value} : ∀ {P : List Str} {vs : List Value} {i : Nat} {m : Str → Option Value}, P.Nodup → P[i]? = some x → vs[i]? = some v → kindOf x = some .local →
    bindL kindOf (P.zip vs) m x = some v
  | [], _, _, _, _, h, _, _ => by simp at h
  | _ :: _, [], _, _, _, _, h, _ => by simp at h
  | p :: P, w :: vs, 0, m, nd, h1, h2, hk => by
    simp at h1 h2; subst h1; subst h2
    show bindL kindOf ((p, w) :: P.zip vs) m p = _
    unfold bindL
    rw [bindL_out fun v hv => (List.nodup_cons.mp nd).1 (List.of_mem_zip hv).1, if_pos hk]
    simp
  | p :: P, w :: vs, i + 1, m, nd, h1, h2, hk => by
    show bindL kindOf ((p, w) :: P.zip vs) m x = _
    unfold bindL
    exact bindL_get (i := i) (List.nodup_cons.mp nd).2 (by simpa using h1) (by simpa using h2) hk
theorem bindC_get {kindOf : Str → Option NameKind} {x : Str} {v : Value} : ∀ {P : List Str} {vs : List Value} {i : Nat} {m : Str → Option Value}, P.Nodup → P[i]? = some x → vs[i]? = some v → kindOf x ≠ some .local →
    bindC kindOf (P.zip vs) m x = some v
  | [], _, _, _, _, h, _, _ => by simp at h
  | _ :: _, [], _, _, _, _, h, _ => by simp at h
  | p :: P, w :: vs, 0, m, nd, h1, h2, hk => by
    simp at h1 h2; subst h1; subst h2
    show bindC kindOf ((p, w) :: P.zip vs) m p = _
    unfold bindC
    rw [bindC_out fun v hv => (List.nodup_cons.mp nd).1 (List.of_mem_zip hv).1, if_neg hk]
    simp
  | p :: P, w :: vs, i + 1, m, nd, h1, h2, hk => by
    show bindC kindOf ((p, w) :: P.zip vs) m x = _
    unfold bindC
    exact bindC_get (i := i) (List.nodup_cons.mp nd).2 (by simpa using h1) (by simpa using h2) hk
def start (N : List Str) (vs : List V) : St := vs.map some ++ List.replicate (N.length - vs.length) none
def cxOf (CX : CXT) (P : Program) (w : World) (K : PySem.W.Frag) (mg : Str → Option Value) (base : Heap) (N : List Str) (qual : Str) (scope : Scope) (f : Addr) (cd : Value) (A : Around) (outer : List Env) (s : Shared) (H : Hp) (E : XK) : Cx where
  prog := P
  w := w
  K := K
  mg := mg
  base := base
  A := A.deeper (envOfC qual scope s.heap.objs.size f cd)
  N := N
  s_0 := s
  H_0 := H
  env := envOfC qual scope s.heap.objs.size f cd
  outer := outer
  stack := envOfC qual scope s.heap.objs.size f cd :: outer
  ex := []
  calm := true
  fn := fun _ => true
  pn := []
  xe := fun e s' => wpAny (model P w) (A.deeper (envOfC qual scope s.heap.objs.size f cd)) (leaving (envOfC qual scope s.heap.objs.size f cd) e) (fun _ s'' => CX outer H s E e s'') (fun e' s'' => CX outer H s E e' s'') s'
theorem cell_has {sc : Scope} {n : Nat} {x : Str} (h : sc.names.lookup x = some .cell) : ∃ c, (cellsFrom n sc.names []).lookup x = some c := by
  have q := PySem.W.cellsFrom_some sc.names n [] (.inl h)
  exact Option.isSome_iff_exists.mp q
theorem inv_start {CX : CXT} {P : Program} {w : World} {K : PySem.W.Frag} {mg : Str → Option Value} {base : Heap} {N ps : List Str} {qual : Str} {scope : Scope} {f : Addr} {cd : Value} {A : Around} {outer : List Env} {s s1 : Shared} {H : Hp} {E : XK} {us : List Value} {vs : List V}
    (S : FnScope N ps scope) (hd : A.handled = none) (e0 : Env0 P w K mg base A outer s H) (hl : vs.length = ps.length) (r : Vals vs us)
    (x : InCallC s s.heap.objs.size (bindL (envOfC qual scope s.heap.objs.size f cd).kindOf (ps.zip us) fun _ => none) (cellsFrom (s.heap.objs.size + 1) scope.names []) (bindC (envOfC qual scope s.heap.objs.size f cd).kindOf (ps.zip us) fun _ => none) s1) :
    Inv (cxOf CX P w K mg base N qual scope f cd A outer s H E) [] (start N vs) H s1 := by
  have hpl : ps.length ≤ N.length := by have := congrArg List.length S.pre; rw [List.length_take] at this; omega
  obtain ⟨h1, tk, rfl, hk⟩ := x.done
  have noA : ∀ b : Addr, b ∉ (cxOf CX P w K mg base N qual scope f cd A outer s H E).ex := fun b z => absurd (show b ∈ ([] : List Addr) from z) (by simp)
  refine ⟨⟨e0.mod, S.kind, rfl, rfl, Nat.le_refl _, fun y z c h1 h2 => ?_, fun y hy => ?_, fun y c _ h => ?_, fun _ => hd, Around.frames_deeper e0.frames, .inr ⟨rfl, rfl⟩, fun b z => absurd z (noA b), e0.bs, e0.bsz, fun b _ _ => noA b, fun b z => absurd z (noA b), e0.funs, e0.frf⟩,
    rfl, e0.bare, Un.kept hk, ⟨_, x.toInCall.ns, fun i y v h1 h2 h3 => ?_⟩, fun y c h => ⟨_, x.cell y c h⟩, e0.hok.fresh (Nat.le_refl _), fun y c h => ?_, fun p hp => absurd (show p ∈ ([] : List (Addr × Obj)) from hp) (by simp), e0.hok.kept hk, ?_⟩
  · exact name_of_addr x.apart (PySem.mem_of_lookup h1) (PySem.mem_of_lookup h2)
  · have hy : scope.names.lookup y = some .cell ∨ scope.names.lookup y = some .free := hy
    rcases hy with hy | hy
    · exact cell_has hy
    · exact absurd rfl (S.nofree _ (PySem.mem_of_lookup hy))
  · exact Nat.le_of_lt (x.above y c (PySem.mem_of_lookup h))
  · have hi : i < vs.length := by
      unfold start at h2
      by_cases hi : i < vs.length
      · exact hi
      · rw [List.getElem?_append_right (by simpa using hi)] at h2
        rw [List.getElem?_replicate] at h2
        split at h2 <;> cases h2
    have ha : vs[i]? = some v := by
      unfold start at h2
      rw [List.getElem?_append_left (by simpa using hi), List.getElem?_map] at h2
      cases e : vs[i]? with
      | none => rw [e] at h2; cases h2
      | some a => rw [e] at h2; cases h2; rfl
    obtain ⟨u, hu, rv⟩ := r.get ha
    have hp : ps[i]? = some y := by
      rw [← S.pre, List.getElem?_take_of_lt (by omega)]; exact h1
    have ndP : ps.Nodup := by rw [← S.pre]; exact S.nd.sublist (List.take_sublist _ _)
    refine ⟨u, rv, ?_⟩
    rcases S.par y (List.mem_of_getElem? hp) with k | k
    · exact .inl ⟨k, bindL_get ndP hp hu k⟩
    · obtain ⟨c, e⟩ := cell_has (n := s.heap.objs.size + 1) k
      refine .inr ⟨.inl k, c, e, ?_⟩
      have q := x.cell y c e
      rw [bindC_get ndP hp hu (by show scope.names.lookup y ≠ _; rw [k]; decide)] at q
      exact q
  · exact e0.hok.fresh (Nat.le_of_lt (x.above y c (PySem.mem_of_lookup h)))
  · unfold start
    show _ = N.length
    rw [List.length_append, List.length_map, List.length_replicate]
    omega
theorem fn_of {CX : CXT} {P : Program} {w : World} {K : PySem.W.Frag} {mg : Str → Option Value} {base : Heap} {k : Nat} {f : Addr} {name qual : Str} {params : Arguments} {body : List Stmt} {scope : Scope} {dV kV doc pm cdv ct oc : Value} {an od : Option Addr}
    {osl : Array (Option Value)} {N ps : List Str} {sp : Sp} (lk : K.lookup f = some ⟨oc, od, .func (PySem.W.fnOf name qual params body scope dV kV doc pm an cdv ct), osl⟩) (hcd : PySem.W.codeIn K cdv qual = true) (S : FnScope N ps scope)
    (len : ∀ vs H Q E, sp vs H Q E → vs.length = ps.length)
    (hbody : ∀ (A : Around) (outer : List Env) (s : Shared) (H : Hp) (vs : List V) (Q : VK) (E : XK), Room k (A.deeper (envOfC qual scope s.heap.objs.size f cdv)) → sp vs H Q E →
      ∃ t, PSs (cxOf CX P w K mg base N qual scope f cdv A outer s H E) body t ∧ t { nx := fun _ H' => Q .non H', rt := Q } (start N vs) H) :
    FnOk P w K mg base CX (k + 1) f (PySem.W.fnOf name qual params body scope dV kV doc pm an cdv ct) ps sp := by
  refine ⟨len, fun A outer s H args us vs Q E hr e0 hb r hsp => ?_⟩
  have hl := len _ _ _ _ hsp
  have KX : K.In s.heap := e0.mod.kin.keeps fun b o e => (e0.bs b o e).1
  have lim : s.heap.NoLimit := e0.mod.nolimit.keeps fun b o e => (e0.bs b o e).1
  have hkind : ∀ y ∈ ps.zip us, scope.names.lookup y.1 = some .local ∨ (scope.names.lookup y.1 = some .cell ∧ ((cellsFrom (s.heap.objs.size + 1) scope.names []).lookup y.1).isSome = true) := fun ⟨n, v⟩ hy => by
    rcases S.par n (List.of_mem_zip hy).1 with q | q
    · exact .inl q
    · exact .inr ⟨q, PySem.W.cellsFrom_some _ _ _ (.inl q)⟩
  refine codeAny_call_function hr.depth (KX _ _ lk) rfl S.co S.gen rfl (PySem.W.codeRec_of KX hcd) (hb _ _ _ _ ?_)
  refine wpAny_newFunctionEnv_cells S.kind hkind fun env he s1 x => ?_
  subst he
  refine ⟨lim.keeps x.toInCall.keep, codeAny_func ?_⟩
  obtain ⟨t, ht, hq⟩ := hbody A outer s H vs Q E (hr.deeper _) hsp
  have I : Inv (cxOf CX P w K mg base N qual scope f cdv A outer s H E) [] (start N vs) H s1 := inv_start S hr.hd e0 hl r x
  refine wpAny_mono (ht [] s1 (start N vs) H _ I hq) (fun fl s' hs => ?_) fun e s' hs => hs
  have fin : ∀ {σ' : St} {H' : Hp} {v : V} {u : Value}, Inv (cxOf CX P w K mg base N qual scope f cdv A outer s H E) [] σ' H' s' → RelV v u → Q v H' → CE outer P w H s Q u s' :=
    fun {σ' H' v u} J rv q => ⟨v, H', J.os, J.bare, J.base, J.hok, rv, q⟩
  cases fl with
  | ret u =>
    obtain ⟨v, σ', H', J, rv, q⟩ := hs
    exact fin J rv q
  | next =>
    obtain ⟨σ', H', J, q⟩ := hs
    exact fin (v := V.non) (u := Value.none) J rfl q
  | brk =>
    obtain ⟨_, _, _, q⟩ := hs
    exact False.elim q
  | cont =>
    obtain ⟨_, _, _, q⟩ := hs
    exact False.elim q
end L2
namespace L2
open PySem PySem.Spec PyProof.Rows
section
variable {X : Cx} {x : Str} {p pos : Pos} {e : Expr} {es : List Expr} {t : TA} {id T : String} {r : List V → Hp → VK → Prop}
def tCB (r : List V → Hp → VK → Prop) (t : TA) : TE := fun σ H Q => t σ H fun vs H1 => r vs H1 Q
theorem pe_callB (hc : CallR X (.builtin id) r) (hg : Gl X x) (hm : X.mg x = none) (hv : bootBuiltins x = some (.builtin id)) (ha : PA X (e :: es) t) (hn : x ≠ "__name__" := by decide) (hdb : (x == ("__debug__" : Str)) = false := by decide)
    (he : starEach (e :: es) X.env = (false, eval e X.env) :: starEach es X.env := by rfl) (hpl : (backTo pos (starEach es X.env)).any (·.1) = false := by rfl) : PE X (.Call (.Name x p) (e :: es) [] pos) (tCB r t) := by
  intro pins s σ H Q I h
  refine wpAny_Call_Name_kw (ld_blt I hg hm hv ?_ hn hdb)
  exact PyProof.Rows.callWith_builtin1 (thn (ha pos pins s σ H _ I h) fun us s1 ⟨vs, H1, I1, r1, q1⟩ => hc pins s1 σ H1 vs us Q I1 r1 q1) he hpl
theorem pe_callTy (hc : CallR X (.type T) r) (hg : Gl X x) (hm : X.mg x = none) (hv : bootBuiltins x = some (.type T)) (ha : PA X (e :: es) t) (hn : x ≠ "__name__" := by decide) (hdb : (x == ("__debug__" : Str)) = false := by decide)
    (he : starEach (e :: es) X.env = (false, eval e X.env) :: starEach es X.env := by rfl) (hpl : (backTo pos (starEach es X.env)).any (·.1) = false := by rfl) : PE X (.Call (.Name x p) (e :: es) [] pos) (tCB r t) := by
  intro pins s σ H Q I h
  refine wpAny_Call_Name_kw (ld_blt I hg hm hv ?_ hn hdb)
  exact PyProof.Rows.callWith_type1 (thn (ha pos pins s σ H _ I h) fun us s1 ⟨vs, H1, I1, r1, q1⟩ => hc pins s1 σ H1 vs us Q I1 r1 q1) he hpl
end
end L2
namespace HT
open PySem PyProof.Rows
section
open PySem.SeqAt
open PySem.AutoSeq1 (wpAny_loadPart')
open PySem.MeetsSeq PySem.MeetsSeq2 PySem.MeetsSeq3
end
section
variable {prog : Program} {w : World} {A : Around} {E : Value → Shared → Prop} {s : Shared}
def sIx (n d : Nat) : Option Int → Nat
  | none => d
  | some v => if v < 0 then (v + (n : Int)).toNat else min v.toNat n
theorem sIx_nat (n d k : Nat) : sIx n d (some (k : Int)) = min k n := by
  show (if (k : Int) < 0 then ((k : Int) + (n : Int)).toNat else min (k : Int).toNat n) = min k n
  rw [if_neg (by omega), Int.toNat_natCast]
end
end HT
namespace L2
open PySem PySem.Spec PyProof.Rows
abbrev TO := St → Hp → (Option Int → Hp → Prop) → Prop
def PO (X : Cx) (e : Option Expr) (t : TO) : Prop :=
  ∀ (pins : List (Addr × Obj)) (s : Shared) (σ : St) (H : Hp) (Q : Option Int → Hp → Prop), Inv X pins σ H s → t σ H Q →
    wpAny (model X.prog X.w) X.A (evalPart e X.env) (fun u s' => ∃ o H', Inv X pins σ H' s' ∧ IsPart u o ∧ Q o H') X.xe s
def tNoPart : TO := fun _ H Q => Q none H
def tPart (t : TE) : TO := fun σ H Q => t σ H fun x H1 => ∃ i, x = .int i ∧ Q (some i) H1
section
variable {X : Cx} {e : Expr} {te : TE} {lo hi : Option Expr} {tl th : TO} {pos p2 : Pos}
theorem po_none : PO X none tNoPart := by
  intro pins s σ H Q I h
  rw [evalPart_none]
  exact wpAny_pure ⟨none, H, I, .none, h⟩
theorem po_some (h : PE X e te) : PO X (some e) (tPart te) := by
  intro pins s σ H Q I hw
  rw [evalPart_some]
  refine thn (h pins s σ H _ I hw) fun u s1 ⟨x, H1, I1, r1, q1⟩ => ?_
  obtain ⟨i, rfl, q⟩ := q1
  obtain ⟨t, rfl⟩ := r1
  exact ⟨some i, H1, I1, .int i t, q⟩
def SlR (X : Cx) (r : V → Option Int → Option Int → Hp → VK → Prop) : Prop :=
  ∀ (pins : List (Addr × Obj)) (s : Shared) (σ : St) (H : Hp) (x : V) (v vl vu : Value) (lo hi : Option Int) (sl : Addr) (Q : VK), Inv X pins σ H s → RelV x v → s.heap.IsSliceOf sl vl vu .none → IsPart vl lo → IsPart vu hi → r x lo hi H Q →
    ∃ T id, typeLookup (.type T) "__getitem__" = pure (some (.builtin id)) ∧ s.TypeIs v T ∧ wpAny (model X.prog X.w) X.A (getItem v (.ref sl)) (EP X pins σ Q) X.xe s
def tSl (r : V → Option Int → Option Int → Hp → VK → Prop) (te : TE) (tl th : TO) : TE := fun σ H Q => te σ H fun x H1 => tl σ H1 fun l H2 => th σ H2 fun u H3 => r x l u H3 Q
theorem pe_slice {r : V → Option Int → Option Int → Hp → VK → Prop} (hr : SlR X r) (he : PE X e te) (hl : PO X lo tl) (hu : PO X hi th) : PE X (.Subscript e (.Slice lo hi none p2) pos) (tSl r te tl th) := by
  intro pins s σ H Q I h
  refine Subscript_ (thn (he pins s σ H _ I h) fun v s1 ⟨x, H1, I1, r1, q1⟩ => ?_)
  refine wpAny_Slice (thn (hl pins s1 σ H1 _ I1 q1) fun vl s2 ⟨l, H2, I2, pl, q2⟩ => thn (hu pins s2 σ H2 _ I2 q2) fun vu s3 ⟨u, H3, I3, pu, q3⟩ => ?_)
  rw [evalPart_none]
  refine wpAny_pure ?_
  have I4 : Inv X pins σ H3 { s3 with heap := s3.heap.push { cls := .type "slice", data := .fields #[vl, vu, .none] } } := I3.kept (t' := s3.toks) fun b ob q => Heap.get?_push_of_some _ q
  obtain ⟨T, id, hT, ht, hg⟩ := hr pins { s3 with heap := s3.heap.push { cls := .type "slice", data := .fields #[vl, vu, .none] } } σ H3 x v vl vu l u s3.heap.objs.size Q I4 r1 (Heap.IsSliceOf.new ..) pl pu q3
  show wpAny (model X.prog X.w) X.A (subscriptTail e (.Slice lo hi none p2) v (.ref s3.heap.objs.size)) (EP X pins σ Q) X.xe { s3 with heap := s3.heap.push { cls := .type "slice", data := .fields #[vl, vu, .none] } }
  exact tail_any (ops := [.ref s3.heap.objs.size, v]) ht hT hg (by with_unfolding_all rfl)
def cutV (xs : List V) (lo hi : Option Int) : List V := (xs.drop (HT.sIx xs.length 0 lo)).take (HT.sIx xs.length xs.length hi - HT.sIx xs.length 0 lo)
theorem cutV_length (xs : List V) (lo hi : Option Int) : (cutV xs lo hi).length ≤ xs.length := by
  unfold cutV
  rw [List.length_take, List.length_drop]
  omega
end
end L2
namespace L2
open PySem PySem.Spec PyProof.Rows
def ixN (n : Nat) (i : Int) : Option Nat := if 0 ≤ i then (if i < n then some i.toNat else none) else if -(n : Int) ≤ i then some (i + n).toNat else none
def atI {α : Type} (xs : List α) (i : Int) : Option α := (ixN xs.length i).bind fun j => xs[j]?
theorem ixN_seq {n : Nat} {i : Int} {j : Nat} (h : ixN n i = some j) : seqIndex? i n = some j ∧ j < n ∧ -(n : Int) ≤ i ∧ i < n := by
  unfold ixN at h
  by_cases h0 : 0 ≤ i
  · rw [if_pos h0] at h
    by_cases h1 : i < n
    · rw [if_pos h1] at h
      have e : i.toNat = j := Option.some.inj h
      exact ⟨by rw [seqIndex_of h0 h1, e], by omega, by omega, h1⟩
    · rw [if_neg h1] at h; cases h
  · rw [if_neg h0] at h
    by_cases h1 : -(n : Int) ≤ i
    · rw [if_pos h1] at h
      have e : (i + n).toNat = j := Option.some.inj h
      exact ⟨by rw [seqIndex_neg (by omega) h1, e], by omega, h1, by omega⟩
    · rw [if_neg h1] at h; cases h
theorem atI_get {α : Type} {xs : List α} {i : Int} {v : α} (h : atI xs i = some v) : ∃ j, seqIndex? i xs.length = some j ∧ xs[j]? = some v ∧ j < xs.length ∧ -(xs.length : Int) ≤ i ∧ i < xs.length := by
  unfold atI at h
  cases e : ixN xs.length i with
  | none => rw [e] at h; cases h
  | some j =>
    rw [e] at h
    obtain ⟨h1, h2, h3, h4⟩ := ixN_seq e
    exact ⟨j, h1, h, h2, h3, h4⟩
theorem atI_nat {α : Type} {xs : List α} {j : Nat} {v : α} (h : xs[j]? = some v) : atI xs (j : Int) = some v := by
  have hj : j < xs.length := (List.getElem?_eq_some_iff.mp h).1
  have e : ixN xs.length (j : Int) = some j := by
    unfold ixN
    rw [if_pos (by omega), if_pos (by omega)]; simp
  unfold atI; rw [e]; exact h
def PlainIx (b : Expr) : Prop := ∀ o i, subscripted b false o i = operate [o, i] (getItem o i)
def IxR (X : Cx) (r : R2) : Prop :=
  ∀ (value slice : Expr) (pins : List (Addr × Obj)) (s : Shared) (σ : St) (H : Hp) (x y : V) (v u : Value) (Q : VK), Inv X pins σ H s → RelV x v → RelV y u → r x y H Q →
    subscripted slice false v u = operate [v, u] (getItem v u) → wpAny (model X.prog X.w) X.A (subscriptTail value slice v u) (EP X pins σ Q) X.xe s
def MtR (X : Cx) (id : String) (r : V → List V → Hp → VK → Prop) : Prop :=
  ∀ (pins : List (Addr × Obj)) (s : Shared) (σ : St) (H : Hp) (x : V) (xs : List V) (v : Value) (us : List Value) (Q : VK), Inv X pins σ H s → RelV x v → Vals xs us → r x xs H Q →
    wpAny (model X.prog X.w) X.A (call (.builtin id) (v :: us)) (EP X pins σ Q) X.xe s
section
variable {X : Cx} {a b : Expr} {ta tb : TE} {pos : Pos}
theorem pe_ix {r : R2} (hr : IxR X r) (ha : PE X a ta) (hb : PE X b tb) (hs : PlainIx b) : PE X (.Subscript a b pos) (tOp r ta tb) := by
  intro pins s σ H Q I h
  exact Subscript_ (binT ha hb I h fun v u s2 x y H2 I2 rx ry q => hr a b pins s2 σ H2 x y v u Q I2 rx ry q (hs _ _))
def rIxL (K : PySem.W.Frag) : R2 := fun x y H Q => ∃ p xs i v, x = .ref p ∧ y = .int i ∧ SqL K H p xs ∧ atI xs i = some v ∧ Q v H
def rIxT (K : PySem.W.Frag) : R2 := fun x y H Q => ∃ p xs i v, x = .ref p ∧ y = .int i ∧ SqT K H p xs ∧ atI xs i = some v ∧ Q v H
theorem ix_list : IxR X (rIxL X.K) := by
  intro value slice pins s σ H x y v u Q I rx ry h hs
  obtain ⟨p, xs, i, z, rfl, rfl, hq, he, q⟩ := h
  cases rx
  obtain ⟨t, rfl⟩ := ry
  obtain ⟨its, r, pl, hz⟩ := I.list hq
  obtain ⟨j, h1, h2, h3, h4, h5⟩ := atI_get he
  obtain ⟨w, ew, rw'⟩ := r.get h2
  have hl := r.length
  have hn := line63
  have fin : EP X pins σ Q w s := ⟨z, H, I, rw', q⟩
  by_cases h0 : 0 ≤ i
  · have hj : i.toNat = j := by
      rw [seqIndex_of h0 h5] at h1
      exact Option.some.inj h1
    exact item_listR pl.isList h0 (by omega) (by rw [hj]; simpa using ew) fin hs
  · have hj : (i + (its.toArray.size : Int)).toNat = j := by
      rw [seqIndex_neg (by omega) h4] at h1
      rw [List.size_toArray, ← hl]
      exact Option.some.inj h1
    exact subscriptTail_builtinR (x := w) pl.isList.typeIs slot_list_getitem.lookup
      (wpAny_getItem_list_neg (Q := fun r s' => r = w ∧ EP X pins σ Q r s') pl.isList (by omega) (by rw [List.size_toArray] <;> omega) (by omega) (by rw [hj]; simpa using ew) ⟨rfl, fin⟩) hs
theorem ix_tup : IxR X (rIxT X.K) := by
  intro value slice pins s σ H x y v u Q I rx ry h hs
  obtain ⟨p, xs, i, z, rfl, rfl, hq, he, q⟩ := h
  cases rx
  obtain ⟨t, rfl⟩ := ry
  obtain ⟨its, r, pl, hz⟩ := I.tuple hq
  obtain ⟨j, h1, h2, h3, h4, h5⟩ := atI_get he
  obtain ⟨w, ew, rw'⟩ := r.get h2
  have hl := r.length
  have hn := line63
  have fin : EP X pins σ Q w s := ⟨z, H, I, rw', q⟩
  exact subscriptTail_builtinR (x := w) pl.typeIs slot_tuple_getitem.lookup
    (getItem_tuple (j := j) (Q := fun r s' => r = w ∧ EP X pins σ Q r s') pl (by omega) (by omega) (by rw [List.size_toArray, ← hl]; exact h1) (by simpa using ew) ⟨rfl, fin⟩) hs
theorem mapSeq_set (its : List Value) (n j : Nat) (u : Value) : Obj.mapSeq (·.setIfInBounds j u) { cls := .type "list", data := .seq its.toArray n } = { cls := .type "list", data := .seq (its.set j u).toArray n } := by
  simp [Obj.mapSeq]
theorem Inv.lst {pins : List (Addr × Obj)} {σ : St} {H : Hp} {s : Shared} {p : Addr} {xs : List V} (I : Inv X pins σ H s) (h : H p = some (.lst xs)) :
    ∃ (its : List Value) (n : Nat), Vals xs its ∧ s.heap.get? p = some { cls := .type "list", data := .seq its.toArray n } ∧ xs.length ≤ sizeLine := by
  obtain ⟨z, its, n, r, e⟩ := I.hok p _ h
  exact ⟨its, n, r, e, z⟩
theorem Inv.lstUpd {pins : List (Addr × Obj)} {σ : St} {H : Hp} {s : Shared} {p : Addr} {xs ys : List V} {its its' : List Value} {n n' : Nat} {f : Obj → Obj} (I : Inv X pins σ H s) (h : H p = some (.lst xs))
    (ho : s.heap.get? p = some { cls := .type "list", data := .seq its.toArray n }) (hf : f { cls := .type "list", data := .seq its.toArray n } = { cls := .type "list", data := .seq its'.toArray n' }) (r : Vals ys its') (hz : ys.length ≤ sizeLine) (t : Nat) :
    Inv X pins σ (upd H p (.lst ys)) { s with heap := s.heap.update p f, toks := t } := by
  have e : (s.heap.update p f).get? p = some { cls := .type "list", data := .seq its'.toArray n' } := by
    rw [Heap.get?_update_self f ho (by rw [hf] <;> rfl), hf]
  refine I.write (x := p) (e := p) (by rw [h]; trivial) (.inl rfl) (fun b u hb q => (Heap.get?_update_other _ _ (Ne.symm hb)).trans q) ⟨_, e⟩ ?_
  exact ⟨hz, its', n', r, e⟩
def rSetL : V → V → V → Hp → (Hp → Prop) → Prop := fun o i v H Q => ∃ p xs k j, o = .ref p ∧ i = .int k ∧ H p = some (.lst xs) ∧ ixN xs.length k = some j ∧ Q (upd H p (.lst (xs.set j v)))
theorem set_list : PSet X rSetL := by
  intro pins s σ H o i v ov iv u Q I ro ri rv h
  obtain ⟨p, xs, k, j, rfl, rfl, hp, hj, q⟩ := h
  cases ro
  obtain ⟨t, rfl⟩ := ri
  obtain ⟨its, n, r, ho, hz⟩ := I.lst hp
  obtain ⟨h1, h2, h3, h4⟩ := ixN_seq hj
  have hl := r.length
  have hn := line63
  have I' : Inv X pins σ (upd H p (.lst (xs.set j v))) { s with heap := s.heap.update p (Obj.mapSeq (·.setIfInBounds j u)) } :=
    I.lstUpd hp ho (mapSeq_set its n j u) (r.set rv j) (by rw [List.length_set]; exact hz) s.toks
  by_cases h0 : 0 ≤ k
  · have hk : k.toNat = j := by
      rw [seqIndex_of h0 h4] at h1
      exact Option.some.inj h1
    exact PySem.W.ki_setAt ho h0 (by omega) (by rw [List.size_toArray, ← hl]; exact h4) (by rw [hk]; exact ⟨_, I', q⟩)
  · have hk : (k + (its.toArray.size : Int)).toNat = j := by
      rw [seqIndex_neg (by omega) h3] at h1
      rw [List.size_toArray, ← hl]
      exact Option.some.inj h1
    exact PySem.W.ki_setBack ho (by omega) (by rw [List.size_toArray, ← hl]; exact h3) (by omega) (by rw [hk]; exact ⟨_, I', q⟩)
theorem slice_bounds (lo hi : Option Int) (n : Nat) : (sliceBounds lo hi none n).1 = ((HT.sIx n 0 lo : Nat) : Int) ∧ (sliceBounds lo hi none n).2.1 = ((HT.sIx n n hi : Nat) : Int) ∧ (sliceBounds lo hi none n).2.2 = 1 := by
  refine ⟨?_, ?_, rfl⟩
  · cases lo with
    | none => simp [sliceBounds, HT.sIx]
    | some i =>
      simp only [sliceBounds, HT.sIx, Option.getD_none, show (1 : Int) > 0 by decide, if_true]
      by_cases h : i < 0
      · simp only [h, if_true] <;> omega
      · simp only [h, if_false] <;> omega
  · cases hi with
    | none => simp [sliceBounds, HT.sIx]
    | some i =>
      simp only [sliceBounds, HT.sIx, Option.getD_none, show (1 : Int) > 0 by decide, if_true]
      by_cases h : i < 0
      · simp only [h, if_true] <;> omega
      · simp only [h, if_false] <;> omega
theorem slicePick_cut (its : List Value) (lo hi : Option Int) : slicePick its.toArray lo hi none = ((its.drop (HT.sIx its.length 0 lo)).take (HT.sIx its.length its.length hi - HT.sIx its.length 0 lo)).toArray := by
  obtain ⟨h1, h2, h3⟩ := slice_bounds lo hi its.toArray.size
  unfold slicePick
  rw [h1, h2, h3]
  simp only [sliceRange_one, pick_run, List.size_toArray] <;> rfl
def rSlL (K : PySem.W.Frag) : V → Option Int → Option Int → Hp → VK → Prop := fun x lo hi H Q => ∃ a xs, x = .ref a ∧ SqL K H a xs ∧ ∀ p, H p = none → Q (.ref p) (upd H p (.lst (cutV xs lo hi)))
theorem sl_list : SlR X (rSlL X.K) := by
  intro pins s σ H x v vl vu lo hi sl Q I rx hs pl pu h
  obtain ⟨a, xs, rfl, hx, q⟩ := h
  cases rx
  obtain ⟨its, r, ht, hz⟩ := I.list hx
  have hlen := r.length
  refine ⟨"list", _, slot_list_getitem.lookup, ht.isList.typeIs, ?_⟩
  refine wpAny_getItem_list_slice ht.isList hs pl pu .none (by simp) ?_ (by rw [List.size_toArray] <;> omega)
  rw [slicePick_cut, ← hlen]
  refine ⟨.ref s.heap.objs.size, _, I.laid (t' := s.toks) (o := .lst (cutV xs lo hi)) (fun b ob q => Heap.get?_push_of_some _ q) (Nat.le_refl _) ?_, rfl, q _ (I.hok.fresh (Nat.le_refl _))⟩
  exact ⟨Nat.le_trans (cutV_length xs lo hi) hz, _, 0, (r.drop (HT.sIx xs.length 0 lo)).take (HT.sIx xs.length xs.length hi - HT.sIx xs.length 0 lo), Heap.get?_push_size _ rfl⟩
def flatV : V → Bool
  | .non => true
  | .bl _ => true
  | .int _ => true
  | .str _ => true
  | _ => false
def eqV : V → V → Bool
  | .non, .non => true
  | .bl a, .bl b => a == b
  | .bl a, .int b => (if a then 1 else 0) == b
  | .int a, .bl b => a == (if b then 1 else 0)
  | .int a, .int b => a == b
  | .str a, .str b => a == b
  | _, _ => false
theorem eqAt_V {A : Around} {s : Shared} {y x : V} {u v : Value} (ry : RelV y u) (rx : RelV x v) (fy : flatV y = true) (fx : flatV x = true) : SeqAt.EqAt A s u v (eqV y x) := by
  cases y with
  | non =>
    cases ry
    cases x with
    | non => cases rx; exact SeqAt.EqAt.same _
    | bl b => cases rx; exact SeqAt.EqAt.none_bool b
    | int b => obtain ⟨t, rfl⟩ := rx; exact SeqAt.EqAt.none_int b t
    | str b => obtain ⟨t, rfl⟩ := rx; exact SeqAt.EqAt.none_str b t
    | _ => exact absurd (show false = true from fx) Bool.false_ne_true
  | bl a =>
    cases ry
    cases x with
    | non => cases rx; exact SeqAt.EqAt.bool_none a
    | bl b => cases rx; exact SeqAt.EqAt.bool_bool a b
    | int b => obtain ⟨t, rfl⟩ := rx; exact SeqAt.EqAt.bool_int a b t
    | str b => obtain ⟨t, rfl⟩ := rx; exact SeqAt.EqAt.bool_str a b t
    | _ => exact absurd (show false = true from fx) Bool.false_ne_true
  | int a =>
    obtain ⟨t', rfl⟩ := ry
    cases x with
    | non => cases rx; exact SeqAt.EqAt.int_none a t'
    | bl b => cases rx; exact SeqAt.EqAt.int_bool a t' b
    | int b => obtain ⟨t, rfl⟩ := rx; exact SeqAt.EqAt.int_int a t' b t
    | str b => obtain ⟨t, rfl⟩ := rx; exact SeqAt.EqAt.int_str a t' b t
    | _ => exact absurd (show false = true from fx) Bool.false_ne_true
  | str a =>
    obtain ⟨t', rfl⟩ := ry
    cases x with
    | non => cases rx; exact SeqAt.EqAt.str_none a t'
    | bl b => cases rx; exact SeqAt.EqAt.str_bool a t' b
    | int b => obtain ⟨t, rfl⟩ := rx; exact SeqAt.EqAt.str_int a t' b t
    | str b => obtain ⟨t, rfl⟩ := rx; exact SeqAt.EqAt.str_str a t' b t
    | _ => exact absurd (show false = true from fx) Bool.false_ne_true
  | _ => exact absurd (show false = true from fy) Bool.false_ne_true
def eqU (x : V) (u : Value) : Bool := match u with
  | .none => eqV .non x
  | .bool b => eqV (.bl b) x
  | .int i _ => eqV (.int i) x
  | .str z _ => eqV (.str z) x
  | _ => false
theorem eqU_of {x y : V} {u : Value} (r : RelV y u) (f : flatV y = true) : eqU x u = eqV y x := by
  cases y with
  | non => cases r; rfl
  | bl b => cases r; rfl
  | int i => obtain ⟨t, rfl⟩ := r; rfl
  | str z => obtain ⟨t, rfl⟩ := r; rfl
  | _ => exact absurd (show false = true from f) Bool.false_ne_true
theorem mem_eqAt {A : Around} {s : Shared} {x : V} {v : Value} (rx : RelV x v) (fx : flatV x = true) : ∀ {xs : List V} {us : List Value}, Vals xs us → xs.all flatV = true → ∀ u ∈ us, SeqAt.EqAt A s u v (eqU x u)
  | _, _, .nil, _ => fun u hu => by cases hu
  | y :: xs, u :: us, .cons r t, f => fun u' hu => by
    rw [List.all_cons, Bool.and_eq_true] at f
    rcases List.mem_cons.mp hu with rfl | hu
    · rw [eqU_of r f.1]; exact eqAt_V r rx f.1 fx
    · exact mem_eqAt rx fx t f.2 u' hu
theorem call_len_seq : CallR X (.builtin "len") (fun xs H Q => ∃ p ys, xs = [.ref p] ∧ (SqL X.K H p ys ∨ SqT X.K H p ys) ∧ Q (.int ys.length) H) := by
  intro pins s σ H xs us Q I r h
  obtain ⟨p, ys, rfl, hq, q⟩ := h
  obtain ⟨u, rfl, rx⟩ := vals1 r
  cases rx
  have hn := line63
  rcases hq with hq | hq
  · obtain ⟨its, r', pl, hz⟩ := I.list hq
    have hlen := r'.length
    exact Calls.call_len_list pl.isList (by simp only [List.size_toArray] <;> omega) ⟨.int ys.length, H, I.tok _, ⟨s.toks + 1, by rw [List.size_toArray, hlen]⟩, q⟩
  · obtain ⟨its, r', pl, hz⟩ := I.tuple hq
    have hlen := r'.length
    exact len_tuple pl (by simp only [List.size_toArray] <;> omega) ⟨.int ys.length, H, I.tok _, ⟨s.toks + 1, by rw [List.size_toArray, hlen]⟩, q⟩
theorem call_list_of : CallR X (.type "list") (fun xs H Q => ∃ p ys, xs = [.ref p] ∧ (SqL X.K H p ys ∨ SqT X.K H p ys) ∧ ∀ l, H l = none → Q (.ref l) (upd H l (.lst ys))) := by
  intro pins s σ H xs us Q I r h
  obtain ⟨p, ys, rfl, hq, q⟩ := h
  obtain ⟨u, rfl, rx⟩ := vals1 r
  cases rx
  have fin : ∀ (its : List Value), Vals ys its → ys.length ≤ sizeLine → ∀ (h' : Heap) (c' : Nat), (∀ b o', s.heap.get? b = some o' → h'.get? b = some o') →
      h'.get? s.heap.objs.size = some { cls := .type "list", dict := none, data := .seq its.toArray c', slots := #[] } → EP X pins σ Q (.ref s.heap.objs.size) { s with heap := h' } := fun its r' hz h' c' kp e =>
    ⟨.ref s.heap.objs.size, _, I.laid (t' := s.toks) kp (Nat.le_refl _) (show ObjOk X.prog X.w _ h' _ (.lst ys) from ⟨hz, its, c', r', e⟩), rfl, q _ (I.hok.fresh (Nat.le_refl _))⟩
  rcases hq with hq | hq
  · obtain ⟨its, r', pl, hz⟩ := I.list hq
    have hlen := r'.length
    obtain ⟨o, ho, hc, n, hd⟩ := pl.isList
    exact call_list_seq p (.inl rfl) ho hc hd (fun h' c' kp e => fin its r' hz h' c' kp e) (by simp only [List.size_toArray] <;> omega)
  · obtain ⟨its, r', pl, hz⟩ := I.tuple hq
    have hlen := r'.length
    obtain ⟨o, ho, hc, n, hd⟩ := pl
    exact call_list_seq p (.inr rfl) ho hc hd (fun h' c' kp e => fin its r' hz h' c' kp e) (by simp only [List.size_toArray] <;> omega)
theorem call_tuple_of : CallR X (.type "tuple") (fun xs H Q => ∃ p ys, xs = [.ref p] ∧ ((SqL X.K H p ys ∧ ∀ l, H l = none → Q (.ref l) (upd H l (.tup ys))) ∨ (SqT X.K H p ys ∧ Q (.ref p) H))) := by
  intro pins s σ H xs us Q I r h
  obtain ⟨p, ys, rfl, h⟩ := h
  obtain ⟨u, rfl, rx⟩ := vals1 r
  cases rx
  rcases h with ⟨hq, q⟩ | ⟨hq, q⟩
  · obtain ⟨its, r', pl, hz⟩ := I.list hq
    have hlen := r'.length
    refine call_tuple_list pl.isList (fun h' kp => ?_) (by simp only [List.size_toArray] <;> omega)
    have I1 : Inv X pins σ H { s with heap := h' } := I.kept (t' := s.toks) kp
    have I2 : Inv X pins σ (upd H h'.objs.size (.tup ys)) { s with heap := h'.push { cls := .type "tuple", data := .seq its.toArray } } :=
      I1.laid (t' := s.toks) (fun b o e => Heap.get?_push_of_some _ e) (Nat.le_refl _) (show ObjOk X.prog X.w _ _ _ (.tup ys) from ⟨hz, its, r', IsTup.new _ _⟩)
    exact ⟨.ref h'.objs.size, _, I2, rfl, q _ (I1.hok.fresh (Nat.le_refl _))⟩
  · obtain ⟨its, r', pl, hz⟩ := I.tuple hq
    exact call_tuple_same pl ⟨.ref p, H, I, rfl, q⟩
def tyV (K : PySem.W.Frag) (T : String) (x : V) (H : Hp) : Prop := match x with
  | .str _ => T = "str"
  | .int _ => T = "int"
  | .ref p => (T = "list" ∧ ∃ xs, SqL K H p xs) ∨ (T = "tuple" ∧ ∃ o, K.lookup p = some o ∧ o.cls = .type "tuple" ∧ o.dict = none) ∨
      (T = "dict" ∧ ((∃ kvs, H p = some (.dK kvs)) ∨ ∃ kvs, H p = some (.dT kvs))) ∨ (T = "set" ∧ ∃ S n, H p = some (.set S n))
  | _ => False
theorem tyV_is {pins : List (Addr × Obj)} {σ : St} {H : Hp} {s : Shared} {T : String} {x : V} {v : Value} (I : Inv X pins σ H s) (r : RelV x v) (ty : tyV X.K T x H) :
    s.TypeIs v T ∧ ∀ a, v = .ref a → ∃ ob, s.heap.get? a = some ob ∧ ob.dict = none := by
  cases x with
  | str z =>
    obtain ⟨t, rfl⟩ := r
    cases (show T = "str" from ty)
    exact ⟨typeIs_str s z t, fun _ e => nomatch e⟩
  | int i =>
    obtain ⟨t, rfl⟩ := r
    cases (show T = "int" from ty)
    exact ⟨typeIs_int s i t, fun _ e => nomatch e⟩
  | ref p =>
    cases r
    rcases ty with ⟨rfl, xs, hq⟩ | ⟨rfl, o, hk, hc, hd⟩ | ⟨rfl, hk⟩ | ⟨rfl, S, n, hk⟩
    · obtain ⟨its, _, pl, _⟩ := I.list hq
      refine ⟨pl.isList.typeIs, fun a e => ?_⟩
      cases e
      obtain ⟨o, n, e, c, hd, _⟩ := pl
      exact ⟨o, e, hd⟩
    · refine ⟨⟨o, I.kIn p o hk, hc⟩, fun a e => ?_⟩
      cases e
      exact ⟨o, I.kIn _ o hk, hd⟩
    · have z : ∃ o, s.heap.get? p = some o ∧ o.ExactDict := by
        rcases hk with ⟨kvs, hk⟩ | ⟨kvs, hk⟩
        · obtain ⟨_, _, _, _, o, _, _, e, ex, _⟩ := I.hok p _ hk
          exact ⟨o, e, ex⟩
        · obtain ⟨_, _, _, _, o, _, _, e, ex, _⟩ := I.hok p _ hk
          exact ⟨o, e, ex⟩
      obtain ⟨o, e, ex⟩ := z
      refine ⟨⟨o, e, ex.1⟩, fun a e2 => ?_⟩
      cases e2
      exact ⟨o, e, ex.2.1⟩
    · obtain ⟨o, _, _, _, e, ex, _⟩ := I.hok p _ hk
      refine ⟨⟨o, e, ex.1⟩, fun a e2 => ?_⟩
      cases e2
      exact ⟨o, e, ex.2.1⟩
  | _ => exact False.elim ty
def tBM (K : PySem.W.Frag) (T : String) (r : V → List V → Hp → VK → Prop) (to : TE) (t : TA) : TE := fun σ H Q => to σ H fun x H1 => tyV K T x H1 ∧ t σ H1 fun xs H2 => r x xs H2 Q
variable {o e : Expr} {es : List Expr} {to : TE} {t : TA} {name : Str} {apos cpos : Pos} {T id : String} {r : V → List V → Hp → VK → Prop}
theorem pe_bm (pa : PlainAttrs T) (slot : Slot T name id) (hty : typeOf (.builtin id) = pure (.type "method_descriptor")) (hm : MtR X id r) (ho : PE X o to) (ha : PA X (e :: es) t)
    (hbase : attributeBase o name X.env (eval o X.env) = eval o X.env := by rfl)
    (hfew : ((backTo cpos (starEach (e :: es) X.env)).all (fun x => !x.1) && (backToKw cpos (keywordEach [] X.env)).all (fun x => x.1.isSome)
      && decide ((e :: es).length + ([] : List Keyword).length + (if ([] : List Keyword).isEmpty then 0 else 1) < 30)) = true := by rfl)
    (hline : (apos.endLine == cpos.line) = true := by rfl) (hs : starEach (e :: es) X.env = (false, eval e X.env) :: starEach es X.env := by rfl) (hplain : (backTo cpos (starEach es X.env)).any (·.1) = false := by rfl) :
    PE X (.Call (.Attribute o name apos) (e :: es) [] cpos) (tBM X.K T r to t) := by
  intro pins s σ H Q I h
  refine wpAny_Call_method_late hbase hfew hline rfl (thn (ho pins s σ H _ I h) fun v s1 ⟨x, H1, I1, r1, ty, q1⟩ => ?_)
  obtain ⟨h1, h2⟩ := tyV_is I1 r1 ty
  refine ⟨T, id, pa, slot, hty, h1, h2, ?_⟩
  have hA := ha cpos pins s1 σ H1 _ I1 q1
  rw [hs] at hA ⊢
  refine Calls.callWith_builtin (by show (false || (backTo cpos (starEach es X.env)).any (·.1)) = false; rw [hplain] <;> rfl) (Calls.evalArgs_plain ?_)
  exact thn hA fun us s2 ⟨vs, H2, I2, r2, q2⟩ => hm pins s2 σ H2 x vs v us Q I2 r1 r2 q2
end
end L2
namespace L2
open PySem PySem.Spec PyProof.Rows
def MtM (X : Cx) (id : String) (r : V → List V → Hp → VK → Prop) : Prop :=
  ∀ (pins : List (Addr × Obj)) (s : Shared) (σ : St) (H : Hp) (x : V) (xs : List V) (v : Value) (us : List Value) (Q : VK), Inv X pins σ H s → RelV x v → Vals xs us → r x xs H Q →
    wpAny (model X.prog X.w) X.A (call (.builtin id) (v :: us)) (EP X pins σ Q) X.xe s
theorem Vals.one : ∀ {x : V} {us : List Value}, Vals [x] us → ∃ u, us = [u] ∧ RelV x u
  | _, _, .cons r .nil => ⟨_, rfl, r⟩
theorem Vals.two : ∀ {x y : V} {us : List Value}, Vals [x, y] us → ∃ u v, us = [u, v] ∧ RelV x u ∧ RelV y v
  | _, _, _, .cons r (.cons q .nil) => ⟨_, _, rfl, r, q⟩
theorem Vals.zero : ∀ {us : List Value}, Vals [] us → us = []
  | _, .nil => rfl
section
variable {X : Cx} {pins : List (Addr × Obj)} {σ : St} {H : Hp} {s : Shared} {l b : Addr} {xs ys zs : List V}
theorem Inv.lset {its its' : List Value} {n : Nat} {f : Array Value → Array Value} {t' : Nat} (I : Inv X pins σ H s) (hH : H l = some (.lst xs))
    (e : s.heap.get? l = some { cls := .type "list", data := .seq its.toArray n }) (hf : f its.toArray = its'.toArray) (hv : Vals ys its') (hz : ys.length ≤ sizeLine) :
    Inv X pins σ (upd H l (.lst ys)) { s with heap := s.heap.update l (Obj.mapSeq f), toks := t' } := by
  have q := PySem.IsL.update e f
  rw [hf] at q
  refine I.write (x := l) (e := l) (by rw [hH]; exact trivial) (.inl rfl) (fun b' u hb hu => (Heap.get?_update_other s.heap (Obj.mapSeq f) (Ne.symm hb)).trans hu) ⟨_, q⟩ ?_
  exact ⟨hz, its', _, hv, q⟩
theorem Inv.lnew {its : List Value} {t' : Nat} (I : Inv X pins σ H s) (hv : Vals ys its) (hz : ys.length ≤ sizeLine) :
    Inv X pins σ (upd H s.heap.objs.size (.lst ys)) { s with heap := s.heap.push { cls := .type "list", data := .seq its.toArray }, toks := t' } :=
  I.laid (fun _ _ q => Heap.get?_push_of_some _ q) (Nat.le_refl _) ⟨hz, its, 0, hv, Heap.get?_push_size _ rfl⟩
theorem Inv.fresh (I : Inv X pins σ H s) : H s.heap.objs.size = none := I.hok.fresh (Nat.le_refl _)
theorem Inv.lstM (I : Inv X pins σ H s) (hH : H l = some (.lst xs)) : xs.length ≤ sizeLine ∧ ∃ (its : List Value) (n : Nat), Vals xs its ∧ xs.length = its.length ∧ s.heap.get? l = some { cls := .type "list", data := .seq its.toArray n } := by
  obtain ⟨z, its, n, r, e⟩ := I.hok l _ hH
  exact ⟨z, its, n, r, r.length, e⟩
theorem notLongL {n : Nat} (h : n ≤ sizeLine) : Builtin.List.listTooLong n = false := by
  unfold Builtin.List.listTooLong
  exact decide_eq_false (by omega)
end
section
variable {X : Cx}
def rAppend : V → List V → Hp → VK → Prop := fun x vs H Q => ∃ l xs y, x = .ref l ∧ vs = [y] ∧ H l = some (.lst xs) ∧ xs.length < sizeLine ∧ Q .non (upd H l (.lst (xs ++ [y])))
theorem mt_append : MtM X "list.append" rAppend := by
  intro pins s σ H x vs v us Q I rx rv h
  obtain ⟨l, xs, y, rfl, rfl, hH, hz, q⟩ := h
  cases rx
  obtain ⟨u, rfl, ru⟩ := rv.one
  obtain ⟨z, its, n, r, hl, e⟩ := I.lstM hH
  refine call_meets F.slot_list_append ⟨_, e, rfl⟩ F.entry_list_append (F.args_list_append_2 _ _) (PySem.list_append l its.toArray n u (by rw [List.size_toArray]; omega)) ⟨e, ?_⟩
  refine ⟨.non, _, I.lset (its' := its ++ [u]) hH e (by simp) (r.append (.cons ru .nil)) ?_, rfl, q⟩
  rw [List.length_append, List.length_singleton]
  omega
def rExtend : V → List V → Hp → VK → Prop := fun x vs H Q => ∃ l b xs zs, x = .ref l ∧ vs = [.ref b] ∧ H l = some (.lst xs) ∧ H b = some (.lst zs) ∧ xs.length + zs.length ≤ sizeLine ∧ Q .non (upd H l (.lst (xs ++ zs)))
theorem mt_extend : MtM X "list.extend" rExtend := by
  intro pins s σ H x vs v us Q I rx rv h
  obtain ⟨l, b, xs, zs, rfl, rfl, hH, hB, hz, q⟩ := h
  cases rx
  obtain ⟨u, rfl, ru⟩ := rv.one
  cases ru
  obtain ⟨z, its, n, r, hl, e⟩ := I.lstM hH
  obtain ⟨z2, its2, n2, r2, hl2, e2⟩ := I.lstM hB
  have hsz : its.toArray.size + its2.toArray.size ≤ sizeLine := by rw [List.size_toArray, List.size_toArray]; omega
  have hlong : ¬ (!its.toArray.isEmpty && Builtin.List.listTooLong (its.toArray.size + its2.toArray.size)) = true := by
    rw [notLongL hsz, Bool.and_false]
    exact Bool.false_ne_true
  refine call_meets F.slot_list_extend ⟨_, e, rfl⟩ F.entry_list_extend (F.args_list_extend_2 _ _)
    (AutoSeq1.list_extend_list_list_0 l its.toArray n b its2.toArray n2 hlong (by rw [List.size_toArray]; omega) (by omega)) ⟨e, e2, ?_⟩
  refine ⟨.non, _, I.lset (its' := its ++ its2) hH e (by simp) (r.append r2) ?_, rfl, q⟩
  rw [List.length_append]
  omega
def rCat : R2 := fun x y H Q => ∃ l b xs zs, x = .ref l ∧ y = .ref b ∧ H l = some (.lst xs) ∧ H b = some (.lst zs) ∧ xs.length + zs.length ≤ sizeLine ∧ ∀ p, H p = none → Q (.ref p) (upd H p (.lst (xs ++ zs)))
theorem op_cat : OpR X (binaryOp .Add) rCat := by
  intro pins s σ H x y v u Q I rx ry h
  obtain ⟨l, b, xs, zs, rfl, rfl, hH, hB, hz, q⟩ := h
  cases rx
  cases ry
  obtain ⟨z, its, n, r, hl, e⟩ := I.lstM hH
  obtain ⟨z2, its2, n2, r2, hl2, e2⟩ := I.lstM hB
  refine PySem.P.add_list e e2 ?_ (by rw [List.size_toArray, List.size_toArray]; omega)
  have ea : its.toArray ++ its2.toArray = (its ++ its2).toArray := by simp
  rw [ea]
  exact ⟨.ref _, _, I.lnew (t' := s.toks) (r.append r2) (by rw [List.length_append]; omega), rfl, q _ I.fresh⟩
end
section
variable {prog : Program} {w : World} {A : Around} {E : Value → Shared → Prop} {s : Shared}
set_option maxRecDepth 100000 in
end
section
variable {X : Cx}
end
end L2
namespace L2
open PySem PySem.Spec PyProof.Rows
theorem Vals.ints : ∀ {ns : List Int} {us : List Value}, Vals (ns.map V.int) us → IntsAre us ns
  | [], us, h => by
    rw [List.map_nil] at h
    cases h
    exact IntsAre.nil
  | n :: ns, us, h => by
    rw [List.map_cons] at h
    cases h with
    | cons r t =>
      obtain ⟨k, rfl⟩ := r
      exact IntsAre.cons n k (Vals.ints t)
theorem Vals.bls : ∀ {bs : List Bool} {us : List Value}, Vals (bs.map V.bl) us → us = bs.map Value.bool
  | [], us, h => by
    rw [List.map_nil] at h
    cases h
    rfl
  | b :: bs, us, h => by
    rw [List.map_cons] at h
    cases h with
    | cons r t =>
      cases r
      rw [Vals.bls t, List.map_cons]
theorem Vals.ref1 {a : Addr} {us : List Value} (r : Vals [V.ref a] us) : us = [Value.ref a] := by
  cases r with
  | cons r t =>
    cases t
    cases r
    rfl
section
variable {prog : Program} {w : World} {A : Around} {E : Value → Shared → Prop} {s : Shared} {l : Addr} {its : List Value} {ns : List Int} {Q : Value → Shared → Prop}
theorem sum_raw (hh : A.handled = none) (hl : s.heap.IsList l its.toArray) (hi : IntsAre its ns)
    (h : ∀ h' tk t', (∀ b o, s.heap.get? b = some o → h'.get? b = some o) → Q (.int ns.sum t') { s with heap := h', toks := tk }) : wpAny (model prog w) A (call (.builtin "sum") [.ref l]) Q E s := by
  obtain ⟨xs, e⟩ := hi.allInts.items
  have hn : numsOf (intItems xs).toList = ns := by rw [← e]; exact hi.numsOf
  rw [nums_intItems] at hn
  rw [e] at hl
  refine PySem.sum_intListG hh hl fun h' tk t' hk => ?_
  have := h h' tk t' hk
  rw [preSum_eq, List.take_of_length_le (by simp), hn]; exact this
theorem max_raw (hh : A.handled = none) (hl : s.heap.IsList l its.toArray) (hi : IntsAre its ns) (hne : 0 < ns.length)
    (h : ∀ h' tk M t', (∀ b o, s.heap.get? b = some o → h'.get? b = some o) → M ∈ ns → (∀ a, a ∈ ns → a ≤ M) → Q (.int M t') { s with heap := h', toks := tk }) : wpAny (model prog w) A (call (.builtin "max") [.ref l]) Q E s := by
  obtain ⟨xs, e⟩ := hi.allInts.items
  have hn : numsOf (intItems xs).toList = ns := by rw [← e]; exact hi.numsOf
  rw [nums_intItems] at hn
  subst hn
  rw [e] at hl
  have hsz : 0 < xs.size := by simpa using hne
  refine PySem.max_intList hh hl hsz fun v h' tk hv hk => ?_
  obtain ⟨t, rfl⟩ := intItems_at hv
  obtain ⟨h1, h2⟩ := argBest_gt (numAt xs) (xs.size - 1)
  refine h h' tk _ t hk ?_ fun a ha => ?_
  · rw [numAt_eq]; exact PySem.getD_mem (by rw [List.length_map, Array.length_toList]; omega)
  · obtain ⟨j, hj, rfl⟩ := mem_getD ha
    rw [List.length_map, Array.length_toList] at hj
    rw [← numAt_eq]; exact h2 j (by omega)
end
section
variable {X : Cx}
def rSum (K : PySem.W.Frag) : List V → Hp → VK → Prop := fun vs H Q => ∃ (a : Addr) (ns : List Int), vs = [V.ref a] ∧ SqL K H a (ns.map V.int) ∧ Q (.int ns.sum) H
def rMax (K : PySem.W.Frag) : List V → Hp → VK → Prop := fun vs H Q => ∃ (a : Addr) (ns : List Int), vs = [V.ref a] ∧ SqL K H a (ns.map V.int) ∧ 0 < ns.length ∧ ∀ m, m ∈ ns → (∀ y, y ∈ ns → y ≤ m) → Q (.int m) H
theorem cr_sum (hc : X.calm = true) : CallR X (.builtin "sum") (rSum X.K) := by
  intro pins s σ H vs us Q I r h
  obtain ⟨a, ns, rfl, hs, q⟩ := h
  obtain ⟨its, rv, hl, _⟩ := I.list hs
  rw [Vals.ref1 r]
  exact sum_raw (I.ok.hd hc) hl.isList rv.ints fun h' tk t' hk => ⟨.int _, H, I.kept hk, ⟨_, rfl⟩, q⟩
theorem cr_max (hc : X.calm = true) : CallR X (.builtin "max") (rMax X.K) := by
  intro pins s σ H vs us Q I r h
  obtain ⟨a, ns, rfl, hs, hne, q⟩ := h
  obtain ⟨its, rv, hl, _⟩ := I.list hs
  rw [Vals.ref1 r]
  exact max_raw (I.ok.hd hc) hl.isList rv.ints hne fun h' tk m t' hk h1 h2 => ⟨.int _, H, I.kept hk, ⟨_, rfl⟩, q m h1 h2⟩
end
section
variable {X : Cx}
def rIndex (K : PySem.W.Frag) : V → List V → Hp → VK → Prop := fun x xs H Q => ∃ (a : Addr) (ys : List V) (y : V) (j : Nat) (z : V), x = V.ref a ∧ xs = [y] ∧ SqL K H a ys ∧ flatV y = true ∧ ys.all flatV = true ∧ ys[j]? = some z ∧ eqV z y = true ∧
  (∀ (m : Nat) (z' : V), m < j → ys[m]? = some z' → eqV z' y = false) ∧ Q (.int (j : Nat)) H
theorem flat_at {ys : List V} (f : ys.all flatV = true) {j : Nat} {z : V} (h : ys[j]? = some z) : flatV z = true := List.all_eq_true.mp f z (List.mem_of_getElem? h)
theorem mt_index : MtR X "list.index" (rIndex X.K) := by
  intro pins s σ H x xs v us Q I rx rxs h
  obtain ⟨a, ys, y, j, z, rfl, rfl, hs, fy, fys, hz, hzj, hno, q⟩ := h
  cases rx
  cases rxs with
  | cons ry rt =>
    rename_i uy ut
    cases rt
    obtain ⟨its, rv, ⟨⟨cls, dd, data, sl⟩, n, ho, hc, hdn, hd⟩, hlen⟩ := I.list hs
    simp only at hc hd
    subst hc hd
    obtain ⟨u, hu, ru⟩ := rv.get hz
    obtain ⟨hjl, hje⟩ := List.getElem?_eq_some_iff.mp hu
    have hvl := rv.length
    have hj : j < its.toArray.size := by simpa using hjl
    have hsl := sizeLine_eq
    refine call_meets PySem.F.slot_list_index ⟨_, ho, rfl⟩ PySem.F.entry_list_index (PySem.F.args_list_index_2 _ _)
      (SeqAt.list_indexAt a its.toArray n dd sl uy (eqU y) j hj (by omega) ?_ ?_) ⟨ho, fun u' hu' => mem_eqAt ry fy rv fys u' (by simpa using hu'), ?_⟩
    · have e1 : its.toArray[j] = u := by simpa using hje
      rw [e1, eqU_of ru (flat_at fys hz)]
      exact hzj
    · intro m hm hmj
      have hml : m < its.length := by simpa using hm
      have hmy : m < ys.length := by omega
      have hy' : ys[m]? = some ys[m] := List.getElem?_eq_getElem hmy
      obtain ⟨u2, hu2, ru2⟩ := rv.get hy'
      obtain ⟨_, hme⟩ := List.getElem?_eq_some_iff.mp hu2
      have e1 : its.toArray[m] = u2 := by simpa using hme
      rw [e1, eqU_of ru2 (flat_at fys hy')]
      exact hno m _ hmj hy'
    · exact ⟨.int (j : Nat), H, I.tok _, ⟨_, rfl⟩, q⟩
end
section
variable {X : Cx}
end
theorem iter_any {prog : Program} {w : World} {A : Around} {E : Value → Shared → Prop} {s : Shared} {l : Addr} {items : Array Value} {Q : Value → Shared → Prop} (hl : s.heap.IsList l items)
    (h : ∀ s₂ : Shared, s₂ = { s with heap := s.heap.push { cls := .type "list_iterator", data := .fields #[.ref l, .int 0 0] } } →
      (s₂.heap.IsListIter s.heap.objs.size l 0 ∧ s₂.heap.IsList l items) → l ≠ s.heap.objs.size → Q (.ref s.heap.objs.size) s₂) : wpAny (model prog w) A (pyIter (.ref l)) Q E s := by
  have hlt : l < s.heap.objs.size := by obtain ⟨_, e, _⟩ := hl; exact Heap.lt_size e
  exact wpAny_pyIter_list hl (h _ rfl ⟨⟨_, Heap.get?_push_size _ rfl, rfl, rfl⟩, hl.push _⟩ (Nat.ne_of_lt hlt))
theorem truth_bools {prog : Program} {w : World} {A : Around} {bs : List Bool} {its : List Value} (e : its = bs.map Value.bool) :
    TruthOf prog w A (fun i v => its.toArray[i]? = some v) (fun i => bs.getD i false) := fun i v s Q E hv hq => by
  have hv' : its[i]? = some v := by simpa using hv
  rw [e, List.getElem?_map] at hv'
  obtain ⟨b, hb, rfl⟩ := Option.map_eq_some_iff.mp hv'
  have hg : bs.getD i false = b := by rw [List.getD_eq_getElem?_getD, hb] <;> rfl
  have hq' : Q (bs.getD i false) s := hq
  rw [hg] at hq'
  exact wpAny_truthy_bool hq'
theorem all_range : ∀ bs : List Bool, (List.range bs.length).all (fun i => bs.getD i false) = bs.all id
  | [] => rfl
  | b :: bs => by
    rw [List.length_cons, List.range_succ_eq_map, List.all_cons, List.all_map, List.all_cons, ← all_range bs]
    all_goals rfl
section
variable {X : Cx}
def rAll (K : PySem.W.Frag) : List V → Hp → VK → Prop := fun vs H Q => ∃ (a : Addr) (bs : List Bool), vs = [V.ref a] ∧ SqL K H a (bs.map V.bl) ∧ Q (.bl (bs.all id)) H
theorem cr_all (hc : X.calm = true) : CallR X (.builtin "all") (rAll X.K) := by
  intro pins s σ H vs us Q I r h
  obtain ⟨a, bs, rfl, hs, q⟩ := h
  obtain ⟨its, rv, hl, _⟩ := I.list hs
  rw [Vals.ref1 r]
  have hb := rv.bls
  refine call_all_walk (iter_any hl.isList fun s₂ e2 st hne => ?_)
  subst e2
  refine ⟨_, _, _, _, _, _, _, rfl, Walks.list (A := X.A.in1) (I.ok.hd hc) _ a hne its.toArray, st, truth_bools hb, fun h' tk hk => ?_⟩
  refine ⟨.bl _, H, I.kept fun b o eo => hk b o (fun hmem => ?_) (Heap.get?_push_of_some _ eo), ?_, q⟩
  · rcases List.mem_cons.mp hmem with e1 | hmem
    · exact absurd (e1 ▸ Heap.lt_size eo) (Nat.lt_irrefl _)
    · cases hmem
  · show Value.bool _ = Value.bool _
    rw [← all_range, hb, List.size_toArray, List.length_map]
end
mutual
inductive Dp (K : PySem.W.Frag) (H : Hp) : V → PyData → Prop
  | non : Dp K H .non .none
  | bl (b : Bool) : Dp K H (.bl b) (.bool b)
  | int (i : Int) : Dp K H (.int i) (.int i)
  | str (x : Str) : Dp K H (.str x) (.str x)
  | lst {a : Addr} {xs : List V} {ds : List PyData} : SqL K H a xs → DpAll K H xs ds → Dp K H (.ref a) (.list ds)
  | tup {a : Addr} {xs : List V} {ds : List PyData} : SqT K H a xs → DpAll K H xs ds → Dp K H (.ref a) (.tuple ds)
inductive DpAll (K : PySem.W.Frag) (H : Hp) : List V → List PyData → Prop
  | nil : DpAll K H [] []
  | cons {v : V} {vs : List V} {d : PyData} {ds : List PyData} : Dp K H v d → DpAll K H vs ds → DpAll K H (v :: vs) (d :: ds)
end
section
variable {X : Cx} {pins : List (Addr × Obj)} {σ : St} {H : Hp} {s : Shared}
mutual
theorem Dp.reads (I : Inv X pins σ H s) : ∀ (d : PyData) (v : V) (u : Value), Dp X.K H v d → RelV v u → ∃ as, Reads s.heap u d as
  | .none, _, _, h, r => by
    cases h
    cases r
    exact ⟨_, Reads.none⟩
  | .bool b, _, _, h, r => by
    cases h
    cases r
    exact ⟨_, Reads.bool b⟩
  | .int i, _, _, h, r => by
    cases h
    obtain ⟨t, rfl⟩ := r
    exact ⟨_, Reads.int i t⟩
  | .str x, _, _, h, r => by
    cases h
    obtain ⟨t, rfl⟩ := r
    exact ⟨_, Reads.str x t⟩
  | .list ds, _, _, h, r => by
    cases h with
    | lst hs ha =>
      cases r
      obtain ⟨its, rv, ⟨o, n, ho, hc, _, hd⟩, _⟩ := I.list hs
      obtain ⟨as, hr⟩ := Dp.readsAll I ds _ its ha rv
      exact ⟨_, Reads.list ho hc hd hr⟩
  | .tuple ds, _, _, h, r => by
    cases h with
    | tup hs ha =>
      cases r
      obtain ⟨its, rv, ⟨o, ho, hc, n, hd⟩, _⟩ := I.tuple hs
      obtain ⟨as, hr⟩ := Dp.readsAll I ds _ its ha rv
      exact ⟨_, Reads.tuple ho hc hd hr⟩
  | .dict _, _, _, h, _ => by cases h
theorem Dp.readsAll (I : Inv X pins σ H s) : ∀ (ds : List PyData) (vs : List V) (us : List Value), DpAll X.K H vs ds → Vals vs us → ∃ as, ReadsAll s.heap us ds as
  | [], _, _, h, r => by
    cases h
    cases r
    exact ⟨_, ReadsAll.nil⟩
  | d :: ds, _, _, h, r => by
    cases h with
    | cons h1 h2 =>
      cases r with
      | cons r1 r2 =>
        obtain ⟨as, q1⟩ := Dp.reads I d _ _ h1 r1
        obtain ⟨bs, q2⟩ := Dp.readsAll I ds _ _ h2 r2
        exact ⟨_, ReadsAll.cons q1 q2⟩
end
end
section
variable {X : Cx}
end
end L2
namespace L2
open PySem PySem.Spec PyProof.Rows
abbrev CellAt (h : Heap) (c : Addr) (v : Option Value) : Prop := h.IsCell c v
def relS (scope sc : Scope) : Scope :=
  { scope with names := scope.names.map fun (n, k) => if (k == .free && sc.kind == .function && sc.names.lookup n == some .cell) then (n, .cell) else (n, k) }
def cloFrom (cells : List (Str × Addr)) : List (Str × NameKind) → List (Str × Addr) → List (Str × Addr)
  | [], acc => acc
  | (n, k) :: r, acc => if k == .free then cloFrom cells r ((n, (cells.lookup n).getD 0) :: acc) else cloFrom cells r acc
theorem closure_loop (env : Env) (f : Str × NameKind → List (Str × Addr) → Sem (ForInStep (List (Str × Addr))))
    (hf : ∀ n k c, f (n, k) c = if k == .free then (do let a ← cellOf env n; pure (.yield ((n, a) :: c))) else pure (.yield c)) :
    ∀ (names : List (Str × NameKind)) (acc : List (Str × Addr)), (∀ y ∈ names, y.2 = .free → ∃ c, env.cells.lookup y.1 = some c) → forIn names acc f = pure (cloFrom env.cells names acc)
  | [], acc, _ => by rw [List.forIn_nil]; rfl
  | (n, k) :: r, acc, h => by
    rw [List.forIn_cons, hf]
    have ih := fun acc => closure_loop env f hf r acc fun y hy => h y (List.mem_cons_of_mem _ hy)
    unfold cloFrom
    by_cases hk : (k == NameKind.free) = true
    · rw [if_pos hk, if_pos hk]
      obtain ⟨c, hc⟩ := h (n, k) List.mem_cons_self (by simpa using hk)
      have e : cellOf env n = pure c := by unfold cellOf; rw [hc]
      rw [e]
      have e2 : (env.cells.lookup n).getD 0 = c := by rw [hc]; rfl
      rw [e2]
      exact ih _
    · rw [if_neg hk, if_neg hk]
      exact ih _
theorem closure_ok {scope : Scope} {env : Env} (h : ∀ y ∈ scope.names, y.2 = .free → ∃ c, env.cells.lookup y.1 = some c) : closureFor scope env = pure (cloFrom env.cells scope.names []) := by
  simp only [closureFor]
  rw [closure_loop env _ (fun n k c => rfl) scope.names [] h]
  rfl
theorem mem_lookup {α : Type} : ∀ {l : List (Str × α)} {n : Str} {c : α}, (n, c) ∈ l → ∃ c', l.lookup n = some c'
  | (k, v) :: r, n, c, h => by
    rw [List.lookup_cons]
    cases hb : n == k with
    | true => exact ⟨_, rfl⟩
    | false =>
      rcases List.mem_cons.mp h with e | h
      · cases e; simp at hb
      · exact mem_lookup h
theorem cloFrom_mem {cells : List (Str × Addr)} : ∀ {names : List (Str × NameKind)} {acc : List (Str × Addr)} {n : Str} {c : Addr}, (n, c) ∈ cloFrom cells names acc → (n, c) ∈ acc ∨ ((n, .free) ∈ names ∧ c = (cells.lookup n).getD 0)
  | [], _, _, _, h => .inl h
  | (m, k) :: r, acc, n, c, h => by
    unfold cloFrom at h
    split at h
    · rename_i hk
      have hk : k = .free := by simpa using hk
      rcases cloFrom_mem h with h | ⟨h1, h2⟩
      · rcases List.mem_cons.mp h with e | h
        · cases e; exact .inr ⟨hk ▸ List.mem_cons_self, rfl⟩
        · exact .inl h
      · exact .inr ⟨List.mem_cons_of_mem _ h1, h2⟩
    · rcases cloFrom_mem h with h | ⟨h1, h2⟩
      · exact .inl h
      · exact .inr ⟨List.mem_cons_of_mem _ h1, h2⟩
theorem cloFrom_acc {cells : List (Str × Addr)} : ∀ {names : List (Str × NameKind)} {acc : List (Str × Addr)} {p : Str × Addr}, p ∈ acc → p ∈ cloFrom cells names acc
  | [], _, _, h => h
  | (m, k) :: r, acc, p, h => by
    unfold cloFrom
    split
    · exact cloFrom_acc (List.mem_cons_of_mem _ h)
    · exact cloFrom_acc h
theorem cloFrom_has {cells : List (Str × Addr)} : ∀ {names : List (Str × NameKind)} {acc : List (Str × Addr)} {n : Str}, (n, .free) ∈ names → (n, (cells.lookup n).getD 0) ∈ cloFrom cells names acc
  | (m, k) :: r, acc, n, h => by
    unfold cloFrom
    rcases List.mem_cons.mp h with e | h
    · cases e
      exact cloFrom_acc List.mem_cons_self
    · split
      · exact cloFrom_has h
      · exact cloFrom_has h
theorem cells_mem : ∀ {names : List (Str × NameKind)} {h : Heap} {acc : List (Str × Addr)} {x : Str} {c : Addr}, (x, c) ∈ cellsFrom h.objs.size names acc →
    (x, c) ∈ acc ∨ ((x, .cell) ∈ names ∧ h.objs.size ≤ c ∧ CellAt (pushCells h names) c none)
  | [], _, _, _, _, h => .inl h
  | (n, k) :: r, h, acc, x, c, hm => by
    unfold cellsFrom at hm
    unfold pushCells
    split at hm
    · rename_i hk
      rw [if_pos hk]
      have hk : k = .cell := by simpa using hk
      rw [← Heap.size_push h { cls := .type "cell", data := .cell none }] at hm
      rcases cells_mem hm with hm | ⟨h1, h2, h3⟩
      · rcases List.mem_cons.mp hm with e | hm
        · cases e
          exact .inr ⟨hk ▸ List.mem_cons_self, Nat.le_refl _, _, pushCells_keeps r _ _ _ (Heap.get?_push_size _ rfl), rfl⟩
        · exact .inl hm
      · rw [Heap.size_push] at h2
        exact .inr ⟨List.mem_cons_of_mem _ h1, Nat.le_of_succ_le h2, h3⟩
    · rename_i hk
      rw [if_neg hk]
      rcases cells_mem hm with hm | ⟨h1, h2, h3⟩
      · exact .inl hm
      · exact .inr ⟨List.mem_cons_of_mem _ h1, h2, h3⟩
theorem cells_acc : ∀ {names : List (Str × NameKind)} {n : Nat} {acc : List (Str × Addr)} {p : Str × Addr}, p ∈ acc → p ∈ cellsFrom n names acc
  | [], _, _, _, h => h
  | (m, k) :: r, n, acc, p, h => by
    unfold cellsFrom
    split
    · exact cells_acc (List.mem_cons_of_mem _ h)
    · exact cells_acc h
theorem cells_has : ∀ {names : List (Str × NameKind)} {n : Nat} {acc : List (Str × Addr)} {x : Str}, (x, .cell) ∈ names → ∃ c, (x, c) ∈ cellsFrom n names acc
  | (m, k) :: r, n, acc, x, h => by
    unfold cellsFrom
    rcases List.mem_cons.mp h with e | h
    · cases e
      exact ⟨n, cells_acc List.mem_cons_self⟩
    · split
      · exact cells_has h
      · exact cells_has h
theorem cells_inj : ∀ {names : List (Str × NameKind)} {h : Heap} {acc : List (Str × Addr)} {x y : Str} {c : Addr}, (∀ p ∈ acc, p.2 < h.objs.size) → (∀ x y c, (x, c) ∈ acc → (y, c) ∈ acc → x = y) →
    (x, c) ∈ cellsFrom h.objs.size names acc → (y, c) ∈ cellsFrom h.objs.size names acc → x = y
  | [], _, _, _, _, _, _, hi, h1, h2 => hi _ _ _ h1 h2
  | (n, k) :: r, h, acc, x, y, c, hl, hi, h1, h2 => by
    unfold cellsFrom at h1 h2
    split at h1
    · rename_i hk
      rw [if_pos hk] at h2
      rw [← Heap.size_push h { cls := .type "cell", data := .cell none }] at h1 h2
      refine cells_inj (h := h.push _) (fun p hp => ?_) (fun x y c a b => ?_) h1 h2
      · rw [Heap.size_push]
        rcases List.mem_cons.mp hp with rfl | hp
        · exact Nat.lt_succ_self _
        · exact Nat.lt_succ_of_lt (hl p hp)
      · rcases List.mem_cons.mp a with e | a <;> rcases List.mem_cons.mp b with e' | b
        · cases e; cases e'; rfl
        · cases e; exact absurd (hl _ b) (Nat.lt_irrefl _)
        · cases e'; exact absurd (hl _ a) (Nat.lt_irrefl _)
        · exact hi _ _ _ a b
    · rename_i hk
      rw [if_neg hk] at h2
      exact cells_inj hl hi h1 h2
theorem newEnv_comp {M : Model} {A : Around} {E : Value → Shared → Prop} {s : Shared} {scope : Scope} {globals : Addr} {closure : List (Str × Addr)} {qual : Str} {func : Option Addr} {code : Value} {around : Env} {builtins : Addr} {Q : Env → Shared → Prop}
    (h : Q (newEnv scope s.heap.objs.size globals (cellsFrom (s.heap.objs.size + 1) scope.names closure) qual func code (some around) builtins)
      { s with heap := pushCells (s.heap.push { cls := .type "dict", data := .dict #[] }) scope.names }) :
    wpAny M A (newFunctionEnv scope globals closure [] qual func code (some around) builtins) Q E s := by
  simp only [newFunctionEnv, Option.isSome_some, if_true]
  refine wpAny_bind (wpAny_alloc ?_)
  refine wpAny_bind (wpAny_layCells _ (fun n k c => rfl) scope.names closure _ _ ?_)
  rw [show ({ s with heap := s.heap.push { cls := .type "dict", data := .dict #[] } } : Shared).heap.objs.size = s.heap.objs.size + 1 from Heap.size_push ..]
  rw [List.forIn_nil]
  exact wpAny_bind (wpAny_pure (wpAny_pure h))
theorem lookup_relS {sc : Scope} : ∀ {names : List (Str × NameKind)} {x : Str} {k : NameKind},
    (names.map fun (n, k) => if (k == NameKind.free && sc.kind == .function && sc.names.lookup n == some .cell) then (n, NameKind.cell) else (n, k)).lookup x = some k →
    ∃ k', names.lookup x = some k' ∧ (k = k' ∨ (k' = .free ∧ k = .cell))
  | [], _, _, h => by simp at h
  | (n, k₀) :: r, x, k, h => by
    have ih := @lookup_relS sc r x k
    have h' : List.lookup x ((if (k₀ == NameKind.free && sc.kind == .function && sc.names.lookup n == some .cell) = true then (n, NameKind.cell) else (n, k₀)) :: (r.map _)) = some k := h
    cases hx : x == n with
    | true =>
      simp only [List.lookup_cons, hx]
      by_cases hc : (k₀ == NameKind.free && sc.kind == .function && sc.names.lookup n == some .cell) = true
      · rw [if_pos hc] at h'
        simp only [List.lookup_cons, hx] at h'
        cases h'
        simp only [Bool.and_eq_true, beq_iff_eq] at hc
        exact ⟨k₀, rfl, .inr ⟨hc.1.1, rfl⟩⟩
      · rw [if_neg hc] at h'
        simp only [List.lookup_cons, hx] at h'
        cases h'
        exact ⟨_, rfl, .inl rfl⟩
    | false =>
      simp only [List.lookup_cons, hx]
      by_cases hc : (k₀ == NameKind.free && sc.kind == .function && sc.names.lookup n == some .cell) = true
      · rw [if_pos hc] at h'
        simp only [List.lookup_cons, hx] at h'
        exact ih h'
      · rw [if_neg hc] at h'
        simp only [List.lookup_cons, hx] at h'
        exact ih h'
structure BlkOk (N : List Str) (sc scope : Scope) (own : List (Str × Nat)) : Prop where
  kind : scope.kind = .function
  uniq : ∀ y ∈ scope.names, scope.names.lookup y.1 = some y.2
  ix : ∀ p ∈ own, N[p.2]? = some p.1
  free : ∀ y ∈ scope.names, y.2 = .free → sc.names.lookup y.1 = some .cell ∨ sc.names.lookup y.1 = some .free
  own : ∀ y ∈ scope.names, y.2 = .local ∨ y.2 = .cell → y.1 ∈ own.map (·.1) ∨ y.1 ∉ N
def wipe (σ : St) : List Nat → St
  | [] => σ
  | v :: vs => (wipe σ vs).set v none
theorem wipe_length (σ : St) : ∀ vs : List Nat, (wipe σ vs).length = σ.length
  | [] => rfl
  | v :: vs => by unfold wipe; rw [List.length_set, wipe_length σ vs]
theorem wipe_some {σ : St} {i : Nat} {x : V} : ∀ {vs : List Nat}, (wipe σ vs)[i]? = some (some x) → σ[i]? = some (some x) ∧ i ∉ vs
  | [], h => ⟨h, by simp⟩
  | v :: vs, h => by
    unfold wipe at h
    by_cases hi : v = i
    · subst hi
      by_cases hv : v < (wipe σ vs).length
      · rw [List.getElem?_set_self hv] at h; cases h
      · rw [List.getElem?_eq_none (by simpa using hv)] at h; cases h
    · rw [List.getElem?_set_ne hi] at h
      obtain ⟨h1, h2⟩ := wipe_some h
      exact ⟨h1, by simp only [List.mem_cons, not_or]; exact ⟨fun e => hi e.symm, h2⟩⟩
abbrev Cx.blk (X : Cx) (s : Shared) (H : Hp) (scope : Scope) (cenv : Env) (fp : List Addr) : Cx := { X with s_0 := s, H_0 := H, env := cenv, outer := X.stack, ex := fp, fn := fun x => scope.names.lookup x == some .cell, pn := [], xe := fun _ _ => False }
section
variable {X : Cx} {pins : List (Addr × Obj)} {σ : St} {H : Hp} {s : Shared}
theorem block_start {scope : Scope} {own : List (Str × Nat)} {fp : List Addr} (I : Inv X pins σ H s) (ok : BlkOk X.N X.env.scope scope own) (hN : X.N.Nodup) (hfp : ∀ b ∈ fp, FpOk X pins H b ∧ b < s.heap.objs.size) :
    Inv (X.blk s H scope (compEnvC scope (cellsFrom (s.heap.objs.size + 1) scope.names (cloFrom X.env.cells scope.names [])) s.heap.objs.size X.env) fp) [] (wipe σ (own.map (·.2))) H { s with heap := pushCells (s.heap.push { cls := .type "dict", data := .dict #[] }) scope.names } := by
  have hfree : ∀ y ∈ scope.names, y.2 = .free → ∃ c, X.env.cells.lookup y.1 = some c := fun y hy e => by
    rcases ok.free y hy e with k | k
    · exact I.ok.has _ (.inl k)
    · exact I.ok.has _ (.inr k)
  generalize hcenv : compEnvC scope (cellsFrom (s.heap.objs.size + 1) scope.names (cloFrom X.env.cells scope.names [])) s.heap.objs.size X.env = cenv
  have kp : ∀ b o, s.heap.get? b = some o → (pushCells (s.heap.push { cls := .type "dict", data := .dict #[] }) scope.names).get? b = some o := fun b o e => pushCells_keeps _ _ _ _ (Heap.get?_push_of_some _ e)
  have hL : cenv.locals = s.heap.objs.size := by rw [← hcenv]; rfl
  have hcl : cenv.cells = cellsFrom (s.heap.objs.size + 1) scope.names (cloFrom X.env.cells scope.names []) := by rw [← hcenv]; rfl
  have hsc : cenv.scope = relS scope X.env.scope := by rw [← hcenv]; rfl
  rw [← Heap.size_push s.heap { cls := .type "dict", data := .dict #[] }] at hcl
  have cm : ∀ {y c}, (y, c) ∈ cloFrom X.env.cells scope.names [] → X.env.cells.lookup y = some c ∧ c < s.heap.objs.size := fun {y c} hm => by
    rcases cloFrom_mem hm with hm | ⟨h1, rfl⟩
    · cases hm
    · obtain ⟨c, hc⟩ := hfree _ h1 rfl
      rw [hc]
      obtain ⟨w, z⟩ := I.cell _ _ hc
      exact ⟨rfl, z.lt⟩
  have mem : ∀ {y c}, cenv.cells.lookup y = some c → (X.env.cells.lookup y = some c ∧ c < s.heap.objs.size) ∨ (s.heap.objs.size + 1 ≤ c ∧ CellAt (pushCells (s.heap.push { cls := .type "dict", data := .dict #[] }) scope.names) c none) := fun {y c} e => by
    rw [hcl] at e
    rcases cells_mem (PySem.mem_of_lookup e) with hm | ⟨_, h2, h3⟩
    · exact .inl (cm hm)
    · rw [Heap.size_push] at h2; exact .inr ⟨h2, h3⟩
  have look : ∀ {y}, scope.names.lookup y = some .free → ∃ c, cenv.cells.lookup y = some c ∧ X.env.cells.lookup y = some c := fun {y} hl => by
    have hy : (y, NameKind.free) ∈ scope.names := PySem.mem_of_lookup hl
    obtain ⟨c', e'⟩ := mem_lookup (cells_acc (names := scope.names) (n := (s.heap.push { cls := .type "dict", data := .dict #[] }).objs.size) (cloFrom_has (cells := X.env.cells) (acc := []) hy))
    rw [← hcl] at e'
    refine ⟨c', e', ?_⟩
    rw [hcl] at e'
    rcases cells_mem (PySem.mem_of_lookup e') with hm | ⟨h1, _, _⟩
    · exact (cm hm).1
    · have := ok.uniq _ h1
      rw [hl] at this; cases this
  have okB : (X.blk s H scope cenv fp).Ok := by
    refine ⟨I.ok.mod, by show cenv.scope.kind = _; rw [hsc]; exact ok.kind, by show cenv.globals = _; rw [← hcenv]; exact I.ok.glob, by show cenv.builtins = _; rw [← hcenv]; exact I.ok.blt, by show s.heap.objs.size ≤ cenv.locals; rw [hL]; exact Nat.le_refl _,
      fun y z c e1 e2 => ?_, fun y hy => ?_, fun y c z e => ?_, I.ok.hd, I.ok.frames, .inl rfl, fun b hb => ⟨?_, fun y c e z => ?_⟩, I.bs, Nat.le_trans I.ok.bsz I.sz, fun b o e hb => ?_, fun b hb z => ?_, I.stack, I.stkFree⟩
    · have e1 : cenv.cells.lookup y = some c := e1
      have e2 : cenv.cells.lookup z = some c := e2
      rw [hcl] at e1 e2
      refine cells_inj (fun p hp => ?_) (fun y z c a b => I.ok.inj y z c (cm a).1 (cm b).1) (PySem.mem_of_lookup e1) (PySem.mem_of_lookup e2)
      rw [Heap.size_push]
      exact Nat.lt_succ_of_lt (cm (y := p.1) (c := p.2) hp).2
    · show ∃ c, cenv.cells.lookup y = some c
      have key : ∀ k, cenv.kindOf y = some k → (k = .cell ∨ k = .free) → ∃ c, cenv.cells.lookup y = some c := fun k hk hk' => by
        unfold Env.kindOf at hk
        rw [hsc] at hk
        obtain ⟨k', e, r⟩ := lookup_relS hk
        have : k' = .cell ∨ k' = .free := by
          rcases r with rfl | ⟨rfl, _⟩
          · exact hk'
          · exact .inr rfl
        rcases this with rfl | rfl
        · obtain ⟨c, hm⟩ := cells_has (n := (s.heap.push { cls := .type "dict", data := .dict #[] }).objs.size) (acc := cloFrom X.env.cells scope.names []) (PySem.mem_of_lookup e)
          obtain ⟨c', e'⟩ := mem_lookup hm
          exact ⟨c', by rw [hcl]; exact e'⟩
        · obtain ⟨c, h1, _⟩ := look e
          exact ⟨c, h1⟩
      rcases hy with hy | hy
      · exact key _ hy (.inl rfl)
      · exact key _ hy (.inr rfl)
    · have z : (scope.names.lookup y == some NameKind.cell) = true := z
      have z : scope.names.lookup y = some .cell := by simpa using z
      have e : cenv.cells.lookup y = some c := e
      rw [hcl] at e
      rcases cells_mem (PySem.mem_of_lookup e) with hm | ⟨_, h2, _⟩
      · rcases cloFrom_mem hm with hm | ⟨h1, _⟩
        · cases hm
        · have q := ok.uniq _ h1
          rw [z] at q; cases q
      · rw [Heap.size_push] at h2
        exact Nat.le_of_succ_le h2
    · show b ≠ cenv.locals
      rw [hL]; exact Nat.ne_of_lt (hfp b hb).2
    · have e : cenv.cells.lookup y = some c := e
      rcases mem e with ⟨h1, _⟩ | ⟨h1, _⟩
      · exact (hfp b hb).1.2.2.2.2.1 y c h1 z
      · have h2 : s.heap.objs.size + 1 ≤ b := by rw [← z]; exact h1
        exact absurd (Nat.lt_of_lt_of_le (hfp b hb).2 (Nat.le_of_succ_le h2)) (Nat.lt_irrefl _)
    · rcases (hfp b hb).1.2.2.2.1 with z | z
      · exact I.ok.noex b o e z
      · exact absurd (Nat.lt_of_lt_of_le (Heap.lt_size e) (Nat.le_trans I.ok.bsz z)) (Nat.lt_irrefl _)
    · rcases List.mem_cons.mp (I.stkSub b z) with z | z
      · exact (hfp b hb).1.2.1 z
      · exact (hfp b hb).1.2.2.1 z
  refine ⟨okB, rfl, I.bare, Un.kept kp, ⟨fun _ => none, ?_, fun i y av e1 e2 e3 => ?_⟩, fun y c e => ?_, ?_, fun y c e => ?_, fun p hp => ?_, I.hok.kept kp, by rw [wipe_length]; exact I.len⟩
  · show Heap.Ns _ cenv.locals _
    rw [hL]
    exact Heap.Ns.keeps (Heap.Ns.new ..) fun b o e => pushCells_keeps _ _ _ _ e
  · obtain ⟨e2, hne⟩ := wipe_some e2
    have hfr : scope.names.lookup y = some .free ∧ (cenv.kindOf y = some .cell ∨ cenv.kindOf y = some .free) := by
      have key : ∀ k, cenv.scope.names.lookup y = some k → k = .local ∨ k = .cell ∨ k = .free → scope.names.lookup y = some .free ∧ (cenv.kindOf y = some .cell ∨ cenv.kindOf y = some .free) := fun k hk hk' => by
        have hk0 := hk
        rw [hsc] at hk
        obtain ⟨k', e, r⟩ := lookup_relS hk
        have no : ¬ (k' = .local ∨ k' = .cell) := fun hh => by
          rcases ok.own _ (PySem.mem_of_lookup e) hh with e' | e'
          · obtain ⟨p, hp, hpy⟩ := List.mem_map.mp e'
            have e3 := ok.ix p hp
            have : p.1 = y := hpy
            rw [this] at e3
            exact hne (List.mem_map.mpr ⟨p, hp, nodup_ix hN e3 e1⟩)
          · exact e' (List.mem_of_getElem? e1)
        rcases r with rfl | ⟨rfl, rfl⟩
        · rcases hk' with rfl | rfl | rfl
          · exact absurd (.inl rfl) no
          · exact absurd (.inr rfl) no
          · exact ⟨e, .inr hk0⟩
        · exact ⟨e, .inl hk0⟩
      have e3 : Vis cenv.scope y := e3
      rcases e3 with e3 | e3 | e3
      · exact key _ e3 (.inl rfl)
      · exact key _ e3 (.inr (.inl rfl))
      · exact key _ e3 (.inr (.inr rfl))
    obtain ⟨m, hn, hl⟩ := I.loc
    have hvis : Vis X.env.scope y := (ok.free _ (PySem.mem_of_lookup hfr.1) rfl).elim (fun k => .inr (.inl k)) (fun k => .inr (.inr k))
    obtain ⟨w, r, q⟩ := hl i y av e1 e2 hvis
    refine ⟨w, r, .inr ⟨hfr.2, ?_⟩⟩
    obtain ⟨c, h1, h2⟩ := look hfr.1
    rcases q with ⟨k, _⟩ | ⟨_, c', e', z⟩
    · have k : X.env.scope.names.lookup y = some .local := k
      rcases ok.free _ (PySem.mem_of_lookup hfr.1) rfl with k' | k' <;> rw [show X.env.scope.names.lookup y = _ from k'] at k <;> cases k
    · rw [h2] at e'; cases e'
      exact ⟨c, h1, z.keeps kp⟩
  · have e : cenv.cells.lookup y = some c := e
    rcases mem e with ⟨h1, _⟩ | ⟨_, z⟩
    · obtain ⟨w, z⟩ := I.cell y c h1
      exact ⟨w, z.keeps kp⟩
    · exact ⟨_, z⟩
  · show H cenv.locals = none
    rw [hL]; exact I.hok.fresh (Nat.le_refl _)
  · have e : cenv.cells.lookup y = some c := e
    rcases mem e with ⟨h1, _⟩ | ⟨h1, _⟩
    · exact I.freeC y c h1
    · exact I.hok.fresh (Nat.le_of_succ_le h1)
  · exact absurd (show p ∈ ([] : List (Addr × Obj)) ++ [] from hp) (by simp)
theorem app_ok {E : Value → Shared → Prop} {D : Addr} {xs : List V} {y : V} {v : Value} {Q : Value → Shared → Prop} (I : Inv X pins σ H s) (hD : H D = some (.lst xs)) (hz : xs.length < sizeLine) (r : RelV y v)
    (h : ∀ s', Inv X pins σ (upd H D (.lst (xs ++ [y]))) s' → Q .none s') : wpAny (model X.prog X.w) X.A (call (.builtin "list.append") [.ref D, v]) Q E s := by
  obtain ⟨hz', its, n, ri, e⟩ := I.hok D _ hD
  have hl := ri.length
  refine append_at (hsz := by rw [List.size_toArray]; omega) e fun h' sb ho' => ?_
  refine h { s with heap := h' } (I.write (t' := s.toks) (by rw [hD]; trivial) (.inl rfl) (fun b u hb q => (sb.2 b hb).trans q) ⟨_, ho'⟩ ⟨by rw [List.length_append]; exact hz, its ++ [v], n + 1, ri.append (.cons r .nil), ?_⟩)
  rw [ho']
  simp
def PTs (X : Cx) (ifs : List Expr) (t : TT) : Prop :=
  ∀ (pins : List (Addr × Obj)) (s : Shared) (σ : St) (H : Hp) (Q : Bool → Hp → Prop), Inv X pins σ H s → t σ H Q →
    wpAny (model X.prog X.w) X.A (forIn ifs true fun c r => if r = true then do let ok ← isTrue c X.env (eval c X.env); pure (ForInStep.yield ok) else pure (ForInStep.yield r)) (TP X pins σ Q) X.xe s
def tYes : TT := fun _ H Q => Q true H
theorem pts_nil : PTs X [] tYes := fun _ _ _ H _ I h => wpAny_tests_nil ⟨H, I, h⟩
end
theorem thnF {α : Type} {t : Sem α} {Q Q' : α → Shared → Prop} {M : Model} {A : Around} {E : Value → Shared → Prop} {s : Shared} (h : wpAny M A t Q (fun _ _ => False) s) (hQ : ∀ a s, Q a s → Q' a s) : wpAny M A t Q' E s := wpAny_mono h hQ fun _ _ z => False.elim z
theorem compLoop_any {prog : Program} {w : World} {A : Around} {R : Result → Shared → Prop} {s : Shared} {elt target iter : Expr} {ifs : List Expr} {scope : Scope} {pos : Pos} {it acc : Value} {env : Env} (I : Nat → Shared → Prop)
    (turn : ∀ n s, I n s → wpAny (model prog w) A (pyNext it) (fun r s₁ => match r with
      | none => R (.ok .next) s₁
      | some v => wpAny (model prog w) A (letOwnedTupleGo target it v) (fun _ s₁' => wpAny (model prog w) A (assign target env v) (fun _ s₂ =>
          wpAny (model prog w) A (forIn ifs true fun c r => if r = true then do let ok ← isTrue c env (eval c env); pure (ForInStep.yield ok) else pure (ForInStep.yield r)) (fun ok s₃ =>
            if ok = true then wpAny (model prog w) A (eval elt env) (fun x s₄ =>
              wpAny (model prog w) A (call (.builtin "list.append") [acc, x]) (fun _ s₅ => ∃ m, m < n ∧ I m s₅) (notedBy (model prog w) A env fun e s' => R (.error e) s') s₄) (notedBy (model prog w) A env fun e s' => R (.error e) s') s₃
            else ∃ m, m < n ∧ I m s₃) (notedBy (model prog w) A env fun e s' => R (.error e) s') s₂) (notedBy (model prog w) A env fun e s' => R (.error e) s') s₁') (notedBy (model prog w) A env fun e s' => R (.error e) s') s₁) (notedBy (model prog w) A env fun e s' => R (.error e) s') s)
    (n : Nat) (h : I n s) :
    codeAny (model prog w) A (.compLoop (.ListComp elt [⟨target, iter, ifs, 0⟩] scope pos) 0 it acc env) R s := by
  refine codeAny_loop rfl I (fun n s hI => ?_) n h
  show wpAny _ A ((compTurn (.ListComp elt [⟨target, iter, ifs, 0⟩] scope pos) 0 it acc env).onRaise (fun x => do noteFrame x env; theTreesLotGoes x)) _ _ s
  refine wpAny_noted ?_
  rw [compTurn_list]
  refine wpAny_bind (wpAny_standAt (wpAny_bind (wpAny_mono (turn n s hI) (fun r s₁ h₁ => ?_) fun _ _ h' => h')))
  cases r with
  | none => exact wpAny_pure h₁
  | some v =>
    refine wpAny_bind (wpAny_mono h₁ (fun _ s₁' h₁' => ?_) fun _ _ h' => h')
    refine wpAny_bind (wpAny_mono h₁' (fun _ s₂ h₂ => wpAny_bind (wpAny_mono h₂ (fun ok s₃ h₃ => ?_) fun _ _ h' => h')) fun _ _ h' => h')
    cases ok with
    | false => exact wpAny_pure ⟨rfl, h₃⟩
    | true =>
      exact wpAny_bind (wpAny_bind (wpAny_mono h₃ (fun x s₄ h₄ => wpAny_bind (wpAny_mono h₄ (fun _ s₅ h₅ => wpAny_pure (wpAny_pure ⟨rfl, h₅⟩)) fun _ _ h' => h')) fun _ _ h' => h'))
section
variable {X : Cx}
def tLc (wi : TI) (g : TG) (tt : TT) (te : TE) (vs : List Nat) : TE := fun σ H Q => wi σ H fun J H1 => ∀ D, H1 D = none → ∃ W : Nat → Nat → Hp → Prop, (∃ m, W 0 m (upd H1 D (.lst []))) ∧ ∀ i m H, W i m H →
  (J.stop i H ∧ Q (.ref D) H) ∨ (J.go i H ∧ ∃ Nx : Hp → Prop, (∀ H', Nx H' → ∃ m', m' < m ∧ W (i + 1) m' H') ∧ ∀ x H', J.yld i H x H' → g x (wipe σ vs) H' fun σ2 H2 => wipe σ2 vs = wipe σ vs ∧ tt σ2 H2 fun b H3 =>
    if b = true then te σ2 H3 fun y H4 => ∃ acc, H4 D = some (.lst acc) ∧ acc.length < sizeLine ∧ Nx (upd H4 D (.lst (acc ++ [y]))) else Nx H3)
theorem lc_core {pins : List (Addr × Obj)} {s : Shared} {σ : St} {H : Hp} {Q : VK} {elt tg iter : Expr} {ifs : List Expr} {scope : Scope} {own : List (Str × Nat)} {pos pos' : Pos} {wi : TI} {g : TG} {tt : TT} {te : TE} {use : Option (Value → Sem Unit)} {Qf : Value → Shared → Prop}
    (hc : X.calm = true) (hN : X.N.Nodup) (I : Inv X pins σ H s) (hi : PI X tg iter wi) (ok : BlkOk X.N X.env.scope scope own)
    (hg : ∀ (s : Shared) (H : Hp) (C : Addr) (cl : List (Str × Addr)) (fp : List Addr), PG (X.blk s H scope (compEnvC scope cl C X.env) fp) tg g) (ht : ∀ (s : Shared) (H : Hp) (C : Addr) (cl : List (Str × Addr)) (fp : List Addr), PTs (X.blk s H scope (compEnvC scope cl C X.env) fp) ifs tt)
    (he : ∀ (s : Shared) (H : Hp) (C : Addr) (cl : List (Str × Addr)) (fp : List Addr), PE (X.blk s H scope (compEnvC scope cl C X.env) fp) elt te) (hs : ∀ x, foldedSetIterable iter X.env x = pure x)
    (h : tLc wi g tt te (own.map (·.2)) σ H Q)
    (hRR : ∀ D C s' m H', Inv X pins σ H' s' → Q (.ref D) H' → s'.heap.Ns C m → FpOk X pins H' C → compPost (model X.prog X.w) X.A X.xe use Qf (.ref D) C (.ok .next) s') :
    wpAny (model X.prog X.w) X.A (comprehension (.ListComp elt [⟨tg, iter, ifs, 0⟩] scope pos) scope X.env pos' (newList []) false (eval iter X.env) use) Qf X.xe s := by
  have hfree : ∀ y ∈ scope.names, y.2 = .free → ∃ c, X.env.cells.lookup y.1 = some c := fun y hy e => by
    rcases ok.free y hy e with k | k
    · exact I.ok.has _ (.inl k)
    · exact I.ok.has _ (.inr k)
  refine wpAny_comprehension_free (use := use) rfl hs (closure_ok hfree) ok.kind (fun y hy e => by rw [ok.uniq y hy, e])
    (thn (hi pins s σ H _ I h) fun xv s1 hx => thn hx fun itv s2 h2 => ?_)
  obtain ⟨it, fp, tn, J, H2, e, I2, T, st2, f2, q⟩ := h2
  subst e
  refine wpAny_newObj_type (newEnv_comp ?_) (by show 0 ≤ sizeLine; decide)
  generalize hD : s2.heap.objs.size = D
  have hDn : H2 D = none := I2.hok.fresh (Nat.le_of_eq hD)
  obtain ⟨W, ⟨m0, w0⟩, turn⟩ := q D hDn
  generalize hs3 : ({ s2 with heap := s2.heap.push { cls := .type "list", data := .seq ([] : List Value).toArray } } : Shared) = s3
  have I3 : Inv X pins σ (upd H2 D (.lst [])) s3 := by
    rw [← hs3]
    refine I2.laid (t' := s2.toks) (fun b o e => Heap.get?_push_of_some _ e) (Nat.le_of_eq hD) ⟨Nat.zero_le _, [], 0, .nil, ?_⟩
    rw [← hD]
    exact Heap.get?_push_size _ rfl
  have h3 : s3.heap = s2.heap.push { cls := .type "list", data := .seq ([] : List Value).toArray } := by rw [← hs3]
  have sz : ∀ b ∈ fp, b < s2.heap.objs.size := fun b hb => by
    obtain ⟨o, e, _⟩ := T.obj _ _ st2 b hb
    exact Heap.lt_size e
  have f3 : ∀ b ∈ fp, FpOk X pins (upd H2 D (.lst [])) b ∧ b < s3.heap.objs.size := fun b hb => by
    have hlt := sz b hb
    refine ⟨⟨?_, (f2 b hb).2⟩, by rw [h3, Heap.size_push]; exact Nat.lt_succ_of_lt hlt⟩
    rw [upd_ne (by rw [← hD]; exact Nat.ne_of_lt hlt)]
    exact (f2 b hb).1
  have st3 : tn 0 s3.heap := T.keep _ _ _ st2 fun b _ o e => by rw [h3]; exact Heap.get?_push_of_some _ e
  have I4 := block_start I3 ok hN f3
  have pg := hg s3 (upd H2 D (.lst [])) s3.heap.objs.size (cellsFrom (s3.heap.objs.size + 1) scope.names (cloFrom X.env.cells scope.names [])) fp
  have pt := ht s3 (upd H2 D (.lst [])) s3.heap.objs.size (cellsFrom (s3.heap.objs.size + 1) scope.names (cloFrom X.env.cells scope.names [])) fp
  have pe := he s3 (upd H2 D (.lst [])) s3.heap.objs.size (cellsFrom (s3.heap.objs.size + 1) scope.names (cloFrom X.env.cells scope.names [])) fp
  show codeAny _ _ (.compStart (.ListComp elt [⟨tg, iter, ifs, 0⟩] scope pos) 0 (.ref it) (.ref D) (compEnvC scope (cellsFrom (s3.heap.objs.size + 1) scope.names (cloFrom X.env.cells scope.names [])) s3.heap.objs.size X.env)) (compPost (model X.prog X.w) X.A X.xe use Qf (.ref D) s3.heap.objs.size) { s3 with heap := pushCells (s3.heap.push { cls := .type "dict", data := .dict #[] }) scope.names }
  have nfp : ∀ b ∈ fp, (upd H2 D (.lst [])) b = none := fun b hb => (f3 b hb).1.1
  generalize hce : compEnvC scope (cellsFrom (s3.heap.objs.size + 1) scope.names (cloFrom X.env.cells scope.names [])) s3.heap.objs.size X.env = ce at I4 pg pt pe ⊢
  have cL : ce.locals = s3.heap.objs.size := by subst hce; rfl
  generalize hH3 : upd H2 D (.lst []) = H3 at I3 I4 pg pt pe w0 nfp f3
  generalize hs4 : ({ s3 with heap := pushCells (s3.heap.push { cls := .type "dict", data := .dict #[] }) scope.names } : Shared) = s4 at I4 ⊢
  have st4 : tn 0 s4.heap := T.keep _ _ _ st3 fun b _ o e => by rw [← hs4]; exact pushCells_keeps _ _ _ _ (Heap.get?_push_of_some _ e)
  have stat : ∀ {σ' : St} {H' : Hp} {s' : Shared}, Inv (X.blk s3 H3 scope ce fp) [] σ' H' s' → (∀ b ∈ fp, H' b = none) → ∀ b ∈ fp, FpOk (X.blk s3 H3 scope ce fp) [] H' b := fun {σ' H' s'} I' hn b hb =>
    ⟨hn b hb, (I'.ok.exf b hb).1, I'.ok.exfs b hb, .inl hb, fun x c e => (I'.ok.exf b hb).2 x c e, fun p hp => absurd (show p ∈ ([] : List (Addr × Obj)) ++ [] from hp) (by simp)⟩
  have loop : codeAny (model X.prog X.w) X.A (.compLoop (.ListComp elt [⟨tg, iter, ifs, 0⟩] scope pos) 0 (.ref it) (.ref D) ce) (compPost (model X.prog X.w) X.A X.xe use Qf (.ref D) s3.heap.objs.size) s4 := by
    refine compLoop_any (fun n s' => ∃ i H', Inv (X.blk s3 H3 scope ce fp) [] (wipe σ (own.map (·.2))) H' s' ∧ tn i s'.heap ∧ (∀ b ∈ fp, H' b = none) ∧ W i n H') ?_ m0 ⟨0, H3, I4, st4, nfp, w0⟩
    rintro n s5 ⟨i, H5, I5, st5, n5, w5⟩
    rcases turn i n H5 w5 with ⟨stop, qq⟩ | ⟨go, Nx, hNx, step⟩
    · have td := T.done (X.blk s3 H3 scope ce fp) rfl rfl rfl hc i [] s5 _ H5 (fun _ _ => False) I5 (stat I5 n5) st5 stop
      refine thnF td fun r s6 ⟨hr, I6⟩ => ?_
      subst hr
      have I7 : Inv X pins σ H5 s6 := I3.call' (ch := fp) I6.os I6.base I6.hok I6.bare fun b hb => ⟨(f3 b hb).1.2.2.2.1, (f3 b hb).1.2.1, (f3 b hb).1.2.2.2.2.1, (f3 b hb).1.2.2.2.2.2⟩
      have nC : H5 s3.heap.objs.size = none := by
        have z : H5 ce.locals = none := I6.free
        rw [cL] at z
        exact z
      obtain ⟨m, hn, _⟩ := I6.loc
      have hn : s6.heap.Ns ce.locals m := hn
      rw [cL] at hn
      exact hRR D s3.heap.objs.size s6 m H5 I7 qq hn (I3.fpOk (Nat.le_refl _) nC)
    · have ti := T.item (X.blk s3 H3 scope ce fp) rfl rfl rfl hc i [] s5 _ H5 (fun _ _ => False) I5 (stat I5 n5) st5 go
      refine thnF ti fun r s6 ⟨u, hr, h6⟩ => ?_
      subst hr
      refine thnF h6 fun _ s7 ⟨x, H7, I7, r7, y7, st7, n7⟩ => ?_
      have I7' := I7.pinned (stat I7 n7) (T.obj _ _ st7)
      refine thnF (pg _ s7 _ H7 x u _ I7' r7 (step x H7 y7)) fun _ s8 ⟨σ8, H8, I8, hw8, q8⟩ => ?_
      refine thnF (pt _ s8 σ8 H8 _ I8 q8) fun b s9 ⟨H9, I9, q9⟩ => ?_
      have fin : ∀ {s' : Shared} {H' : Hp}, Inv (X.blk s3 H3 scope ce fp) ([] ++ pinsAt fp s7.heap) σ8 H' s' → Nx H' → ∃ m, m < n ∧ ∃ i H', Inv (X.blk s3 H3 scope ce fp) [] (wipe σ (own.map (·.2))) H' s' ∧ tn i s'.heap ∧ (∀ b ∈ fp, H' b = none) ∧ W i m H' := fun {s' H'} I' nx => by
        obtain ⟨m', hm, w'⟩ := hNx H' nx
        have pin' : ∀ b ∈ fp, ∀ o, s7.heap.get? b = some o → s'.heap.get? b = some o ∧ H' b = none := fun b hb o e =>
          let z := I'.pin (b, o) (List.mem_append_right _ (List.mem_append_right _ (mem_pinsAt hb e)))
          ⟨z.1, z.2.1⟩
        have hl : (wipe σ (own.map (·.2))).length = σ8.length := by rw [← hw8, wipe_length]
        refine ⟨m', hm, i + 1, H', (I'.unpinned (pins := [])).weak hl (fun j v e => ?_), T.keep _ _ _ st7 fun b hb o e => (pin' b hb o e).1, fun b hb => ?_, w'⟩
        · rw [← hw8] at e
          exact (wipe_some e).1
        · obtain ⟨o, e, _⟩ := T.obj _ _ st7 b hb
          exact (pin' b hb o e).2
      cases b with
      | false =>
        simp only [Bool.false_eq_true, if_false] at q9 ⊢
        exact fin I9 q9
      | true =>
        simp only [if_true] at q9 ⊢
        refine thnF (pe _ s9 σ8 H9 _ I9 q9) fun z s10 ⟨yv, H10, I10, r10, acc, hD10, hz10, nx⟩ => ?_
        exact app_ok (X := X.blk s3 H3 scope ce fp) I10 hD10 hz10 r10 fun s11 I11 => fin I11 nx
  exact codeAny_compStart_list loop (T.self X.A 0 _ _ _ st4 loop)
theorem pe_lc {elt tg iter : Expr} {ifs : List Expr} {scope : Scope} {own : List (Str × Nat)} {pos : Pos} {wi : TI} {g : TG} {tt : TT} {te : TE} (hc : X.calm = true) (hN : X.N.Nodup) (hi : PI X tg iter wi) (ok : BlkOk X.N X.env.scope scope own)
    (hg : ∀ (s : Shared) (H : Hp) (C : Addr) (cl : List (Str × Addr)) (fp : List Addr), PG (X.blk s H scope (compEnvC scope cl C X.env) fp) tg g) (ht : ∀ (s : Shared) (H : Hp) (C : Addr) (cl : List (Str × Addr)) (fp : List Addr), PTs (X.blk s H scope (compEnvC scope cl C X.env) fp) ifs tt)
    (he : ∀ (s : Shared) (H : Hp) (C : Addr) (cl : List (Str × Addr)) (fp : List Addr), PE (X.blk s H scope (compEnvC scope cl C X.env) fp) elt te) (hs : ∀ x, foldedSetIterable iter X.env x = pure x := by intro _; rfl) :
    PE X (.ListComp elt [⟨tg, iter, ifs, 0⟩] scope pos) (tLc wi g tt te (own.map (·.2))) := by
  intro pins s σ H Q I h
  rw [eval_ListComp]
  refine lc_core hc hN I hi ok hg ht he hs h fun D C s' m H' I' q hn f => ⟨m, hn, fun h'' sb => ?_⟩
  obtain ⟨f0, f1, f2, f3, f4, f5⟩ := f
  exact ⟨.ref D, H', I'.turned (t' := s'.toks) (fun b o hb e => (sb.2 b hb).trans e) f0 f1 f3 f4 f5, rfl, q⟩
theorem ps_setLc {i : Nat} {y : Str} {py : Pos} {elt tg iter : Expr} {ifs : List Expr} {scope : Scope} {own : List (Str × Nat)} {pos spos : Pos} {wi : TI} {g : TG} {tt : TT} {te : TE} (hc : X.calm = true) (hN : X.N.Nodup) (hy : X.N[i]? = some y) (hyl : X.env.scope.names.lookup y = some .local)
    (hsw : swapsWith (.ListComp elt [⟨tg, iter, ifs, 0⟩] scope pos) (some (.Name y py)) spos.line X.env = pure true) (hi : PI X tg iter wi) (ok : BlkOk X.N X.env.scope scope own)
    (hg : ∀ (s : Shared) (H : Hp) (C : Addr) (cl : List (Str × Addr)) (fp : List Addr), PG (X.blk s H scope (compEnvC scope cl C X.env) fp) tg g) (ht : ∀ (s : Shared) (H : Hp) (C : Addr) (cl : List (Str × Addr)) (fp : List Addr), PTs (X.blk s H scope (compEnvC scope cl C X.env) fp) ifs tt)
    (he : ∀ (s : Shared) (H : Hp) (C : Addr) (cl : List (Str × Addr)) (fp : List Addr), PE (X.blk s H scope (compEnvC scope cl C X.env) fp) elt te) (hs : ∀ x, foldedSetIterable iter X.env x = pure x := by intro _; rfl) :
    PS X (.Assign [.Name y py] (.ListComp elt [⟨tg, iter, ifs, 0⟩] scope pos) spos) (tAsg (tLc wi g tt te (own.map (·.2))) (gName i)) := by
  intro pins s σ H D I h
  rw [exec_Assign_Name_used _ _ _ _ hsw]
  refine wpAny_bind (wpAny_standAt (wpAny_bind ?_))
  show wpAny _ X.A (do let _ ← comprehension (.ListComp elt [⟨tg, iter, ifs, 0⟩] scope pos) scope X.env (firstIterPos [⟨tg, iter, ifs, 0⟩] pos) (newList []) false (eval iter X.env) (some (assign (.Name y py) X.env))) _ _ s
  have h : tLc wi g tt te (own.map (·.2)) σ H (fun x H1 => gName i x σ H1 D.nx) := h
  refine wpAny_bind (thn (lc_core (Qf := fun _ s' => SP X pins D .next s') hc hN I hi ok hg ht he hs h fun L C s' m H' I' q hn f => ?_) fun _ s' hq => wpAny_pure (wpAny_pure hq))
  show wpAny _ _ (assign (.Name y py) X.env (.ref L)) _ _ _
  refine wpAny_assign_Name (store_ok2 (v := V.ref L) I' hN hy (.inl hyl) rfl (fun s2 I2 ⟨a, sb, ha⟩ => ?_) (.inr hyl))
  obtain ⟨f0, f1, f2, f3, f4, f5⟩ := f
  have haC : C ≠ a := by
    rcases ha with z | z
    · rw [z]; exact f1
    · exact fun e => f4 y a z e.symm
  refine ⟨m, hn.sameBut sb haC, fun h3 sb3 => ?_⟩
  exact ⟨_, H', I2.turned (t' := s2.toks) (fun b o hb e => (sb3.2 b hb).trans e) f0 f1 f3 f4 f5, q⟩
theorem sw_true {elt : Expr} {gs : List Comprehension} {scope : Scope} {pos py : Pos} {y : Str} {l : Nat} {env : Env} (hk : env.scope.kind = .function) (hy : env.scope.names.lookup y = some .local) (hl : (py.line == pos.line) = true)
    (ha : (scope.names.any fun (n, k) => n == y && (k == .local || k == .cell)) = false) : swapsWith (.ListComp elt gs scope pos) (some (.Name y py)) l env = pure true := by
  have ky : env.kindOf y = some .local := hy
  have hb : env.blockKind = .function := by unfold Env.blockKind; rw [hk]; rfl
  unfold swapsWith
  simp only [hb, ky, ha, Expr.pos, hl]
  rfl
end
end L2
namespace L2
open PySem PySem.Spec PyProof.Rows
section
variable {prog : Program} {w : World} {A : Around} {R : Result → Shared → Prop} {s : Shared} {elt t0 i0 t1 i1 : Expr} {ifs0 ifs1 : List Expr} {scope : Scope} {pos : Pos} {it acc : Value} {env : Env}
end
section
variable {X : Cx}
end
end L2
namespace L2
open PySem PySem.Spec PyProof.Rows
section
variable {κ : Type} [DecidableEq κ]
def valV (kvs : List (κ × V)) (k : κ) : Option V := (kvs.find? fun kv => decide (kv.1 = k)).map (·.2)
def putK (kvs : List (κ × V)) (k : κ) (v : V) : List (κ × V) :=
  if (kvs.any fun kv => decide (kv.1 = k)) = true then kvs.map (fun kv => if kv.1 = k then (kv.1, v) else kv) else kvs ++ [(k, v)]
def dropK (kvs : List (κ × V)) (k : κ) : List (κ × V) := kvs.filter fun kv => decide (kv.1 ≠ k)
theorem valV_pos {p : κ × V} {r : List (κ × V)} {k : κ} (e : p.1 = k) : valV (p :: r) k = some p.2 := by simp [valV, List.find?_cons, e]
theorem valV_neg {p : κ × V} {r : List (κ × V)} {k : κ} (e : ¬ p.1 = k) : valV (p :: r) k = valV r k := by simp [valV, List.find?_cons, e]
theorem valV_any (k : κ) : ∀ kvs : List (κ × V), (kvs.any fun kv => decide (kv.1 = k)) = (valV kvs k).isSome
  | [] => rfl
  | p :: r => by
    rw [List.any_cons]
    by_cases e : p.1 = k
    · simp only [valV_pos e, decide_eq_true e, Bool.true_or, Option.isSome_some]
    · rw [valV_neg e, decide_eq_false e, Bool.false_or]; exact valV_any k r
theorem RelO.isSome_eq {o : Option V} {u : Option Value} (r : RelO o u) : o.isSome = u.isSome := by
  cases o with
  | none => cases u with
    | none => rfl
    | some _ => exact (show False from r).elim
  | some _ => cases u with
    | none => exact (show False from r).elim
    | some _ => rfl
theorem RelO.getD {o : Option V} {u : Option Value} {d : V} {d' : Value} (r : RelO o u) (rd : RelV d d') : RelV (o.getD d) (u.getD d') := by
  cases o with
  | none => cases u with
    | none => exact rd
    | some _ => exact (show False from r).elim
  | some _ => cases u with
    | none => exact (show False from r).elim
    | some _ => exact r
theorem KV.val {kvs : List (κ × V)} {vs : List (κ × Value)} (r : KV kvs vs) (k : κ) : RelO (valV kvs k) (valueAt vs k) := by
  unfold KV at r
  induction r with
  | nil => exact True.intro
  | @cons p q ps qs h t ih =>
    obtain ⟨h1, h2⟩ := h
    by_cases e : p.1 = k
    · have e' : q.1 = k := h1.symm.trans e
      have b : valueAt (q :: qs) k = some q.2 := by simp [valueAt, List.find?_cons, e']
      rw [valV_pos e, b]; exact h2
    · have e' : ¬ q.1 = k := fun z => e (h1.trans z)
      have b : valueAt (q :: qs) k = valueAt qs k := by simp [valueAt, List.find?_cons, e']
      rw [valV_neg e, b]; exact ih
theorem KV.any {kvs : List (κ × V)} {vs : List (κ × Value)} (r : KV kvs vs) (k : κ) : (kvs.any fun kv => decide (kv.1 = k)) = vs.any fun kv => decide (kv.1 = k) := by
  unfold KV at r
  induction r with
  | nil => rfl
  | cons h t ih => rw [List.any_cons, List.any_cons, ih, h.1]
theorem KV.repl {kvs : List (κ × V)} {vs : List (κ × Value)} (r : KV kvs vs) (k : κ) {y : V} {u : Value} (ry : RelV y u) :
    KV (kvs.map fun kv => if kv.1 = k then (kv.1, y) else kv) (vs.map fun kv => if kv.1 = k then (kv.1, u) else kv) := by
  unfold KV at r ⊢
  induction r with
  | nil => exact .nil
  | @cons p q ps qs h t ih =>
    rw [List.map_cons, List.map_cons]
    refine .cons ?_ ih
    obtain ⟨h1, h2⟩ := h
    by_cases e : p.1 = k
    · rw [if_pos e, if_pos (h1.symm.trans e)]; exact ⟨h1, ry⟩
    · rw [if_neg e, if_neg (fun z => e (h1.trans z))]; exact ⟨h1, h2⟩
theorem KV.put {kvs : List (κ × V)} {vs : List (κ × Value)} (r : KV kvs vs) (k : κ) {y : V} {u : Value} (ry : RelV y u) : KV (putK kvs k y) (stored vs k u) := by
  unfold putK stored
  rw [r.any k]
  by_cases e : (vs.any fun kv => decide (kv.1 = k)) = true
  · rw [if_pos e, if_pos e]; exact r.repl k ry
  · rw [if_neg e, if_neg e]; exact Paired.snoc r ⟨rfl, ry⟩
theorem KV.drop {kvs : List (κ × V)} {vs : List (κ × Value)} (r : KV kvs vs) (k : κ) : KV (dropK kvs k) (without vs k) := by
  unfold KV at r ⊢
  unfold dropK without
  induction r with
  | nil => exact .nil
  | @cons p q ps qs h t ih =>
    obtain ⟨h1, h2⟩ := h
    rw [List.filter_cons, List.filter_cons]
    by_cases e : p.1 = k
    · have a : ¬ decide (p.1 ≠ k) = true := by simp [e]
      have b : ¬ decide (q.1 ≠ k) = true := by simp [h1.symm.trans e]
      rw [if_neg a, if_neg b]; exact ih
    · have e' : ¬ q.1 = k := fun z => e (h1.trans z)
      have a : decide (p.1 ≠ k) = true := by simp [e]
      have b : decide (q.1 ≠ k) = true := by simp [e']
      rw [if_pos a, if_pos b]; exact .cons ⟨h1, h2⟩ ih
theorem KV.length {kvs : List (κ × V)} {vs : List (κ × Value)} (r : KV kvs vs) : kvs.length = vs.length := Paired.length r
end
abbrev KT (H : Hp) : List (List Key × V) → List (List Key × Addr × Value) → Prop := Paired fun p q => p.1 = q.1 ∧ H q.2.1 = some (.tup (p.1.map kV)) ∧ RelV p.2 q.2.2
theorem KT.val {H : Hp} {kvs : List (List Key × V)} {xs : List (List Key × Addr × Value)} (r : KT H kvs xs) (k : List Key) : RelO (valV kvs k) ((atKey xs k).map (·.2)) := by
  induction r with
  | nil => exact True.intro
  | @cons p q ps qs h t ih =>
    obtain ⟨h1, _, h2⟩ := h
    by_cases e : p.1 = k
    · have e' : q.1 = k := h1.symm.trans e
      have b : atKey (q :: qs) k = some q.2 := by simp [atKey, List.find?_cons, e']
      rw [valV_pos e, b]; exact h2
    · have e' : ¬ q.1 = k := fun z => e (h1.trans z)
      have b : atKey (q :: qs) k = atKey qs k := by simp [atKey, List.find?_cons, e']
      rw [valV_neg e, b]; exact ih
theorem KT.repl {H : Hp} {kvs : List (List Key × V)} {xs : List (List Key × Addr × Value)} (r : KT H kvs xs) (k : List Key) {y : V} {u : Value} (ry : RelV y u) :
    KT H (kvs.map fun kv => if kv.1 = k then (kv.1, y) else kv) (xs.map (putAt k u)) := by
  induction r with
  | nil => exact .nil
  | @cons p q ps qs h t ih =>
    rw [List.map_cons, List.map_cons]
    refine .cons ?_ ih
    obtain ⟨h1, h2, h3⟩ := h
    unfold putAt
    by_cases e : p.1 = k
    · rw [if_pos e, if_pos (h1.symm.trans e)]; exact ⟨h1, h2, ry⟩
    · rw [if_neg e, if_neg (fun z => e (h1.trans z))]; exact ⟨h1, h2, h3⟩
theorem KT.put {H : Hp} {kvs : List (List Key × V)} {xs : List (List Key × Addr × Value)} (r : KT H kvs xs) (k : List Key) {b : Addr} {y : V} {u : Value} (hb : H b = some (.tup (k.map kV))) (ry : RelV y u) :
    KT H (putK kvs k y) (storedH xs k b u) := by
  have e : (kvs.any fun kv => decide (kv.1 = k)) = (atKey xs k).isSome := by
    rw [valV_any, (r.val k).isSome_eq, Option.isSome_map]
  unfold putK storedH
  rw [e]
  by_cases q : (atKey xs k).isSome = true
  · rw [if_pos q, if_pos q]; exact r.repl k ry
  · rw [if_neg q, if_neg q]; exact Paired.snoc r ⟨rfl, hb, ry⟩
theorem KT.keeps {H H' : Hp} {kvs : List (List Key × V)} {xs : List (List Key × Addr × Value)} (r : KT H kvs xs) (ht : ∀ b ys, H b = some (.tup ys) → H' b = some (.tup ys)) : KT H' kvs xs :=
  Paired.mapP r fun _ _ z => ⟨z.1, ht _ _ z.2.1, z.2.2⟩
section
variable {P : Program} {w : World} {H : Hp} {h : Heap} {a : Addr}
end
def DGet (H : Hp) (a : Addr) (y : V) (r : Option V) : Prop :=
  (∃ kvs k, Rd H a (.dK kvs) ∧ y = kV k ∧ r = valV kvs k) ∨ ∃ kvs k b, Rd H a (.dT kvs) ∧ y = .ref b ∧ H b = some (.tup (k.map kV)) ∧ r = valV kvs k
def DPut (H : Hp) (a : Addr) (y v : V) (H' : Hp) : Prop :=
  (∃ kvs k, H a = some (.dK kvs) ∧ y = kV k ∧ kvs.length < sizeLine ∧ H' = upd H a (.dK (putK kvs k v))) ∨
  ∃ kvs k b, H a = some (.dT kvs) ∧ y = .ref b ∧ H b = some (.tup (k.map kV)) ∧ kvs.length < sizeLine ∧ H' = upd H a (.dT (putK kvs k v))
theorem DGet.k {H : Hp} {a : Addr} {kvs : List (Key × V)} {k : Key} (e : H a = some (.dK kvs)) : DGet H a (kV k) (valV kvs k) := .inl ⟨kvs, k, .inl e, rfl, rfl⟩
theorem DGet.t {H : Hp} {a b : Addr} {kvs : List (List Key × V)} {k : List Key} (e : H a = some (.dT kvs)) (eb : H b = some (.tup (k.map kV))) : DGet H a (.ref b) (valV kvs k) := .inr ⟨kvs, k, b, .inl e, rfl, eb, rfl⟩
theorem DPut.k {H : Hp} {a : Addr} {kvs : List (Key × V)} {k : Key} {v : V} (e : H a = some (.dK kvs)) (hl : kvs.length < sizeLine) : DPut H a (kV k) v (upd H a (.dK (putK kvs k v))) := .inl ⟨kvs, k, e, rfl, hl, rfl⟩
theorem DPut.t {H : Hp} {a b : Addr} {kvs : List (List Key × V)} {k : List Key} {v : V} (e : H a = some (.dT kvs)) (eb : H b = some (.tup (k.map kV))) (hl : kvs.length < sizeLine) :
    DPut H a (.ref b) v (upd H a (.dT (putK kvs k v))) := .inr ⟨kvs, k, b, e, rfl, eb, hl, rfl⟩
section
variable {X : Cx} {pins : List (Addr × Obj)} {σ : St} {H : Hp} {s : Shared} {a : Addr} {y v : V} {u r : Value} {o : Option V} {A : Around} {E : Value → Shared → Prop}
theorem Inv.big (I : Inv X pins σ H s) : sysModules < s.heap.objs.size := by
  have h : mainGlobals < s.heap.objs.size := (I.mod.glob.keeps I.bk).lt
  exact Nat.lt_trans (by decide) h
end
section
variable {X : Cx} {pins : List (Addr × Obj)} {σ : St} {H : Hp} {s : Shared} {a : Addr} {kvs : List (Key × V)} {k : Key} {u : Value} {A : Around} {E : Value → Shared → Prop}
end
def NoSl (i : Expr) : Prop := ∀ ov iv, subscripted i false ov iv = operate [ov, iv] (getItem ov iv)
theorem subD_of {prog : Program} {w : World} {A : Around} {E : Value → Shared → Prop} {s : Shared} {env : Env} {value slice : Expr} {pos : Pos} {T id : String} {Q : Value → Shared → Prop}
    (hl : typeLookup (.type T) "__getitem__" = pure (some (.builtin id))) (hs : NoSl slice)
    (h : wpAny (model prog w) A (eval value env) (fun o s₁ => wpAny (model prog w) A (eval slice env) (fun i s₂ => s₂.TypeIs o T ∧ wpAny (model prog w) A (getItem o i) Q E s₂) E s₁) E s) :
    wpAny (model prog w) A (eval (.Subscript value slice pos) env) Q E s := by
  refine Subscript_ (wpAny_mono h (fun o s₁ h₁ => wpAny_mono h₁ (fun i s₂ h₂ => ?_) fun _ _ x => x) fun _ _ x => x)
  obtain ⟨hT, h₂⟩ := h₂
  unfold subscriptTail
  refine wpAny_bind ?_
  rw [getitemInPython_of_ne hT.not_modules]
  refine wpAny_bind (wpAny_specialOf hT hl ?_)
  have fin : wpAny (model prog w) A (subscripted slice false o i) (fun r s₃ => wpAny (model prog w) A (letTemporaryGo value o r >>= fun _ => pure r) Q E s₃) E s₂ := by
    rw [hs o i]
    exact wpAny_operating (wpAny_mono h₂ (fun r s₃ h₃ => wpAny_bind (wpAny_letTemporaryGo (wpAny_pure h₃))) fun _ _ x => x)
  first
    | exact wpAny_pure (wpAny_bind fin)
    | exact wpAny_bind (wpAny_pure (wpAny_bind fin))
    | exact wpAny_bind fin
section
variable {X : Cx} {o i e value : Expr} {pos pos' tpos : Pos} {td ty tv : TE}
end
section
variable {X : Cx} {pos : Pos}
end
section
variable {X : Cx} {pins : List (Addr × Obj)} {σ : St} {H : Hp} {s : Shared} {a : Addr} {y d : V} {u r : Value} {o : Option V} {A : Around} {E : Value → Shared → Prop}
end
section
variable {X : Cx} {o e f : Expr} {apos cpos : Pos} {td ty tx : TE}
end
section
variable {X : Cx} {pins : List (Addr × Obj)} {σ : St} {H : Hp} {s : Shared} {a : Addr} {kvs : List (Key × V)} {A : Around} {E : Value → Shared → Prop}
end
section
variable {X : Cx} {pins : List (Addr × Obj)} {σ : St} {H : Hp} {s : Shared} {a : Addr} {y : V} {u : Value} {A : Around} {E : Value → Shared → Prop}
end
end L2
namespace L2
open PySem PySem.Spec PyProof.Rows
section
variable {prog : Program} {w : World} {A : Around} {E : Value → Shared → Prop}
end
section
variable {X : Cx}
end
end L2
namespace L2
open PySem PySem.Spec PyProof.Rows
section
variable {X : Cx} {pins : List (Addr × Obj)} {σ : St} {H : Hp} {s : Shared} {h' : Heap}
theorem Inv.turnedL {t' : Nat} {ch : List Addr} (I : Inv X pins σ H s) (k : ∀ b o, b ∉ ch → s.heap.get? b = some o → h'.get? b = some o) (hf : ∀ b ∈ ch, FpOk X pins H b) : Inv X pins σ H { s with heap := h', toks := t' } := by
  have nit : ∀ b u, H b = some u → b ∉ ch := fun b u e z => by
    have q := (hf b z).1
    rw [q] at e; cases e
  refine I.step (g' := s.gens) (d' := s.drawn) (ch := ch) (fun b hb => ⟨(hf b hb).2.2.2.1, (hf b hb).2.1, (hf b hb).2.2.2.2.1, (hf b hb).2.2.2.2.2⟩) (fun b o _ _ hc e _ => k b o hc e) (fun b o _ _ hc e _ => ⟨o.slots, k b o hc e⟩)
    (fun _ _ _ _ n => n) (fun b o hc e => ⟨o, k b o hc e⟩) (fun _ _ e => e) (fun _ _ _ e => e) (fun b ps e => ⟨#[], by rw [e]; simp⟩) (fun m hm => ?_) (fun b u e => ?_) I.bare
  · obtain ⟨o, es, ep, ho, r⟩ := hm
    exact ⟨o, es, ep, k _ o (fun z => (hf _ z).2.1 rfl) ho, r⟩
  · refine (I.hok b u e).stay (fun c v hc q => k c v ?_ q) (fun _ q => q) fun _ _ q => q
    rcases hc with z | z
    · rw [z]; exact nit b u e
    · exact nit c _ z
theorem Inv.turnedNew {t' : Nat} {ch : List Addr} {T : Addr} {ob : HO} (I : Inv X pins σ H s) (k : ∀ b o, b ∉ ch → s.heap.get? b = some o → h'.get? b = some o) (hf : ∀ b ∈ ch, FpOk X pins H b) (hT : s.heap.objs.size ≤ T)
    (new : ObjOk X.prog X.w (upd H T ob) h' T ob) : Inv X pins σ (upd H T ob) { s with heap := h', toks := t' } := by
  have hn : H T = none := I.hok.fresh hT
  have nit : ∀ b u, H b = some u → b ∉ ch := fun b u e z => by
    have q := (hf b z).1
    rw [q] at e; cases e
  refine I.step (g' := s.gens) (d' := s.drawn) (ch := ch) (fun b hb => ⟨(hf b hb).2.2.2.1, (hf b hb).2.1, (hf b hb).2.2.2.2.1, (hf b hb).2.2.2.2.2⟩) (fun b o _ _ hc e _ => k b o hc e) (fun b o _ _ hc e _ => ⟨o.slots, k b o hc e⟩)
    (fun b o _ e n => ?_) (fun b o hc e => ⟨o, k b o hc e⟩) (fun b xs e => ?_) (fun b o u e => ?_) (fun b ps e => ⟨#[], ?_⟩) (fun m hm => ?_) (fun b u e => ?_) I.bare
  · rw [upd_ne (Nat.ne_of_lt (Nat.lt_of_lt_of_le (Heap.lt_size e) hT))]; exact n
  · rw [upd_ne (ne_of_none e hn)]; exact e
  · rw [upd_ne (ne_of_none e hn)]; exact e
  · rw [upd_ne (ne_of_none e hn), e]; simp
  · obtain ⟨o, es, ep, ho, r⟩ := hm
    exact ⟨o, es, ep, k _ o (fun z => (hf _ z).2.1 rfl) ho, r⟩
  · by_cases hb : b = T
    · subst hb
      rw [upd_same] at e
      cases e
      exact new
    · rw [upd_ne hb] at e
      refine (I.hok b u e).stay (fun c v hc q => k c v ?_ q) (fun c q => by rw [upd_ne (ne_of_none q hn)]; exact q) fun c xs q => by rw [upd_ne (ne_of_none q hn)]; exact q
      rcases hc with z | z
      · rw [z]; exact nit b u e
      · exact nit c _ z
end
section
variable {X : Cx}
theorem pi_one {tg : Expr} {pins : List (Addr × Obj)} {σ : St} {H : Hp} {s : Shared} {R : It → Hp → Prop} {J : It} {tn : Nat → Heap → Prop} {tk : Nat} (I : Inv X pins σ H s) (o : Obj)
    (T : Turn X.prog X.w X.K tg J [s.heap.objs.size] s.heap.objs.size tn) (st : tn 0 (s.heap.push o)) (q : R J H) : PIE X pins σ tg R (.ref s.heap.objs.size) { s with heap := s.heap.push o, toks := tk } := by
  refine ⟨s.heap.objs.size, [s.heap.objs.size], tn, J, H, rfl, I.kept fun b ob e => Heap.get?_push_of_some _ e, T, st, fun b hb => ?_, q⟩
  have e : b = s.heap.objs.size := by simpa using hb
  subst e
  exact I.fpOk (Nat.le_refl _) (I.hok.fresh (Nat.le_refl _))
end
def Itc (lo c : Int) (n : Nat) : It := ⟨fun i _ => i < n, fun i H x H' => H' = H ∧ x = .int (lo + (i : Nat) * c), fun i _ => n ≤ i⟩
theorem turn_rangeC {P : Program} {w : World} {K : PySem.W.Frag} {tg : Expr} (it : Addr) (lo c : Int) (n : Nat) : Turn P w K tg (Itc lo c n) [it] it (fun i h => IsRangeIter h it (lo + (i : Nat) * c) ((n : Int) - (i : Nat)) c) where
  mem := by simp
  obj := fun i h st b hb => by
    have e : b = it := by simpa using hb
    subst e
    exact ⟨_, st, fun v z => nomatch z⟩
  keep := fun i h h' st k => k it (by simp) _ st
  item := by
    intro X hP hw hK hc i pins s σ H E I hf st hg
    subst hP hw hK
    obtain ⟨f0, f1, f2, f3, f4, f5⟩ := hf it (by simp)
    have W := Walks.range (prog := X.prog) (w := X.w) (I.ok.hd hc) it lo c n
    refine W.item i s _ _ hg st fun v h' tk hv st' kk => ?_
    obtain ⟨t, rfl⟩ := hv
    have I1 : Inv X pins σ H { s with heap := h', toks := tk } := I.turned (fun b o hb e => kk b o (by simpa using hb) e) f0 f1 f3 f4 f5
    exact ⟨_, rfl, go_of (s := { s with heap := h', toks := tk }) (n := "range_iterator") st' rfl rfl (by decide) ⟨.int (lo + (i : Nat) * c), H, I1, ⟨t, rfl⟩, ⟨rfl, rfl⟩, st', fun b hb => (hf b hb).1⟩⟩
  done := by
    intro X hP hw hK hc i pins s σ H E I hf st hg
    subst hP hw hK
    obtain ⟨f0, f1, f2, f3, f4, f5⟩ := hf it (by simp)
    exact wpAny_pyNext_range_end (I.ok.hd hc) st (by have : n ≤ i := hg; omega) fun h' eb => ⟨rfl, I.turned (t' := s.toks) (fun b o hb e => eb b o hb e) f0 f1 f3 f4 f5⟩
  self := fun A i s Q E st h => wpAny_pyIter_rangeiter st h
def RgC (i j c : Int) (n : Nat) : Prop := c ≠ 0 ∧ c.natAbs < 1073741824 ∧ Builtin.Range.small i j c = true ∧ Builtin.Range.rangeSize i j c = n
def iRng3 (ta : TA) : TI := fun σ H R => ta σ H fun vs H1 => ∃ (i j c : Int) (n : Nat), vs = [.int i, .int j, .int c] ∧ RgC i j c n ∧ R (Itc i c n) H1
section
variable {X : Cx} {tg : Expr}
theorem pi_range3 {a b c : Expr} {ta : TA} {p pos : Pos} (hg : Gl X "range") (hm : X.mg "range" = none) (ha : PA X [a, b, c] ta)
    (hs : starEach [a, b, c] X.env = (false, eval a X.env) :: starEach [b, c] X.env := by rfl) (hpl : (backTo pos (starEach [b, c] X.env)).any (·.1) = false := by rfl) :
    PI X tg (.Call (.Name "range" p) [a, b, c] [] pos) (iRng3 ta) := by
  intro pins s σ H R I h
  refine Call_ (ld_blt I hg hm boot_range (PyProof.Rows.callWith_type1 (thn (ha pos pins s σ H _ I h) fun us s1 ⟨vs, H1, I1, r1, q1⟩ => ?_) hs hpl))
  obtain ⟨i, j, k, n, e, ⟨c0, c1, c2, c3⟩, q⟩ := q1
  subst e
  cases r1 with
  | cons r rr =>
    cases rr with
    | cons r' rr =>
      cases rr with
      | cons r'' rr =>
        cases rr
        obtain ⟨t, rfl⟩ := r
        obtain ⟨t', rfl⟩ := r'
        obtain ⟨t'', rfl⟩ := r''
        refine call_range_3 c0 ?_ (.inl (PyProof.noPylong_small c1))
        refine wpAny_pyIter_range (IsRange.new ..) c2 ?_
        have I2 : Inv X pins σ H1 { s1 with heap := s1.heap.push { cls := .type "range", data := .fields #[.int i t, .int j t', .int k t''] } } := I1.kept (t' := s1.toks) fun b o e => Heap.get?_push_of_some _ e
        refine pi_one (tk := s1.toks) I2 _ (turn_rangeC _ i k n) ?_ q
        have e1 : i + ((0 : Nat) : Int) * k = i := by simp
        have e2 : (n : Int) - ((0 : Nat) : Int) = Builtin.Range.rangeSize i j k := by rw [c3]; simp
        show IsRangeIter _ _ (i + ((0 : Nat) : Int) * k) ((n : Int) - ((0 : Nat) : Int)) k
        rw [e1, e2]
        exact Heap.get?_push_size _ rfl
end
section
variable {X : Cx} {tg : Expr}
end
section
variable {prog : Program} {w : World} {A : Around} {E : Value → Shared → Prop} {s : Shared}
end
section
variable {X : Cx} {pins : List (Addr × Obj)} {σ : St} {H : Hp} {s : Shared} {d : Addr} {o : Obj}
end
section
variable {P : Program} {w : World} {K : PySem.W.Frag} {tg : Expr} {d : Addr} {o : Obj} {es : Array DictEntry} {ep : Nat}
end
section
variable {X : Cx} {tg e : Expr} {td : TE} {apos cpos : Pos}
end
theorem boot_zip5 : bootBuiltins "zip" = some (.type "zip") := by decide +kernel
def Itz (K : PySem.W.Frag) (a b : Addr) : It :=
  ⟨fun i H => ∃ (xs ys : List V) (x y : V), SqL K H a xs ∧ SqL K H b ys ∧ xs[i]? = some x ∧ ys[i]? = some y,
    fun i H v H' => ∃ T x y, v = .ref T ∧ H T = none ∧ H' = upd H T (.tup [x, y]) ∧ (∀ xs, SqL K H a xs → xs[i]? = some x) ∧ ∀ ys, SqL K H b ys → ys[i]? = some y,
    fun i H => ∃ xs ys : List V, SqL K H a xs ∧ SqL K H b ys ∧ (xs.length ≤ i ∨ ys.length ≤ i)⟩
theorem turn_zip {P : Program} {w : World} {K : PySem.W.Frag} {elts : List Expr} {kk : Nat} {tpos : Pos} {a b z TI TO i1 i2 : Addr} (D : ZipApart z TI TO i1 i2 a b) :
    Turn P w K (.Tuple elts kk tpos) (Itz K a b) [z, TI, TO, i1, i2] z (fun i h => IsZip h z TI TO .none ∧ IsPair h TI (.ref i1) (.ref i2) ∧ (∃ x y, IsPair h TO x y) ∧ h.IsListIter i1 a i ∧ h.IsListIter i2 b i) where
  mem := by simp
  obj := fun i h st c hc => by
    obtain ⟨hz, hTI, ⟨x, y, hTO⟩, ⟨o1, e1, _, d1⟩, ⟨o2, e2, _, d2⟩⟩ := st
    have e' : c = z ∨ c = TI ∨ c = TO ∨ c = i1 ∨ c = i2 := by simpa using hc
    rcases e' with q | q | q | q | q
    · rw [q]; exact ⟨_, hz, fun v q => nomatch q⟩
    · rw [q]; exact ⟨_, hTI, fun v q => nomatch q⟩
    · rw [q]; exact ⟨_, hTO, fun v q => nomatch q⟩
    · rw [q]; exact ⟨o1, e1, fun v q => by rw [d1] at q; cases q⟩
    · rw [q]; exact ⟨o2, e2, fun v q => by rw [d2] at q; cases q⟩
  keep := fun i h h' st k => by
    obtain ⟨hz, hTI, ⟨x, y, hTO⟩, h1, h2⟩ := st
    exact ⟨k z (by simp) _ hz, k TI (by simp) _ hTI, ⟨x, y, k TO (by simp) _ hTO⟩, h1.at fun o q => k i1 (by simp) o q, h2.at fun o q => k i2 (by simp) o q⟩
  item := by
    intro X hP hw hK hc i pins s σ H E I hf st hg
    subst hP hw hK
    obtain ⟨hz, hTI, ⟨x0, y0, hTO⟩, h1, h2⟩ := st
    obtain ⟨xs, ys, x, y, hqx, hqy, hx, hy⟩ := hg
    obtain ⟨its, rv, p, _⟩ := I.list hqx
    obtain ⟨its2, rv2, p2, _⟩ := I.list hqy
    obtain ⟨u, hu, ru⟩ := rv.get hx
    obtain ⟨u2, hu2, ru2⟩ := rv2.get hy
    have hzl : z < s.heap.objs.size := Heap.lt_size hz
    refine wpAny_pyNext_zip_item D hz hTI hTO h1 h2 p.isList p2.isList (x := u) (y := u2) (by simpa using hu) (by simpa using hu2) fun h' z' TO' h1' h2' hT hsz hk => ?_
    refine ⟨_, rfl, wpAny_letOwnedTupleGo_zip (s := { s with heap := h' }) z' fun h'' z'' sb => ?_⟩
    have hT2 : h''.get? s.heap.objs.size = some { cls := .type "tuple", data := .seq #[u, u2] } := (sb.2 _ (Nat.ne_of_gt hzl)).trans hT
    have new : ObjOk X.prog X.w (upd H s.heap.objs.size (.tup [x, y])) h'' s.heap.objs.size (.tup [x, y]) :=
      ⟨by show 2 ≤ sizeLine; decide, [u, u2], .cons ru (.cons ru2 .nil), ⟨_, hT2, rfl, _, rfl⟩⟩
    have I1 : Inv X pins σ (upd H s.heap.objs.size (.tup [x, y])) { s with heap := h'' } :=
      I.turnedNew (t' := s.toks) (ch := [z, TI, TO, i1, i2]) (fun c o hb q => (sb.2 c (fun q' => hb (by simp [q']))).trans (hk c o (fun q' => hb (by simp [q'])) (fun q' => hb (by simp [q'])) (fun q' => hb (by simp [q'])) (fun q' => hb (by simp [q'])) q)) hf (Nat.le_refl _) new
    refine ⟨.ref s.heap.objs.size, _, I1, rfl, ⟨_, x, y, rfl, I.hok.fresh (Nat.le_refl _), rfl, fun l hl => by rw [I.list_inj hl hqx]; exact hx, fun l hl => by rw [I.list_inj hl hqy]; exact hy⟩, ⟨z'', ?_, ⟨u, u2, ?_⟩, ?_, ?_⟩, fun c hcm => ?_⟩
    · exact (sb.2 _ D.TIz).trans (hk _ _ D.TIz D.TITO D.TIi1 D.TIi2 hTI)
    · exact (sb.2 _ D.TOz).trans TO'
    · exact h1'.at fun o q => (sb.2 _ D.i1z).trans q
    · exact h2'.at fun o q => (sb.2 _ D.i2z).trans q
    · have hlt : c < s.heap.objs.size := by
        have e' : c = z ∨ c = TI ∨ c = TO ∨ c = i1 ∨ c = i2 := by simpa using hcm
        rcases e' with q | q | q | q | q
        · rw [q]; exact hzl
        · rw [q]; exact Heap.lt_size hTI
        · rw [q]; exact Heap.lt_size hTO
        · rw [q]; obtain ⟨_, e1, _⟩ := h1; exact Heap.lt_size e1
        · rw [q]; obtain ⟨_, e2, _⟩ := h2; exact Heap.lt_size e2
      rw [upd_ne (Nat.ne_of_lt hlt)]
      exact (hf c hcm).1
  done := by
    intro X hP hw hK hc i pins s σ H E I hf st hg
    subst hP hw hK
    obtain ⟨hz, hTI, ⟨x0, y0, hTO⟩, h1, h2⟩ := st
    obtain ⟨xs, ys, hqx, hqy, hend⟩ := hg
    obtain ⟨its, rv, p, _⟩ := I.list hqx
    obtain ⟨its2, rv2, p2, _⟩ := I.list hqy
    have l1 := rv.length
    have l2 := rv2.length
    have he : its.toArray[i]? = none ∨ its2.toArray[i]? = none := by
      rcases hend with q | q
      · exact .inl (by simp; omega)
      · exact .inr (by simp; omega)
    exact wpAny_pyNext_zip_end (I.ok.hd hc) D hz hTI hTO h1 h2 p.isList p2.isList he fun h' hk => ⟨rfl, I.turnedL (t' := s.toks) (ch := [z, TI, TO, i1, i2]) (fun c o hb q =>
      hk c o (fun q' => hb (by simp [q'])) (fun q' => hb (by simp [q'])) (fun q' => hb (by simp [q'])) (fun q' => hb (by simp [q'])) q) hf⟩
  self := fun A i s Q E st h => wpAny_pyIter_zip st.1 h
def iZip (K : PySem.W.Frag) (ta : TA) : TI := fun σ H R => ta σ H fun vs H1 => ∃ a b xs ys, vs = [.ref a, .ref b] ∧ SqL K H1 a xs ∧ SqL K H1 b ys ∧ R (Itz K a b) H1
theorem pi_zip {X : Cx} {e e2 : Expr} {ta : TA} {p pos tpos : Pos} {elts : List Expr} {kk : Nat} (hg : Gl X "zip") (hm : X.mg "zip" = none) (ha : PA X [e, e2] ta)
    (hs : starEach [e, e2] X.env = (false, eval e X.env) :: starEach [e2] X.env := by rfl) (hpl : (backTo pos (starEach [e2] X.env)).any (·.1) = false := by rfl) :
    PI X (.Tuple elts kk tpos) (.Call (.Name "zip" p) [e, e2] [] pos) (iZip X.K ta) := by
  intro pins s σ H R I h
  refine Call_ (ld_blt I hg hm boot_zip5 (PyProof.Rows.callWith_type1 (thn (ha pos pins s σ H _ I h) fun us s1 ⟨vs, H1, I1, r1, q1⟩ => ?_) hs hpl))
  obtain ⟨a, b, xs, ys, ex, hqx, hqy, q⟩ := q1
  subst ex
  cases r1 with
  | cons r rr =>
    cases rr with
    | cons r' rr =>
      cases rr
      cases r
      cases r'
      obtain ⟨its, rv, p1, _⟩ := I1.list hqx
      obtain ⟨its2, rv2, p2, _⟩ := I1.list hqy
      have la : a < s1.heap.objs.size := p1.lt
      have lb : b < s1.heap.objs.size := p2.lt
      refine call_zip_2 p1.isList p2.isList fun h' hz hTI hTO h1 h2 hsz hk => wpAny_pyIter_zip hz ?_
      have I2 : Inv X pins σ H1 { s1 with heap := h' } := I1.kept (t' := s1.toks) hk
      refine ⟨s1.heap.objs.size + 4, [s1.heap.objs.size + 4, s1.heap.objs.size + 2, s1.heap.objs.size + 3, s1.heap.objs.size, s1.heap.objs.size + 1], _, _, H1, rfl, I2, turn_zip (PySem.W.ktu_apart s1.heap.objs.size a b la lb), ⟨hz, hTI, ⟨_, _, hTO⟩, h1, h2⟩, fun c hcm => ?_, q⟩
      have e' : c = s1.heap.objs.size + 4 ∨ c = s1.heap.objs.size + 2 ∨ c = s1.heap.objs.size + 3 ∨ c = s1.heap.objs.size ∨ c = s1.heap.objs.size + 1 := by simpa using hcm
      have hle : s1.heap.objs.size ≤ c := by
        rcases e' with z | z | z | z | z
        · rw [z]; exact Nat.le_add_right _ _
        · rw [z]; exact Nat.le_add_right _ _
        · rw [z]; exact Nat.le_add_right _ _
        · rw [z]; exact Nat.le_refl _
        · rw [z]; exact Nat.le_add_right _ _
      exact I1.fpOk hle (I1.hok.fresh hle)
end L2
section
namespace Bits
open PySem PyProof.Rows
end Bits
end
section
namespace TL
open PySem PySem.Builtin PySem.Builtin.Str PySem.StrLaws
abbrev tl (x : Str) : List Nat := x.cps.toList
def pre (S l : List Nat) : Bool := l.take S.length == S
def par (S : List Nat) : List Nat → List Nat → Option (List Nat × List Nat)
  | _, [] => none
  | acc, c :: r => if pre S (c :: r) = true then some (acc, (c :: r).drop S.length) else par S (acc ++ [c]) r
end TL
end
namespace L2
open PySem PySem.Spec PyProof.Rows
section
variable {X : Cx} {pins : List (Addr × Obj)} {σ : St} {H : Hp} {s : Shared} {Q : VK}
end
section
variable {X : Cx}
end
section
variable {X : Cx} {o e : Expr} {to te : TE}
end
end L2
namespace L2
open PySem PySem.Spec PyProof.Rows
section
variable {X : Cx}
end
end L2
namespace Att
open PySem PySem.W PySem.Calls PyProof.Rows
section
variable {prog : Program} {w : World} {A : Around} {E : Value → Shared → Prop} {s : Shared} {K : Frag}
end
end Att
namespace L2
open PySem PySem.Spec PyProof.Rows
end L2
namespace L2
open PySem PySem.Spec PyProof.Rows
end L2
namespace L2
open PySem PySem.Spec PyProof.Rows
def inClass (s : Stmt) (j : Nat) : Stmt := match s with
  | .ClassDef _ _ _ body _ _ _ _ _ _ _ => body.getD j (.Pass ⟨0, 0, 0, 0⟩)
  | _ => .Pass ⟨0, 0, 0, 0⟩
def defArgs (s : Stmt) : Arguments := match s with
  | .FunctionDef _ a _ _ _ _ _ _ _ _ => a
  | _ => { posonlyargs := [], args := [], vararg := none, kwonlyargs := [], kw_defaults := [], kwarg := none, defaults := [] }
def defBody (s : Stmt) : List Stmt := match s with
  | .FunctionDef _ _ b _ _ _ _ _ _ _ => b
  | _ => []
def defScope (s : Stmt) : Scope := match s with
  | .FunctionDef _ _ _ _ _ _ sc _ _ _ => sc
  | _ => { kind := .function, names := [], isGenerator := false, isCoroutine := false }
abbrev CX0 : CXT := fun _ _ _ _ _ _ => False
abbrev E0 : XK := fun _ _ _ => False
theorem pass0 {X : Cx} : Passes CX0 X E0 := fun _ _ _ _ _ _ _ h => h.elim
structure Fun (K : PySem.W.Frag) (x qual : Str) (st : Stmt) (f : Addr) (fd : FuncData) : Prop where
  ex : ∃ (oc : Value) (od : Option Addr) (kV doc pm : Value) (an : Option Addr) (cdv ct : Value) (osl : Array (Option Value)),
    fd = PySem.W.fnOf x qual (defArgs st) (defBody st) (defScope st) .none kV doc pm an cdv ct ∧ K.lookup f = some ⟨oc, od, .func fd, osl⟩ ∧ PySem.W.codeIn K cdv qual = true
  kp : PySem.W.keepIn K (.ref f) = true
section
variable {P : Program} {w : World} {K : PySem.W.Frag} {mg : Str → Option Value} {base : Heap}
theorem Fun.ok {x qual : Str} {st : Stmt} {f : Addr} {fd : FuncData} {N ps : List Str} {k : Nat} {sp : Sp} (F : Fun K x qual st f fd) (S : FnScope N ps (defScope st)) (len : ∀ vs H Q E, sp vs H Q E → vs.length = ps.length)
    (hbody : ∀ (cdv : Value) (A : Around) (outer : List Env) (s : Shared) (H : Hp) (vs : List V) (Q : VK) (E : XK), Room k (A.deeper (envOfC qual (defScope st) s.heap.objs.size f cdv)) → sp vs H Q E →
      ∃ t, PSs (cxOf CX0 P w K mg base N qual (defScope st) f cdv A outer s H E).nox (defBody st) t ∧ t { nx := fun _ H' => Q .non H', rt := Q } (start N vs) H) : FnOk P w K mg base CX0 (k + 1) f fd ps sp := by
  obtain ⟨oc, od, kV, doc, pm, an, cdv, ct, osl, rfl, lk, hcd⟩ := F.ex
  refine fn_of lk hcd S len fun A outer s H vs Q E hr hsp => ?_
  obtain ⟨t, h, q⟩ := hbody cdv A outer s H vs Q E hr hsp
  exact ⟨t, h.nox, q⟩
theorem Fun.binds {x qual : Str} {st : Stmt} {f : Addr} {fd : FuncData} {ps : List Str} (F : Fun K x qual st f fd)
    (h : ∀ (kV doc pm : Value) (an : Option Addr) (cdv ct : Value) (us : List Value), us.length = ps.length → bindArgs (PySem.W.fnOf x qual (defArgs st) (defBody st) (defScope st) .none kV doc pm an cdv ct) ⟨us, []⟩ = pure (ps.zip us)) : Binds K fd ps [] := by
  obtain ⟨oc, od, kV, doc, pm, an, cdv, ct, osl, rfl, lk, hcd⟩ := F.ex
  exact .all (h kV doc pm an cdv ct)
theorem fun_mk {x qual : Str} {st : Stmt} {f : Addr} {oc : Value} {od an : Option Addr} {osl : Array (Option Value)} {kV doc pm cdv ct : Value} (l : K.lookup f = some ⟨oc, od, .func (PySem.W.fnOf x qual (defArgs st) (defBody st) (defScope st) .none kV doc pm an cdv ct), osl⟩)
    (c : PySem.W.codeIn K cdv qual = true) (k : PySem.W.keepIn K (.ref f) = true) : Fun K x qual st f (PySem.W.fnOf x qual (defArgs st) (defBody st) (defScope st) .none kV doc pm an cdv ct) := ⟨⟨oc, od, kV, doc, pm, an, cdv, ct, osl, rfl, l, c⟩, k⟩
end
section
variable {X : Cx}
theorem pv (i : Nat) {x : Str} {pos : Pos} (hN : X.N[i]? = some x := by rfl) (hv : Vis X.env.scope x := by first | exact Or.inl rfl | exact Or.inr (Or.inl rfl) | exact Or.inr (Or.inr rfl)) (hd : (x == ("__debug__" : Str)) = false := by decide)
    (hcd : (x == ("__classdict__" : Str)) = false := by decide) : PE X (.Name x pos) (tVar i) := pe_var hN hv hd hcd
end
theorem iteF {A B : Prop} (h : B) : if false = true then A else B := by
  rw [if_neg Bool.false_ne_true]
  exact h
theorem iteT {A B : Prop} (h : A) : if true = true then A else B := by
  rw [if_pos rfl]
  exact h
def Same (H H' : Hp) : Prop := ∀ b o, H b = some o → H' b = some o
theorem Same.refl (H : Hp) : Same H H := fun _ _ h => h
theorem Same.trans {H H1 H2 : Hp} (a : Same H H1) (b : Same H1 H2) : Same H H2 := fun c o h => b c o (a c o h)
theorem Same.free {H H' : Hp} (e : Same H H') {l : Addr} (h : H' l = Option.none) : H l = Option.none := by
  cases q : H l with
  | none => rfl
  | some o =>
    rw [e l o q] at h
    cases h
theorem Same.seq {K : PySem.W.Frag} {H H' : Hp} {a : Addr} {xs : List V} (e : Same H H') (h : SqL K H a xs) : SqL K H' a xs := by
  rcases h with (h | ⟨o, h⟩) | h
  · exact .inl (.inl (e _ _ h))
  · exact .inl (.inr ⟨o, e _ _ h⟩)
  · exact .inr h
section
variable {κ : Type} [DecidableEq κ]
end
theorem at_of {xs : List V} {z : Int} {j : Nat} {v : V} (e : z = (j : Int)) (h : xs[j]? = some v) : atI xs z = some v := by
  rw [e]
  exact atI_nat h
theorem sum_take : ∀ {l : List Int} {i : Nat} {z : Int}, l[i]? = some z → (l.take (i + 1)).sum = (l.take i).sum + z
  | [], i, z, h => by simp at h
  | a :: r, 0, z, h => by
    have e : a = z := Option.some.inj h
    subst e
    show ([a] : List Int).sum = ([] : List Int).sum + a
    rw [List.sum_cons]
    exact Int.add_comm _ _
  | a :: r, i + 1, z, h => by
    have ih := sum_take (l := r) (i := i) (z := z) h
    show (a :: r.take (i + 1)).sum = (a :: r.take i).sum + z
    rw [List.sum_cons, List.sum_cons, ih]
    omega
theorem Same.made {H H1 : Hp} {x dx C : Addr} (nx : H x = Option.none) (nd : H dx = Option.none) (k : ∀ b o, (upd (upd H dx (.own x)) x (.ins C dx [])) b = some o → b ≠ x → H1 b = some o) : Same H H1 := fun b o e =>
  k b o (by rw [upd_ne (ne_of_none e nx), upd_ne (ne_of_none e nd)]; exact e) (ne_of_none e nx)
end L2
end
section
set_option Elab.async false
set_option linter.all false
set_option maxRecDepth 100000
set_option maxHeartbeats 2000000
namespace L2
open PySem PySem.Spec PyProof.Rows
open PySem.W (WData Codec OpenSpec Well WellAll ReadsW ReadsAllW)
mutual
inductive Dw (K : PySem.W.Frag) (H : Hp) : V → WData → Prop
  | non : Dw K H .non .none
  | bl (b : Bool) : Dw K H (.bl b) (.bool b)
  | int (i : Int) : Dw K H (.int i) (.int i)
  | str (x : Str) : Dw K H (.str x) (.str x)
  | byt (b : Array UInt8) : Dw K H (.byt b) (.bytes b.toList)
  | lst {a : Addr} {xs : List V} {ds : List WData} : SqL K H a xs → DwAll K H xs ds → Dw K H (.ref a) (.list ds)
  | tup {a : Addr} {xs : List V} {ds : List WData} : SqT K H a xs → DwAll K H xs ds → Dw K H (.ref a) (.tuple ds)
inductive DwAll (K : PySem.W.Frag) (H : Hp) : List V → List WData → Prop
  | nil : DwAll K H [] []
  | cons {v : V} {vs : List V} {d : WData} {ds : List WData} : Dw K H v d → DwAll K H vs ds → DwAll K H (v :: vs) (d :: ds)
end
theorem dw_ints {K : PySem.W.Frag} {H : Hp} : ∀ ns : List Int, DwAll K H (ns.map V.int) (ns.map WData.int)
  | [] => .nil
  | n :: r => .cons (.int n) (dw_ints r)
theorem ints_dw {K : PySem.W.Frag} {H : Hp} : ∀ (ns : List Int) (xs : List V), DwAll K H xs (ns.map WData.int) → xs = ns.map V.int
  | [], xs, h => by
    cases h
    rfl
  | n :: r, xs, h => by
    cases h with
    | cons h1 h2 =>
      cases h1
      rw [ints_dw r _ h2] <;> rfl
section
variable {P : Program} {w : World} {K : PySem.W.Frag} {H : Hp} {h : Heap} {R : PySem.W.WRecords} {cl : Str → Option Addr}
theorem sqL_at {a : Addr} {xs : List V} (hok : HOk P w H h) (KX : K.In h) (q : SqL K H a xs) : ∃ (its : List Value) (o : Obj) (n : Nat), Vals xs its ∧ h.get? a = some o ∧ o.cls = .type "list" ∧ o.data = .seq its.toArray n := by
  rcases q with q | ⟨o, its, n, e, hc, _, hd, _, hv⟩
  · obtain ⟨_, its, n, hv, e⟩ := (show ObjOk P w H h a (.lst xs) from q.ok hok)
    exact ⟨its, _, n, hv, e, rfl, rfl⟩
  · exact ⟨its.toList, o, n, hv, KX _ _ e, hc, by simp [hd]⟩
theorem sqT_at {a : Addr} {xs : List V} (hok : HOk P w H h) (KX : K.In h) (q : SqT K H a xs) : ∃ (its : List Value) (o : Obj) (n : Nat), Vals xs its ∧ h.get? a = some o ∧ o.cls = .type "tuple" ∧ o.data = .seq its.toArray n := by
  rcases q with q | ⟨o, its, n, e, hc, hd, _, hv⟩
  · obtain ⟨_, its, hv, o, e, hc, n, hd⟩ := (show ObjOk P w H h a (.tup xs) from q.ok hok)
    exact ⟨its, o, n, hv, e, hc, hd⟩
  · exact ⟨its.toList, o, n, hv, KX _ _ e, hc, by simp [hd]⟩
mutual
theorem Dw.reads (hok : HOk P w H h) (KX : K.In h) : ∀ (d : WData) (v : V) (u : Value), Dw K H v d → RelV v u → ∃ as, ReadsW R cl h u d as
  | .none, _, _, x, r => by
    cases x
    cases r
    exact ⟨_, ReadsW.none⟩
  | .bool b, _, _, x, r => by
    cases x
    cases r
    exact ⟨_, ReadsW.bool b⟩
  | .int i, _, _, x, r => by
    cases x
    obtain ⟨t, rfl⟩ := r
    exact ⟨_, ReadsW.int i t⟩
  | .str s, _, _, x, r => by
    cases x
    obtain ⟨t, rfl⟩ := r
    exact ⟨_, ReadsW.str s t⟩
  | .bytes b, _, _, x, r => by
    cases x
    obtain ⟨t, rfl⟩ := r
    exact ⟨_, ReadsW.bytes _ t⟩
  | .list ds, _, _, x, r => by
    cases x with
    | lst hs ha =>
      cases r
      obtain ⟨its, o, n, rv, ho, hc, hd⟩ := sqL_at hok KX hs
      obtain ⟨as, hr⟩ := Dw.readsAll hok KX ds _ its ha rv
      exact ⟨_, ReadsW.list ho hc hd hr⟩
  | .tuple ds, _, _, x, r => by
    cases x with
    | tup hs ha =>
      cases r
      obtain ⟨its, o, n, rv, ho, hc, hd⟩ := sqT_at hok KX hs
      obtain ⟨as, hr⟩ := Dw.readsAll hok KX ds _ its ha rv
      exact ⟨_, ReadsW.tuple ho hc hd hr⟩
  | .float _, _, _, x, _ => by cases x
  | .dict _, _, _, x, _ => by cases x
  | .bytearray _, _, _, x, _ => by cases x
  | .set _, _, _, x, _ => by cases x
  | .frozenset _, _, _, x, _ => by cases x
  | .obj _ _, _, _, x, _ => by cases x
theorem Dw.readsAll (hok : HOk P w H h) (KX : K.In h) : ∀ (ds : List WData) (vs : List V) (us : List Value), DwAll K H vs ds → Vals vs us → ∃ as, ReadsAllW R cl h us ds as
  | [], _, _, x, r => by
    cases x
    cases r
    exact ⟨_, ReadsAllW.nil⟩
  | d :: ds, _, _, x, r => by
    cases x with
    | cons h1 h2 =>
      cases r with
      | cons r1 r2 =>
        obtain ⟨as, q1⟩ := Dw.reads hok KX d _ _ h1 r1
        obtain ⟨bs, q2⟩ := Dw.readsAll hok KX ds _ _ h2 r2
        exact ⟨_, ReadsAllW.cons q1 q2⟩
end
end
mutual
def plW : WData → Bool
  | .none => true
  | .bool _ => true
  | .int _ => true
  | .str _ => true
  | .bytes _ => true
  | .list xs => plWs xs
  | .tuple xs => plWs xs
  | _ => false
def plWs : List WData → Bool
  | [] => true
  | x :: r => plW x && plWs r
end
theorem plWs_map {α : Type} {f : α → WData} (h : ∀ a, plW (f a) = true) : ∀ l : List α, plWs (l.map f) = true
  | [] => rfl
  | x :: r => by
    show (plW (f x) && plWs (r.map f)) = true
    rw [h x, plWs_map h r] <;> rfl
theorem pl_enc : ∀ (c : Codec) (a : c.denote), plW (c.enc a) = true
  | .unit, _ => rfl
  | .bool, _ => rfl
  | .int _ _, _ => rfl
  | .nat _ _, _ => rfl
  | .u8, _ => rfl
  | .bytes _ _, _ => rfl
  | .text _ _ _ _, _ => rfl
  | .list _ _ c, a => plWs_map (fun x => pl_enc c x) a
  | .pair c d, a => by
    show (plW (c.enc a.1) && (plW (d.enc a.2) && true)) = true
    rw [pl_enc c a.1, pl_enc d a.2] <;> rfl
  | .triple c d e, a => by
    show (plW (c.enc a.1) && (plW (d.enc a.2.1) && (plW (e.enc a.2.2) && true))) = true
    rw [pl_enc c a.1, pl_enc d a.2.1, pl_enc e a.2.2] <;> rfl
  | .option c, none => rfl
  | .option c, some x => pl_enc c x
theorem pl_encAll : ∀ (cs : List Codec) (a : Codec.denoteAll cs), plWs (Codec.encAll cs a) = true
  | [], _ => rfl
  | c :: cs, a => by
    show (plW (c.enc a.1) && plWs (Codec.encAll cs a.2)) = true
    rw [pl_enc c a.1, pl_encAll cs a.2] <;> rfl
theorem weight_mem : ∀ {xs : List WData} {d : WData}, d ∈ xs → d.weight ≤ WData.weightAll xs
  | [], d, h => absurd h (by simp)
  | x :: r, d, h => by
    show d.weight ≤ x.weight + 1 + WData.weightAll r
    rcases List.mem_cons.mp h with e | m
    · rw [e]
      omega
    · have z := weight_mem m
      omega
def toV : Value → V
  | .none => .non
  | .bool b => .bl b
  | .int i _ => .int i
  | .str x _ => .str x
  | .bytes b _ => .byt b
  | .ref a => .ref a
  | _ => .non
def OkU (A : List Addr) : Value → Prop
  | .none => True
  | .bool _ => True
  | .int _ _ => True
  | .str _ _ => True
  | .bytes _ _ => True
  | .ref a => a ∈ A
  | _ => False
theorem OkU.mono {A B : List Addr} (h : ∀ a ∈ A, a ∈ B) : ∀ {u : Value}, OkU A u → OkU B u := fun {u} x => by
  cases u with
  | ref a => exact h a x
  | none => trivial
  | bool b => trivial
  | int i t => trivial
  | str s t => trivial
  | bytes b t => trivial
  | _ => exact False.elim x
theorem relV_toV {A : List Addr} {u : Value} (x : OkU A u) : RelV (toV u) u := by
  cases u with
  | ref a => rfl
  | none => rfl
  | bool b => rfl
  | int i t => exact ⟨t, rfl⟩
  | str s t => exact ⟨t, rfl⟩
  | bytes b t => exact ⟨t, rfl⟩
  | _ => exact False.elim x
theorem vals_toV {A : List Addr} : ∀ {vs : List Value}, (∀ u ∈ vs, OkU A u) → Vals (vs.map toV) vs
  | [], _ => .nil
  | u :: r, h => .cons (relV_toV (h u (List.mem_cons_self ..))) (vals_toV fun x hx => h x (List.mem_cons_of_mem _ hx))
def ArgOb (h : Heap) (A : List Addr) (a : Addr) : Prop := ∃ vs : List Value, vs.length ≤ sizeLine ∧ (∀ u ∈ vs, OkU A u) ∧
  (h.get? a = some { cls := .type "list", data := .seq vs.toArray } ∨ h.get? a = some { cls := .type "tuple", data := .seq vs.toArray })
theorem ArgOb.mono {h : Heap} {A B : List Addr} {a : Addr} (k : ∀ a ∈ A, a ∈ B) (x : ArgOb h A a) : ArgOb h B a := by
  obtain ⟨vs, h1, h2, h3⟩ := x
  exact ⟨vs, h1, fun u hu => (h2 u hu).mono k, h3⟩
theorem wellAll_len {P : Params} {h : Heap} : ∀ {vs : List Value} {ds : List WData}, WellAll P h vs ds → vs.length = ds.length
  | _, _, .nil => rfl
  | _, _, .cons _ b => by
    show _ + 1 = _ + 1
    rw [wellAll_len b]
theorem well_list {P : Params} {h : Heap} {v : Value} {ds : List WData} (x : Well P h v (.list ds)) : ∃ (a : Addr) (vs : List Value), v = .ref a ∧ h.get? a = some { cls := .type "list", data := .seq vs.toArray } ∧ WellAll P h vs ds := by
  cases x with
  | list ho hall => exact ⟨_, _, rfl, ho, hall⟩
theorem well_tuple {P : Params} {h : Heap} {v : Value} {ds : List WData} (x : Well P h v (.tuple ds)) : ∃ (a : Addr) (vs : List Value), v = .ref a ∧ h.get? a = some { cls := .type "tuple", data := .seq vs.toArray } ∧ WellAll P h vs ds := by
  cases x with
  | tuple ho hall => exact ⟨_, _, rfl, ho, hall⟩
theorem well_cons {P : Params} {h : Heap} {us : List Value} {d : WData} {ds : List WData} (x : WellAll P h us (d :: ds)) : ∃ (v : Value) (vs : List Value), us = v :: vs ∧ Well P h v d ∧ WellAll P h vs ds := by
  cases x with
  | cons a b => exact ⟨_, _, rfl, a, b⟩
theorem line_of {n : Nat} (h : n ≤ 1048576) : n ≤ sizeLine := Nat.le_trans h (by decide)
section
variable {P : Params} {h : Heap}
mutual
theorem area_one : ∀ (d : WData) (v : Value), Well P h v d → plW d = true → d.weight ≤ 1048576 → ∃ A : List Addr, OkU A v ∧ ∀ a ∈ A, ArgOb h A a
  | .none, _, x, _, _ => by
    cases x
    exact ⟨[], trivial, fun a m => absurd m (by simp)⟩
  | .bool b, _, x, _, _ => by
    cases x
    exact ⟨[], trivial, fun a m => absurd m (by simp)⟩
  | .int i, _, x, _, _ => by
    cases x
    exact ⟨[], trivial, fun a m => absurd m (by simp)⟩
  | .str s, _, x, _, _ => by
    cases x
    exact ⟨[], trivial, fun a m => absurd m (by simp)⟩
  | .bytes b, _, x, _, _ => by
    cases x
    exact ⟨[], trivial, fun a m => absurd m (by simp)⟩
  | .list ds, _, x, p, z => by
    obtain ⟨a, vs, rfl, ho, hall⟩ := well_list x
    have z2 : WData.weightAll ds ≤ 1048576 := z
    obtain ⟨A, h1, h2⟩ := area_all ds _ hall p fun d hd => Nat.le_trans (weight_mem hd) z2
    have k : ∀ b ∈ A, b ∈ a :: A := fun b hb => List.mem_cons_of_mem _ hb
    refine ⟨a :: A, List.mem_cons_self .., fun b hb => ?_⟩
    rcases List.mem_cons.mp hb with e | m
    · rw [e]
      exact ⟨vs, line_of (by rw [wellAll_len hall]; exact Nat.le_trans (PySem.W.length_le_weightAllW ds) z2), fun u hu => (h1 u hu).mono k, .inl ho⟩
    · exact (h2 b m).mono k
  | .tuple ds, _, x, p, z => by
    obtain ⟨a, vs, rfl, ho, hall⟩ := well_tuple x
    have z2 : WData.weightAll ds ≤ 1048576 := z
    obtain ⟨A, h1, h2⟩ := area_all ds _ hall p fun d hd => Nat.le_trans (weight_mem hd) z2
    have k : ∀ b ∈ A, b ∈ a :: A := fun b hb => List.mem_cons_of_mem _ hb
    refine ⟨a :: A, List.mem_cons_self .., fun b hb => ?_⟩
    rcases List.mem_cons.mp hb with e | m
    · rw [e]
      exact ⟨vs, line_of (by rw [wellAll_len hall]; exact Nat.le_trans (PySem.W.length_le_weightAllW ds) z2), fun u hu => (h1 u hu).mono k, .inr ho⟩
    · exact (h2 b m).mono k
  | .float _, _, _, p, _ => Bool.noConfusion (show false = true from p)
  | .dict _, _, _, p, _ => Bool.noConfusion (show false = true from p)
  | .bytearray _, _, _, p, _ => Bool.noConfusion (show false = true from p)
  | .set _, _, _, p, _ => Bool.noConfusion (show false = true from p)
  | .frozenset _, _, _, p, _ => Bool.noConfusion (show false = true from p)
  | .obj _ _, _, _, p, _ => Bool.noConfusion (show false = true from p)
theorem area_all : ∀ (ds : List WData) (vs : List Value), WellAll P h vs ds → plWs ds = true → (∀ d ∈ ds, d.weight ≤ 1048576) → ∃ A : List Addr, (∀ u ∈ vs, OkU A u) ∧ ∀ a ∈ A, ArgOb h A a
  | [], _, x, _, _ => by
    cases x
    exact ⟨[], fun u m => absurd m (by simp), fun a m => absurd m (by simp)⟩
  | d :: ds, _, x, p, z => by
    obtain ⟨v, vs, rfl, x1, x2⟩ := well_cons x
    have q : plW d = true ∧ plWs ds = true := Bool.and_eq_true_iff.mp p
    obtain ⟨A, a1, a2⟩ := area_one d v x1 q.1 (z d (List.mem_cons_self ..))
    obtain ⟨B, b1, b2⟩ := area_all ds vs x2 q.2 fun e he => z e (List.mem_cons_of_mem _ he)
    have kA : ∀ b ∈ A, b ∈ A ++ B := fun b hb => List.mem_append.mpr (.inl hb)
    have kB : ∀ b ∈ B, b ∈ A ++ B := fun b hb => List.mem_append.mpr (.inr hb)
    refine ⟨A ++ B, fun u hu => ?_, fun b hb => ?_⟩
    · rcases List.mem_cons.mp hu with e | m
      · rw [e]
        exact a1.mono kA
      · exact (b1 u m).mono kB
    · rcases List.mem_append.mp hb with m | m
      · exact (a2 b m).mono kA
      · exact (b2 b m).mono kB
end
end
def hoOf (o : Obj) : Option HO := match o.data with
  | .seq vs _ => if (o.cls == Value.type "list") = true then some (.frz o (.lst (vs.toList.map toV))) else some (.frz o (.tup (vs.toList.map toV)))
  | _ => none
def argH (K : PySem.W.Frag) (h : Heap) (A : List Addr) : Hp := fun b => if b ∈ A then (if (K.lookup b).isNone = true then (h.get? b).bind hoOf else none) else none
def OnlyF (H : Hp) : Prop := ∀ b, H b = none ∨ ∃ o u, H b = some (.frz o u)
theorem hoOf_lst (vs : List Value) : hoOf { cls := .type "list", data := .seq vs.toArray } = some (.frz { cls := .type "list", data := .seq vs.toArray } (.lst (vs.map toV))) := by
  show (if (Value.type "list" == Value.type "list") = true then some (HO.frz { cls := .type "list", data := .seq vs.toArray } (.lst (vs.toArray.toList.map toV))) else some (HO.frz { cls := .type "list", data := .seq vs.toArray } (.tup (vs.toArray.toList.map toV)))) = _
  rw [if_pos (beq_self_eq_true _)]
theorem hoOf_tup (vs : List Value) : hoOf { cls := .type "tuple", data := .seq vs.toArray } = some (.frz { cls := .type "tuple", data := .seq vs.toArray } (.tup (vs.map toV))) := by
  show (if (Value.type "tuple" == Value.type "list") = true then some (HO.frz { cls := .type "tuple", data := .seq vs.toArray } (.lst (vs.toArray.toList.map toV))) else some (HO.frz { cls := .type "tuple", data := .seq vs.toArray } (.tup (vs.toArray.toList.map toV)))) = _
  rw [if_neg (by decide)]
section
variable {P : Program} {w : World} {K : PySem.W.Frag} {h : Heap} {A : List Addr}
theorem argH_at {b : Addr} {o : Obj} (hb : b ∈ A) (hk : K.lookup b = none) (e : h.get? b = some o) : argH K h A b = hoOf o := by
  unfold argH
  rw [if_pos hb, hk, if_pos (show (none : Option Obj).isNone = true from rfl), e] <;> rfl
theorem of_argH {b : Addr} {u : HO} (q : argH K h A b = some u) : b ∈ A ∧ K.lookup b = none := by
  unfold argH at q
  by_cases hb : b ∈ A
  · rw [if_pos hb] at q
    cases hk : K.lookup b with
    | none => exact ⟨hb, rfl⟩
    | some o =>
      rw [hk, if_neg (by simp)] at q
      cases q
  · rw [if_neg hb] at q
    cases q
theorem argH_is (ar : ∀ a ∈ A, ArgOb h A a) {b : Addr} {u : HO} (q : argH K h A b = some u) : K.lookup b = none ∧ ∃ vs : List Value, vs.length ≤ sizeLine ∧ (∀ u ∈ vs, OkU A u) ∧
    ((h.get? b = some { cls := .type "list", data := .seq vs.toArray } ∧ u = .frz { cls := .type "list", data := .seq vs.toArray } (.lst (vs.map toV))) ∨
     (h.get? b = some { cls := .type "tuple", data := .seq vs.toArray } ∧ u = .frz { cls := .type "tuple", data := .seq vs.toArray } (.tup (vs.map toV)))) := by
  obtain ⟨hb, hk⟩ := of_argH q
  obtain ⟨vs, h1, h2, h3⟩ := ar b hb
  refine ⟨hk, vs, h1, h2, ?_⟩
  rcases h3 with e | e
  · rw [argH_at hb hk e, hoOf_lst] at q
    exact .inl ⟨e, (Option.some.inj q).symm⟩
  · rw [argH_at hb hk e, hoOf_tup] at q
    exact .inr ⟨e, (Option.some.inj q).symm⟩
theorem argH_only (ar : ∀ a ∈ A, ArgOb h A a) : OnlyF (argH K h A) := fun b => by
  cases q : argH K h A b with
  | none => exact .inl rfl
  | some u =>
    obtain ⟨_, vs, _, _, ⟨_, e⟩ | ⟨_, e⟩⟩ := argH_is ar q
    · exact .inr ⟨_, _, by rw [e]⟩
    · exact .inr ⟨_, _, by rw [e]⟩
theorem argH_ok (ar : ∀ a ∈ A, ArgOb h A a) : HOk P w (argH K h A) h := fun b u q => by
  obtain ⟨_, vs, h1, h2, ⟨e, rfl⟩ | ⟨e, rfl⟩⟩ := argH_is ar q
  · exact ⟨e, by rw [List.length_map]; exact h1, vs, _, vals_toV h2, e⟩
  · exact ⟨e, by rw [List.length_map]; exact h1, vs, vals_toV h2, _, e, rfl, _, rfl⟩
theorem seq_inj {c c' : Value} {vs us : List Value} (e : (some { cls := c, data := .seq vs.toArray } : Option Obj) = some { cls := c', data := .seq us.toArray }) : c = c' ∧ vs = us := by
  have e1 := Option.some.inj e
  have e2 : c = c' := congrArg Obj.cls e1
  have e3 : Data.seq vs.toArray = Data.seq us.toArray := congrArg Obj.data e1
  injection e3 with e4
  refine ⟨e2, ?_⟩
  have e5 := congrArg Array.toList e4
  simpa using e5
theorem argL (KX : K.In h) (ar : ∀ a ∈ A, ArgOb h A a) {a : Addr} {vs : List Value} (ha : a ∈ A) (e : h.get? a = some { cls := .type "list", data := .seq vs.toArray }) : (∀ u ∈ vs, OkU A u) ∧ SqL K (argH K h A) a (vs.map toV) := by
  obtain ⟨us, h1, h2, h3⟩ := ar a ha
  have hu : us = vs := by
    rcases h3 with q | q
    · rw [e] at q
      exact (seq_inj q).2.symm
    · rw [e] at q
      exact absurd (Value.type.inj (seq_inj q).1) (by decide)
  subst hu
  refine ⟨h2, ?_⟩
  cases hk : K.lookup a with
  | none => exact .inl (.inr ⟨_, by rw [argH_at ha hk e, hoOf_lst]⟩)
  | some o =>
    have e2 := KX a o hk
    rw [e] at e2
    obtain rfl := Option.some.inj e2
    exact .inr ⟨_, us.toArray, _, hk, rfl, rfl, rfl, by rw [List.size_toArray]; exact h1, by simpa using vals_toV h2⟩
theorem argT (KX : K.In h) (ar : ∀ a ∈ A, ArgOb h A a) {a : Addr} {vs : List Value} (ha : a ∈ A) (e : h.get? a = some { cls := .type "tuple", data := .seq vs.toArray }) : (∀ u ∈ vs, OkU A u) ∧ SqT K (argH K h A) a (vs.map toV) := by
  obtain ⟨us, h1, h2, h3⟩ := ar a ha
  have hu : us = vs := by
    rcases h3 with q | q
    · rw [e] at q
      exact absurd (Value.type.inj (seq_inj q).1) (by decide)
    · rw [e] at q
      exact (seq_inj q).2.symm
  subst hu
  refine ⟨h2, ?_⟩
  cases hk : K.lookup a with
  | none => exact .inl (.inr ⟨_, by rw [argH_at ha hk e, hoOf_tup]⟩)
  | some o =>
    have e2 := KX a o hk
    rw [e] at e2
    obtain rfl := Option.some.inj e2
    exact .inr ⟨_, us.toArray, _, hk, rfl, rfl, by rw [List.size_toArray]; exact h1, by simpa using vals_toV h2⟩
mutual
theorem dw_one {Pm : Params} (KX : K.In h) (ar : ∀ a ∈ A, ArgOb h A a) : ∀ (d : WData) (v : Value), Well Pm h v d → plW d = true → OkU A v → Dw K (argH K h A) (toV v) d
  | .none, _, x, _, _ => by
    cases x
    exact .non
  | .bool b, _, x, _, _ => by
    cases x
    exact .bl b
  | .int i, _, x, _, _ => by
    cases x
    exact .int i
  | .str s, _, x, _, _ => by
    cases x
    exact .str s
  | .bytes b, _, x, _, _ => by
    cases x
    have z := Dw.byt (K := K) (H := argH K h A) b.toArray
    exact z
  | .list ds, _, x, p, hu => by
    obtain ⟨a, vs, rfl, ho, hall⟩ := well_list x
    obtain ⟨h2, hs⟩ := argL KX ar hu ho
    exact .lst hs (dw_all KX ar ds _ hall p h2)
  | .tuple ds, _, x, p, hu => by
    obtain ⟨a, vs, rfl, ho, hall⟩ := well_tuple x
    obtain ⟨h2, hs⟩ := argT KX ar hu ho
    exact .tup hs (dw_all KX ar ds _ hall p h2)
  | .float _, _, _, p, _ => Bool.noConfusion (show false = true from p)
  | .dict _, _, _, p, _ => Bool.noConfusion (show false = true from p)
  | .bytearray _, _, _, p, _ => Bool.noConfusion (show false = true from p)
  | .set _, _, _, p, _ => Bool.noConfusion (show false = true from p)
  | .frozenset _, _, _, p, _ => Bool.noConfusion (show false = true from p)
  | .obj _ _, _, _, p, _ => Bool.noConfusion (show false = true from p)
theorem dw_all {Pm : Params} (KX : K.In h) (ar : ∀ a ∈ A, ArgOb h A a) : ∀ (ds : List WData) (vs : List Value), WellAll Pm h vs ds → plWs ds = true → (∀ u ∈ vs, OkU A u) → DwAll K (argH K h A) (vs.map toV) ds
  | [], _, x, _, _ => by
    cases x
    exact .nil
  | d :: ds, _, x, p, hu => by
    obtain ⟨v, vs, rfl, x1, x2⟩ := well_cons x
    have q : plW d = true ∧ plWs ds = true := Bool.and_eq_true_iff.mp p
    exact .cons (dw_one KX ar d v x1 q.1 (hu _ (List.mem_cons_self ..))) (dw_all KX ar ds vs x2 q.2 fun u m => hu u (List.mem_cons_of_mem _ m))
end
end
theorem spec_call {P : Program} {w : World} {K : PySem.W.Frag} {mg mb : Str → Option Value} {CX : CXT} {k : Nat} {fa : Addr} {fd : FuncData} {ps : List Str} {sp : Sp} {s₁ : Shared} {vals : List Value} {ds : List WData} {R : PySem.W.WRecords} {cl : Str → Option Addr} {d0 : WData}
    (KX : K.In s₁.heap) (hns : s₁.heap.Ns mainGlobals mg) (hb : s₁.heap.Ns builtinsNs mb) (hbb : ∀ x : Str, x ≠ "__name__" → mb x = bootBuiltins x) (hlim : s₁.heap.NoLimit) (hg : s₁.gens = #[])
    (hwl : WellAll w.params s₁.heap vals ds) (hpl : plWs ds = true) (hwt : ∀ d ∈ ds, d.weight ≤ 1048576) (hr : Room k callerA)
    (F : ∀ base : Heap, K.In base → base.Ns mainGlobals mg → FnOk P w K mg base CX k fa fd ps sp) (hbind : ∀ (s : Shared) (us : List Value), us.length = ps.length → BindsTo s fd ⟨us, []⟩ (ps.zip us)) (hlen : ds.length = ps.length)
    (hsp : ∀ (H : Hp) (xs : List V), OnlyF H → DwAll K H xs ds → sp xs H (fun v H' => Dw K H' v d0) fun _ _ _ => False)
    (hCX : ∀ H e s', CX [] H s₁ (fun _ _ _ => False) e s' → False) :
    codeAny (model P w) callerA (.call (.ref fa) ⟨vals, []⟩) (fun r s' => ∃ u as, r = .ok (.ret u) ∧ ReadsW R cl s'.heap u d0 as ∧ OldK s₁.heap s'.heap ∧ s'.os = s₁.os ∧ AllBare s'.gens) s₁ := by
  obtain ⟨A, ho, ar⟩ := area_all ds vals hwl hpl hwt
  have hO : OnlyF (argH K s₁.heap A) := argH_only ar
  have hok : HOk P w (argH K s₁.heap A) s₁.heap := argH_ok ar
  have hS := dw_all KX ar ds vals hwl hpl ho
  have hV := vals_toV ho
  have hK : ∀ b u, argH K s₁.heap A b = some u → K.lookup b = none := fun b u q => (argH_is ar q).1
  have noA : ∀ {b : Addr} {o : Obj} {es : Array DictEntry} {ep : Nat}, s₁.heap.get? b = some o → o.data = .dict es ep → argH K s₁.heap A b = none := fun {b o es ep} e d => by
    cases q : argH K s₁.heap A b with
    | none => rfl
    | some u =>
      obtain ⟨_, vs, _, _, ⟨e2, _⟩ | ⟨e2, _⟩⟩ := argH_is ar q
      · rw [e2] at e
        cases e
        have d' : Data.seq vs.toArray _ = Data.dict es ep := d
        cases d'
      · rw [e2] at e
        cases e
        have d' : Data.seq vs.toArray _ = Data.dict es ep := d
        cases d'
  generalize argH K s₁.heap A = H at hO hok hS hK noA
  have base_of : ∀ {b : Addr} {o : Obj}, s₁.heap.get? b = some o → H b = none → (hidT s₁.heap H).get? b = some o := fun e n => hidT_get e n
  have nsK : ∀ {b : Addr} {m : Str → Option Value}, s₁.heap.Ns b m → (hidT s₁.heap H).Ns b m := fun {b m} ⟨o, es, ep, e, d, r⟩ => ⟨o, es, ep, base_of e (noA e d), d, r⟩
  have nK : ∀ b o, K.lookup b = some o → H b = none := fun b o e => by
    cases q : H b with
    | none => rfl
    | some u =>
      rw [hK b u q] at e
      cases e
  have hKb : K.In (hidT s₁.heap H) := fun b o e => base_of (KX b o e) (nK b o e)
  have hM : Mod K mg (hidT s₁.heap H) := ⟨hKb, nsK hns, ⟨mb, nsK hb, hbb⟩, let ⟨mc, h1, h2⟩ := hlim; ⟨mc, nsK h1, h2⟩⟩
  have e0 : Env0 P w K mg (hidT s₁.heap H) callerA [] s₁ H := ⟨rfl, hM, fun b o e => of_hidT e, Nat.le_of_eq (hidT_size _ _), trivial, fun b hb => absurd (show b ∈ ([] : List Addr) from hb) (by simp), hok, .of_eq hg⟩
  have hl : vals.length = ps.length := by rw [wellAll_len hwl]; exact hlen
  refine codeAny_mono ((F _ hKb (nsK hns)).run callerA [] s₁ H ⟨vals, []⟩ vals (vals.map toV) _ _ hr e0 (hbind s₁ vals hl) hV (hsp H _ hO hS)) fun r s' x => ?_
  cases r with
  | error e => exact (hCX H e s' x).elim
  | ok fl =>
    cases fl with
    | next => exact False.elim x
    | brk => exact False.elim x
    | cont => exact False.elim x
    | ret u =>
      obtain ⟨v, H', os, bare, un, hok', r', q⟩ := x
      have kept : ∀ b o, s₁.heap.get? b = some o → s'.heap.get? b = some o := fun b o e => by
        cases q2 : H b with
        | none => exact un.keep b o e q2 (by intro z; exact absurd (show b ∈ ([] : List Addr) from z) (by simp)) (by simp)
        | some u2 =>
          rcases hO b with z | ⟨ob, u3, z⟩
          · rw [q2] at z
            cases z
          · have z2 := un.frzs b ob _ z
            obtain ⟨e1, _⟩ := hok b _ z
            obtain ⟨e2, _⟩ := hok' b _ z2
            rw [e] at e1
            cases e1
            exact e2
      have KX' : K.In s'.heap := fun b o e => kept b o (KX b o e)
      obtain ⟨as, hrd⟩ := Dw.reads (R := R) (cl := cl) hok' KX' d0 v u q r'
      exact ⟨u, as, rfl, hrd, OldK.of_keep kept, os, bare⟩
theorem layable_weight {ds : List WData} (h : WData.layableAll ds = true) : ∀ d ∈ ds, d.weight ≤ 1048576 := fun d hd =>
  (PySem.W.layableW_iff.mp (List.all_eq_true.mp h d hd)).2.2
theorem encAll_len : ∀ (cs : List Codec) (a : Codec.denoteAll cs), (Codec.encAll cs a).length = cs.length
  | [], _ => rfl
  | c :: cs, a => by
    show (Codec.encAll cs a.2).length + 1 = cs.length + 1
    rw [encAll_len cs a.2]
theorem walk_spec {r : OpenSpec} {k : Nat} {q : Program} {loose : List Str} {XP : (Str → Option Value) → Heap → Prop} {YP : World → Heap → Prop} {d : DefRec} {K : Params → PySem.W.Frag} {CX : World → CXT} {ps : List Str} {sp : World → Sp}
    (hwell : r.wellSaid = true) (hdf : d.params.defaults = []) (hlen : r.args.length = ps.length) (hr : Room k callerA)
    (hY : ∀ (w : World) (h : Heap), YP w h → (K w.params).In h)
    (F : ∀ (w : World) (mg : Str → Option Value) (fa : Addr) (h : Heap), YP w h → (K w.params).In h → h.Ns mainGlobals mg → mg d.name = some (.ref fa) →
      ∃ fd : FuncData, (∀ (s : Shared) (us : List Value), us.length = ps.length → BindsTo s fd ⟨us, []⟩ (ps.zip us)) ∧
        ∀ base : Heap, (K w.params).In base → base.Ns mainGlobals mg → FnOk r.prog w (K w.params) mg base (CX w) k fa fd ps (sp w))
    (hsp : ∀ (w : World) (H : Hp) (xs : List V) (a : Codec.denoteAll r.args), OnlyF H → Codec.withinAll r.args a = true → Codec.app r.args r.asked a = true → DwAll (K w.params) H xs (Codec.encAll r.args a) →
      sp w xs H (fun v H' => Dw (K w.params) H' v (r.ret.enc (Codec.app r.args r.f a))) fun _ _ _ => False)
    (hCX : ∀ (w : World) (H : Hp) (s : Shared) (e : Value) (s' : Shared), CX w [] H s (fun _ _ _ => False) e s' → False) :
    PySem.W.WalkOS q loose XP YP r d [] (fun f vs => PySem.call f vs) := by
  intro w s_0 s₁ mg mb G Y fa o pm cd doc dV kV ho hd hcd hD hmg hg args vals as hpre hlay hrd hwl hlo
  obtain ⟨a, e1, e2⟩ := PySem.W.os_pre_some hpre
  obtain ⟨e3, hwi⟩ := Codec.encAll_of_decAll r.args args a e1
  subst e3
  have KX := hY w _ Y
  obtain ⟨fd, hb, hF⟩ := F w mg fa _ Y KX G.T.g hmg
  refine PySem.W.enter_call (codeAny_mono (spec_call (R := []) (cl := classAt s_0.heap) (d0 := r.ret.enc (Codec.app r.args r.f a)) KX G.T.g G.T.b G.T.builtins G.T.nolimit hg hwl (pl_encAll _ _) (layable_weight hlay) hr hF hb (by rw [encAll_len]; exact hlen)
    (fun H xs hO hS => hsp w H xs a hO hwi e2 hS) fun H e s' => hCX w H s₁ e s') fun r' s' hq => ?_)
  obtain ⟨u, as', rfl, h1, h2, h3, h4⟩ := hq
  exact ⟨.inl ⟨u, _, as', rfl, fun _ => rfl, h1, (OpenSpec.post_iff hwell hwi _ _).mpr rfl, fun z => Bool.noConfusion (show false = true from z)⟩, h2, h3, h4⟩
theorem walk_specK {r : OpenSpec} {k : Nat} {q : Program} {loose : List Str} {XP : (Str → Option Value) → Heap → Prop} {YP : World → Heap → Prop} {d : DefRec} {K : Params → PySem.W.Frag} {CX : CXT} {ps : List Str} {sp : PySem.W.Frag → Sp}
    (hwell : r.wellSaid = true) (hdf : d.params.defaults = []) (hlen : r.args.length = ps.length) (hr : Room k callerA)
    (hY : ∀ (w : World) (h : Heap), YP w h → (K w.params).In h)
    (F : ∀ (w : World) (mg : Str → Option Value) (fa : Addr) (h : Heap), YP w h → (K w.params).In h → h.Ns mainGlobals mg → mg d.name = some (.ref fa) →
      ∃ fd : FuncData, (∀ (s : Shared) (us : List Value), us.length = ps.length → BindsTo s fd ⟨us, []⟩ (ps.zip us)) ∧
        ∀ base : Heap, (K w.params).In base → base.Ns mainGlobals mg → FnOk r.prog w (K w.params) mg base CX k fa fd ps (sp (K w.params)))
    (hsp : ∀ (K : PySem.W.Frag) (H : Hp) (xs : List V) (a : Codec.denoteAll r.args), OnlyF H → Codec.withinAll r.args a = true → Codec.app r.args r.asked a = true → DwAll K H xs (Codec.encAll r.args a) →
      sp K xs H (fun v H' => Dw K H' v (r.ret.enc (Codec.app r.args r.f a))) fun _ _ _ => False)
    (hCX : ∀ (H : Hp) (s : Shared) (e : Value) (s' : Shared), CX [] H s (fun _ _ _ => False) e s' → False) :
    PySem.W.WalkOS q loose XP YP r d [] (fun f vs => PySem.call f vs) :=
  walk_spec (K := K) (CX := fun _ => CX) (sp := fun w => sp (K w.params)) hwell hdf hlen hr hY F (fun w H xs a h1 h2 h3 h4 => hsp (K w.params) H xs a h1 h2 h3 h4) fun _ H s e s' => hCX H s e s'
end L2
end
section
set_option Elab.async false
namespace KM
open Kqp6
/-! fractions by what they are worth -/
theorem frac_low (n : Int) (d : Nat) (hd : 0 < d) :
    0 < (frac n d).den ∧ (frac n d).num * (d : Int) = n * ((frac n d).den : Int) ∧ Nat.gcd (frac n d).num.natAbs (frac n d).den = 1 := by
  have hg : 0 < Nat.gcd n.natAbs d := Nat.gcd_pos_of_pos_right _ hd
  unfold frac
  simp only
  rw [if_neg (Nat.ne_of_gt hg)]
  simp only
  generalize hG : Nat.gcd n.natAbs d = g at hg
  have h1 : g ∣ d := hG ▸ Nat.gcd_dvd_right _ _
  have h2 : (g : Int) ∣ n := Int.ofNat_dvd_left.mpr (hG ▸ Nat.gcd_dvd_left _ _)
  obtain ⟨e, rfl⟩ := h1
  obtain ⟨m, rfl⟩ := h2
  have hgi : (g : Int) ≠ 0 := by omega
  rw [Int.mul_ediv_cancel_left _ hgi, Nat.mul_div_cancel_left _ hg]
  refine ⟨Nat.pos_of_mul_pos_left hd, ?_, ?_⟩
  · push_cast; grind
  · have e1 : (((g : Int) * m).natAbs) = g * m.natAbs := by rw [Int.natAbs_mul]; rfl
    rw [e1, Nat.gcd_mul_left] at hG
    exact Nat.eq_of_mul_eq_mul_left hg (by omega)
theorem low_one {a b : Frac} (ha : 0 < a.den) (hb : 0 < b.den) (ca : Nat.gcd a.num.natAbs a.den = 1) (cb : Nat.gcd b.num.natAbs b.den = 1)
    (h : a.num * (b.den : Int) = b.num * (a.den : Int)) : a = b := by
  have hN : a.num.natAbs * b.den = b.num.natAbs * a.den := by
    have := congrArg Int.natAbs h
    rwa [Int.natAbs_mul, Int.natAbs_mul, Int.natAbs_natCast, Int.natAbs_natCast] at this
  have d1 : b.den ∣ a.den := by
    have : b.den ∣ b.num.natAbs * a.den := ⟨a.num.natAbs, by rw [← hN, Nat.mul_comm]⟩
    exact (Nat.Coprime.symm cb).dvd_of_dvd_mul_left this
  have d2 : a.den ∣ b.den := by
    have : a.den ∣ a.num.natAbs * b.den := ⟨b.num.natAbs, by rw [hN, Nat.mul_comm]⟩
    exact (Nat.Coprime.symm ca).dvd_of_dvd_mul_left this
  have e : a.den = b.den := Nat.dvd_antisymm d2 d1
  cases a with
  | mk an ad =>
    cases b with
    | mk bn bd =>
      simp only at *
      subst e
      have : an = bn := Int.eq_of_mul_eq_mul_right (by omega) h
      rw [this]
/-- the fraction is in lowest terms, and worth n by d -/
structure Is (f : Frac) (n : Int) (d : Int) : Prop where
  dp : 0 < d
  den : 0 < f.den
  eq : f.num * d = n * (f.den : Int)
  low : Nat.gcd f.num.natAbs f.den = 1
theorem Is.frac {n d : Int} (hd : 0 < d) {k : Nat} (hk : d = (k : Int)) : Is (frac n k) n d := by
  have h := frac_low n k (by omega)
  exact ⟨hd, h.1, by rw [hk]; exact h.2.1, h.2.2⟩
theorem Is.congr {f : Frac} {n d n' d' : Int} (h : Is f n d) (hd : 0 < d') (e : n * d' = n' * d) : Is f n' d' := by
  refine ⟨hd, h.den, ?_, h.low⟩
  have h1 := h.eq
  have h2 := h.dp
  refine Int.eq_of_mul_eq_mul_right (a := d) (by omega) ?_
  grind
theorem Is.same {f g : Frac} {n d n' d' : Int} (h : Is f n d) (h' : Is g n' d') (e : n * d' = n' * d) : f = g := by
  have h2 := h'.congr h.dp e.symm
  refine low_one h.den h2.den h.low h2.low ?_
  have a := h.eq
  have b := h2.eq
  refine Int.eq_of_mul_eq_mul_right (a := d) (by have := h.dp; omega) ?_
  grind
theorem Is.is_frac {f : Frac} {n d : Int} (h : Is f n d) {k : Nat} (hk : d = (k : Int)) : f = Kqp6.frac n k :=
  h.same (Is.frac h.dp hk) rfl
theorem Is.self {f : Frac} {n d : Int} (h : Is f n d) : Is f f.num (f.den : Int) := ⟨by have := h.den; omega, h.den, rfl, h.low⟩
theorem Is.mk' {n : Int} {d : Nat} (hd : 0 < d) (hl : Nat.gcd n.natAbs d = 1) : Is ⟨n, d⟩ n (d : Int) := ⟨by omega, hd, rfl, hl⟩
theorem is_zero : Is zero 0 1 := ⟨by decide, by decide, rfl, rfl⟩
theorem is_one : Is one 1 1 := ⟨by decide, by decide, rfl, rfl⟩
theorem is_nat (k : Nat) : Is (nat k) (k : Int) 1 := ⟨by decide, Nat.one_pos, rfl, Nat.gcd_one_right _⟩
section
variable {a b : Frac} {n d m e : Int}
theorem Is.add (ha : Is a n d) (hb : Is b m e) : Is (add a b) (n * e + m * d) (d * e) := by
  have h1 := ha.eq
  have h2 := hb.eq
  refine (Is.frac (k := a.den * b.den) (n := a.num * b.den + b.num * a.den) (d := (a.den : Int) * b.den) ?_ (by push_cast; rfl)).congr (Int.mul_pos ha.dp hb.dp) ?_
  · exact Int.mul_pos (by have := ha.den; omega) (by have := hb.den; omega)
  · grind
theorem Is.sub (ha : Is a n d) (hb : Is b m e) : Is (sub a b) (n * e - m * d) (d * e) := by
  have h1 := ha.eq
  have h2 := hb.eq
  refine (Is.frac (k := a.den * b.den) (n := a.num * b.den - b.num * a.den) (d := (a.den : Int) * b.den) ?_ (by push_cast; rfl)).congr (Int.mul_pos ha.dp hb.dp) ?_
  · exact Int.mul_pos (by have := ha.den; omega) (by have := hb.den; omega)
  · grind
theorem Is.mul (ha : Is a n d) (hb : Is b m e) : Is (mul a b) (n * m) (d * e) := by
  have h1 := ha.eq
  have h2 := hb.eq
  refine (Is.frac (k := a.den * b.den) (n := a.num * b.num) (d := (a.den : Int) * b.den) ?_ (by push_cast; rfl)).congr (Int.mul_pos ha.dp hb.dp) ?_
  · exact Int.mul_pos (by have := ha.den; omega) (by have := hb.den; omega)
  · grind
theorem Is.num_pos (hb : Is b m e) (hm : 0 < m) : 0 < b.num := by
  have h2 := hb.eq
  have h3 : 0 < m * (b.den : Int) := Int.mul_pos hm (by have := hb.den; omega)
  rw [← h2] at h3
  refine Int.not_le.mp fun hn => ?_
  have h4 : b.num * e ≤ 0 := Int.mul_nonpos_of_nonpos_of_nonneg hn (Int.le_of_lt hb.dp)
  omega
theorem Is.num_nonneg (hb : Is b m e) (hm : 0 ≤ m) : 0 ≤ b.num := by
  have h2 := hb.eq
  have h3 : 0 ≤ m * (b.den : Int) := Int.mul_nonneg hm (by have := hb.den; omega)
  rw [← h2] at h3
  refine Int.not_lt.mp fun hn => ?_
  have h4 : b.num * e < 0 := Int.mul_neg_of_neg_of_pos hn hb.dp
  omega
theorem Is.div (ha : Is a n d) (hb : Is b m e) (hm : 0 < m) : Is (div a b) (n * e) (d * m) := by
  have h1 := ha.eq
  have h2 := hb.eq
  have hp := hb.num_pos hm
  refine (Is.frac (k := a.den * b.num.toNat) (n := a.num * b.den) (d := (a.den : Int) * b.num) ?_ (by push_cast; rw [Int.toNat_of_nonneg (by omega)])).congr (Int.mul_pos ha.dp hm) ?_
  · exact Int.mul_pos (by have := ha.den; omega) hp
  · grind
theorem Is.lt (ha : Is a n d) (hb : Is b m e) : lt a b = decide (n * e < m * d) := by
  have h1 := ha.eq
  have h2 := hb.eq
  have p1 : (0 : Int) < a.den := by have := ha.den; omega
  have p2 : (0 : Int) < b.den := by have := hb.den; omega
  have k1 : (a.num * b.den) * (d * e) = (n * e) * ((a.den : Int) * b.den) := by grind
  have k2 : (b.num * a.den) * (d * e) = (m * d) * ((a.den : Int) * b.den) := by grind
  have q1 := Int.mul_pos ha.dp hb.dp
  have q2 := Int.mul_pos p1 p2
  unfold Kqp6.lt
  congr 1
  apply propext
  rw [← Int.mul_lt_mul_right q1, k1, k2, Int.mul_lt_mul_right q2]
theorem Is.le (ha : Is a n d) (hb : Is b m e) : le a b = decide (n * e ≤ m * d) := by
  have h1 := ha.eq
  have h2 := hb.eq
  have p1 : (0 : Int) < a.den := by have := ha.den; omega
  have p2 : (0 : Int) < b.den := by have := hb.den; omega
  have k1 : (a.num * b.den) * (d * e) = (n * e) * ((a.den : Int) * b.den) := by grind
  have k2 : (b.num * a.den) * (d * e) = (m * d) * ((a.den : Int) * b.den) := by grind
  have q1 := Int.mul_pos ha.dp hb.dp
  have q2 := Int.mul_pos p1 p2
  unfold Kqp6.le
  congr 1
  apply propext
  rw [← Int.mul_le_mul_right q1, k1, k2, Int.mul_le_mul_right q2]
theorem Is.power (ha : Is a n d) : ∀ k : Nat, Is (power a k) (n ^ k) (d ^ k)
  | 0 => by rw [Int.pow_zero, Int.pow_zero]; exact is_one
  | k + 1 => by
    have h := ha.mul (ha.power k)
    rw [Int.pow_succ, Int.pow_succ, Int.mul_comm (n ^ k), Int.mul_comm (d ^ k)]
    exact h
end
/-! places -/
/-- the first kind's worth times the share's lower number; the second's; the mean times its square -/
def fp (x : Place) (u l : Int) : Int := (x.first : Int) * u + (x.mixed : Int) * (l - u)
def sp (x : Place) (u l : Int) : Int := (x.mixed : Int) * u + (x.second : Int) * (l - u)
def mp (x : Place) (u l : Int) : Int := u * fp x u l + (l - u) * sp x u l
section
variable {p : Frac} {u l : Int}
theorem is_lack (hp : Is p u l) : Is (sub one p) (l - u) l := by
  refine (is_one.sub hp).congr hp.dp ?_
  grind
theorem is_one_ (x : Place) (hp : Is p u l) : Is (one_ x p) (fp x u l) l := by
  refine (((is_nat x.first).mul hp).add ((is_nat x.mixed).mul (is_lack hp))).congr hp.dp ?_
  unfold fp
  grind
theorem is_other (x : Place) (hp : Is p u l) : Is (other x p) (sp x u l) l := by
  refine (((is_nat x.mixed).mul hp).add ((is_nat x.second).mul (is_lack hp))).congr hp.dp ?_
  unfold sp
  grind
theorem is_mean (x : Place) (hp : Is p u l) : Is (mean x p) (mp x u l) (l * l) := by
  refine ((hp.mul (is_one_ x hp)).add ((is_lack hp).mul (is_other x hp))).congr (Int.mul_pos hp.dp hp.dp) ?_
  unfold mp
  grind
/-- a place as told: worths of 1 to 9 -/
structure PlOk (x : Place) : Prop where
  f1 : 1 ≤ x.first
  f9 : x.first ≤ 9
  m1 : 1 ≤ x.mixed
  m9 : x.mixed ≤ 9
  s1 : 1 ≤ x.second
  s9 : x.second ≤ 9
/-- a share from 0 to 1 -/
structure ShOk (u l : Int) : Prop where
  lo : 0 ≤ u
  hi : u ≤ l
  dp : 0 < l
theorem mul2_le {a b x y : Int} (h0 : 0 ≤ a) (h1 : 0 ≤ y) (hab : a ≤ b) (hxy : x ≤ y) : a * x ≤ b * y :=
  Int.le_trans (Int.mul_le_mul_of_nonneg_left hxy h0) (Int.mul_le_mul_of_nonneg_right hab h1)
theorem comb_ge {a b u v : Int} (ha : 1 ≤ a) (hb : 1 ≤ b) (hu : 0 ≤ u) (hv : 0 ≤ v) : u + v ≤ a * u + b * v := by
  have h1 := Int.mul_le_mul_of_nonneg_right ha hu
  have h2 := Int.mul_le_mul_of_nonneg_right hb hv
  omega
theorem comb_le {a b u v m : Int} (ha : a ≤ m) (hb : b ≤ m) (hu : 0 ≤ u) (hv : 0 ≤ v) : a * u + b * v ≤ m * (u + v) := by
  have h1 := Int.mul_le_mul_of_nonneg_right ha hu
  have h2 := Int.mul_le_mul_of_nonneg_right hb hv
  rw [Int.mul_add]
  omega
theorem fp_ge {x : Place} (X : PlOk x) (S : ShOk u l) : l ≤ fp x u l := by
  have h := comb_ge (a := (x.first : Int)) (b := (x.mixed : Int)) (u := u) (v := l - u) (by have := X.f1; omega) (by have := X.m1; omega) S.lo (by have := S.hi; omega)
  unfold fp; omega
theorem sp_ge {x : Place} (X : PlOk x) (S : ShOk u l) : l ≤ sp x u l := by
  have h := comb_ge (a := (x.mixed : Int)) (b := (x.second : Int)) (u := u) (v := l - u) (by have := X.m1; omega) (by have := X.s1; omega) S.lo (by have := S.hi; omega)
  unfold sp; omega
theorem fp_le {x : Place} (X : PlOk x) (S : ShOk u l) : fp x u l ≤ 9 * l := by
  have h := comb_le (a := (x.first : Int)) (b := (x.mixed : Int)) (u := u) (v := l - u) (m := 9) (by have := X.f9; omega) (by have := X.m9; omega) S.lo (by have := S.hi; omega)
  unfold fp; omega
theorem sp_le {x : Place} (X : PlOk x) (S : ShOk u l) : sp x u l ≤ 9 * l := by
  have h := comb_le (a := (x.mixed : Int)) (b := (x.second : Int)) (u := u) (v := l - u) (m := 9) (by have := X.m9; omega) (by have := X.s9; omega) S.lo (by have := S.hi; omega)
  unfold sp; omega
theorem mp_ge {x : Place} (X : PlOk x) (S : ShOk u l) : l * l ≤ mp x u l := by
  have h1 := Int.mul_le_mul_of_nonneg_left (fp_ge X S) S.lo
  have h2 := Int.mul_le_mul_of_nonneg_left (sp_ge X S) (show 0 ≤ l - u by have := S.hi; omega)
  have e : l * l = u * l + (l - u) * l := by grind
  unfold mp; omega
theorem mp_le {x : Place} (X : PlOk x) (S : ShOk u l) : mp x u l ≤ 9 * (l * l) := by
  have h1 := Int.mul_le_mul_of_nonneg_left (fp_le X S) S.lo
  have h2 := Int.mul_le_mul_of_nonneg_left (sp_le X S) (show 0 ≤ l - u by have := S.hi; omega)
  have e : 9 * (l * l) = u * (9 * l) + (l - u) * (9 * l) := by grind
  unfold mp; omega
theorem mp_pos {x : Place} (X : PlOk x) (S : ShOk u l) : 0 < mp x u l := Int.lt_of_lt_of_le (Int.mul_pos S.dp S.dp) (mp_ge X S)
/-- what is chosen of the first kind is no more than all -/
theorem ch_le {x : Place} (X : PlOk x) (S : ShOk u l) : u * fp x u l ≤ mp x u l := by
  have h2 : 0 ≤ (l - u) * sp x u l := Int.mul_nonneg (by have := S.hi; omega) (Int.le_trans (Int.le_of_lt S.dp) (sp_ge X S))
  unfold mp; omega
theorem ch_ge {x : Place} (X : PlOk x) (S : ShOk u l) : 0 ≤ u * fp x u l := Int.mul_nonneg S.lo (Int.le_trans (Int.le_of_lt S.dp) (fp_ge X S))
def chosen (x : Place) (p : Frac) : Frac := div (mul p (one_ x p)) (mean x p)
theorem is_chosen {x : Place} (X : PlOk x) (S : ShOk u l) (hp : Is p u l) : Is (chosen x p) (u * fp x u l) (mp x u l) := by
  refine ((hp.mul (is_one_ x hp)).div (is_mean x hp) (mp_pos X S)).congr (mp_pos X S) ?_
  grind
theorem is_part {x : Place} (X : PlOk x) (S : ShOk u l) (hp : Is p u l) : Is (mul (frac x.seeds 100) (chosen x p)) ((x.seeds : Int) * (u * fp x u l)) (100 * mp x u l) :=
  (Is.frac (n := (x.seeds : Int)) (d := 100) (k := 100) (by decide) rfl).mul (is_chosen X S hp)
/-- a generation, place by place from the left: upper and lower number, times hundred -/
def run (u l : Int) : List Place → Int → Int → Int × Int
  | [], U, L => (U, L)
  | x :: r, U, L => run u l r (U * mp x u l + (x.seeds : Int) * (u * fp x u l) * L) (L * mp x u l)
def nextOf (pls : List Place) (p : Frac) : Frac := total (pls.map fun x => mul (frac x.seeds 100) (chosen x p))
theorem next_of (l : Land) (p : Frac) : next l p = nextOf l.places p := rfl
theorem run_pos (S : ShOk u l) : ∀ (pls : List Place) (U L : Int), (∀ x ∈ pls, PlOk x) → 0 < L → 0 < (run u l pls U L).2
  | [], U, L, _, h => h
  | x :: r, U, L, hx, h => run_pos S r _ _ (fun y hy => hx y (List.mem_cons_of_mem _ hy)) (Int.mul_pos h (mp_pos (hx x List.mem_cons_self) S))
theorem is_run (S : ShOk u l) (hp : Is p u l) : ∀ (pls : List Place) (U L : Int), (∀ x ∈ pls, PlOk x) → 0 < L →
    Is (nextOf pls p) ((run u l pls U L).1 * L - U * (run u l pls U L).2) (100 * L * (run u l pls U L).2)
  | [], U, L, _, h => by
    refine is_zero.congr (Int.mul_pos (by omega) h) ?_
    show 0 * _ = (U * L - U * L) * 1
    rw [Int.sub_self]; simp
  | x :: r, U, L, hx, h => by
    have X := hx x List.mem_cons_self
    have hr := fun y hy => hx y (List.mem_cons_of_mem _ hy)
    have hm := mp_pos X S
    have hL := Int.mul_pos h hm
    have ih := is_run S hp r (U * mp x u l + (x.seeds : Int) * (u * fp x u l) * L) (L * mp x u l) hr hL
    have hR := run_pos S r (U * mp x u l + (x.seeds : Int) * (u * fp x u l) * L) (L * mp x u l) hr hL
    have a := (is_part X S hp).add ih
    refine a.congr (Int.mul_pos (by omega) hR) ?_
    show _ = ((run u l r (U * mp x u l + (x.seeds : Int) * (u * fp x u l) * L) (L * mp x u l)).1 * L - U * (run u l r (U * mp x u l + (x.seeds : Int) * (u * fp x u l) * L) (L * mp x u l)).2) * _
    show _ * (100 * L * (run u l r (U * mp x u l + (x.seeds : Int) * (u * fp x u l) * L) (L * mp x u l)).2) = _
    generalize (run u l r (U * mp x u l + (x.seeds : Int) * (u * fp x u l) * L) (L * mp x u l)).1 = R1
    generalize (run u l r (U * mp x u l + (x.seeds : Int) * (u * fp x u l) * L) (L * mp x u l)).2 = R2
    generalize mp x u l = m
    generalize u * fp x u l = c
    generalize (x.seeds : Int) = s
    grind
theorem is_next (S : ShOk u l) (hp : Is p u l) {pls : List Place} (hx : ∀ x ∈ pls, PlOk x) : Is (nextOf pls p) (run u l pls 0 1).1 ((run u l pls 0 1).2 * 100) := by
  refine (is_run S hp pls 0 1 hx (by decide)).congr (Int.mul_pos (run_pos S pls 0 1 hx (by decide)) (by decide)) ?_
  grind
end
end KM

end

section
set_option Elab.async false
namespace KM
open Kqp6
section
variable {f : Frac} {n d : Int}
theorem Is.den_dvd (h : Is f n d) : (f.den : Int) ∣ d := by
  have h1 : (f.den : Int) ∣ f.num * d := ⟨n, by rw [h.eq, Int.mul_comm]⟩
  have h2 : f.den ∣ f.num.natAbs * d.natAbs := by
    rw [← Int.natAbs_mul]
    exact Int.ofNat_dvd_left.mp h1
  exact Int.ofNat_dvd_left.mpr ((Nat.Coprime.symm h.low).dvd_of_dvd_mul_left h2)
theorem Is.den_le (h : Is f n d) : (f.den : Int) ≤ d := Int.le_of_dvd h.dp h.den_dvd
theorem Is.num_hi (h : Is f n d) (hn : n ≤ d) : f.num ≤ (f.den : Int) := by
  have h1 := h.eq
  have h2 : n * (f.den : Int) ≤ d * (f.den : Int) := Int.mul_le_mul_of_nonneg_right hn (by omega)
  rw [← h1, Int.mul_comm d] at h2
  exact Int.le_of_mul_le_mul_right h2 h.dp
theorem Is.sh (h : Is f n d) (h0 : 0 ≤ n) (hn : n ≤ d) : ShOk f.num (f.den : Int) := ⟨h.num_nonneg h0, h.num_hi hn, by have := h.den; omega⟩
end
def sumS (pls : List Place) : Nat := (pls.map fun x => x.seeds).foldr (fun a b => a + b) 0
theorem sumS_cons (x : Place) (r : List Place) : sumS (x :: r) = x.seeds + sumS r := rfl
theorem seeds_eq (l : Land) : Kqp6.seeds l = sumS l.places := rfl
section
variable {u l : Int}
theorem run_nn (S : ShOk u l) : ∀ (pls : List Place) (U L : Int), (∀ x ∈ pls, PlOk x) → 0 ≤ U → 0 < L → 0 ≤ (run u l pls U L).1
  | [], _, _, _, h, _ => h
  | x :: r, U, L, hx, h, hL => by
    have X := hx x List.mem_cons_self
    have hm := mp_pos X S
    refine run_nn S r _ _ (fun y hy => hx y (List.mem_cons_of_mem _ hy)) (Int.add_nonneg (Int.mul_nonneg h (Int.le_of_lt hm)) (Int.mul_nonneg (Int.mul_nonneg (by omega) (ch_ge X S)) (Int.le_of_lt hL))) (Int.mul_pos hL hm)
theorem run_hi (S : ShOk u l) : ∀ (pls : List Place) (U L s0 : Int), (∀ x ∈ pls, PlOk x) → 0 < L → U ≤ s0 * L → (run u l pls U L).1 ≤ (s0 + sumS pls) * (run u l pls U L).2
  | [], U, L, s0, _, _, h => by
    show U ≤ (s0 + ((0 : Nat) : Int)) * L
    rw [Int.natCast_zero, Int.add_zero]; exact h
  | x :: r, U, L, s0, hx, hL, h => by
    have X := hx x List.mem_cons_self
    have hm := mp_pos X S
    have e : s0 + ((sumS (x :: r) : Nat) : Int) = (s0 + (x.seeds : Int)) + ((sumS r : Nat) : Int) := by rw [sumS_cons]; omega
    rw [e]
    refine run_hi S r _ _ _ (fun y hy => hx y (List.mem_cons_of_mem _ hy)) (Int.mul_pos hL hm) ?_
    have h1 := Int.mul_le_mul_of_nonneg_right h (Int.le_of_lt hm)
    have h2 : (x.seeds : Int) * (u * fp x u l) * L ≤ (x.seeds : Int) * mp x u l * L :=
      Int.mul_le_mul_of_nonneg_right (Int.mul_le_mul_of_nonneg_left (ch_le X S) (by omega)) (Int.le_of_lt hL)
    have e2 : (s0 + (x.seeds : Int)) * (L * mp x u l) = s0 * L * mp x u l + (x.seeds : Int) * mp x u l * L := by grind
    omega
theorem run_den (S : ShOk u l) : ∀ (pls : List Place) (U L B : Int), (∀ x ∈ pls, PlOk x) → 0 < L → 9 * (l * l) ≤ B → (run u l pls U L).2 ≤ L * B ^ pls.length
  | [], U, L, B, _, _, _ => by
    show L ≤ L * B ^ 0
    rw [Int.pow_zero, Int.mul_one]; exact Int.le_refl _
  | x :: r, U, L, B, hx, hL, hB => by
    have X := hx x List.mem_cons_self
    have hm := mp_pos X S
    have hB0 : 0 ≤ B := by
      have := Int.mul_pos S.dp S.dp
      omega
    have h := run_den S r (U * mp x u l + (x.seeds : Int) * (u * fp x u l) * L) (L * mp x u l) B (fun y hy => hx y (List.mem_cons_of_mem _ hy)) (Int.mul_pos hL hm) hB
    refine Int.le_trans h ?_
    have h1 : L * mp x u l ≤ L * B := Int.mul_le_mul_of_nonneg_left (Int.le_trans (mp_le X S) hB) (Int.le_of_lt hL)
    have h2 := Int.mul_le_mul_of_nonneg_right h1 (Int.pow_nonneg (m := r.length) hB0)
    have e : L * B ^ (x :: r).length = L * B * B ^ r.length := by
      rw [List.length_cons, Int.pow_succ]
      grind
    rw [e]; exact h2
end
/-- what is always so of a land -/
structure LandOk (l : Land) : Prop where
  pl : ∀ x ∈ l.places, PlOk x
  n1 : 1 ≤ l.places.length
  n3 : l.places.length ≤ 3
  sum : sumS l.places = 100
  is : Is l.share l.share.num (l.share.den : Int)
  sh : ShOk l.share.num (l.share.den : Int)
  big : l.share.den < 2 ^ 130
/-- a generation on: what its numbers are -/
structure NxOk (f : Frac) (U L : Int) : Prop where
  is : Is f U (L * 100)
  u0 : 0 ≤ U
  lp : 0 < L
  hi : U ≤ L * 100
theorem nx_ok {pls : List Place} {p : Frac} {u l : Int} (hx : ∀ x ∈ pls, PlOk x) (hs : sumS pls = 100) (S : ShOk u l) (hp : Is p u l) : NxOk (nextOf pls p) (run u l pls 0 1).1 (run u l pls 0 1).2 := by
  refine ⟨is_next S hp hx, run_nn S pls 0 1 hx (by decide) (by decide), run_pos S pls 0 1 hx (by decide), ?_⟩
  have h := run_hi S pls 0 1 0 hx (by decide) (by decide)
  rw [hs] at h
  have e : (0 + ((100 : Nat) : Int)) * (run u l pls 0 1).2 = (run u l pls 0 1).2 * 100 := by omega
  rw [e] at h
  exact h
theorem nx_sh {f : Frac} {U L : Int} (h : NxOk f U L) : ShOk f.num (f.den : Int) := h.is.sh h.u0 h.hi
theorem run_den3 {u l b : Int} (S : ShOk u l) {pls : List Place} (hx : ∀ x ∈ pls, PlOk x) (h3 : pls.length ≤ 3) (hB : 9 * (l * l) ≤ b) : (run u l pls 0 1).2 ≤ b * b * b := by
  have h := run_den S pls 0 1 b hx (by decide) hB
  have hl := Int.mul_pos S.dp S.dp
  have hb : 1 ≤ b := by omega
  have hbb : 1 * 1 ≤ b * b := Int.mul_le_mul hb hb (by decide) (by omega)
  refine Int.le_trans h ?_
  rw [Int.one_mul]
  match pls.length, h3 with
  | 0, _ =>
    rw [Int.pow_zero]
    exact (Int.mul_le_mul hbb hb (by decide) (by omega) : 1 * 1 * 1 ≤ b * b * b)
  | 1, _ =>
    have := Int.mul_le_mul hbb (Int.le_refl b) (by omega) (by omega)
    rw [Int.pow_succ, Int.pow_zero]; omega
  | 2, _ =>
    have := Int.mul_le_mul_of_nonneg_left hb (show 0 ≤ b * b by omega)
    rw [Int.pow_succ, Int.pow_succ, Int.pow_zero, Int.one_mul]; omega
  | 3, _ => rw [Int.pow_succ, Int.pow_succ, Int.pow_succ, Int.pow_zero, Int.one_mul]; exact Int.le_refl _
end KM

end

section
set_option Elab.async false
namespace KM
open Kqp6
theorem sumS_set : ∀ {pls : List Place} {i : Nat} {x y : Place}, pls[i]? = some x → sumS (pls.set i y) + x.seeds = sumS pls + y.seeds
  | [], i, x, y, h => by simp at h
  | a :: r, 0, x, y, h => by
    have e : a = x := Option.some.inj h
    subst e
    show sumS (y :: r) + a.seeds = sumS (a :: r) + y.seeds
    rw [sumS_cons, sumS_cons]; omega
  | a :: r, i + 1, x, y, h => by
    have ih := sumS_set (pls := r) (i := i) (x := x) (y := y) h
    show sumS (a :: r.set i y) + x.seeds = sumS (a :: r) + y.seeds
    rw [sumS_cons, sumS_cons]; omega
theorem pl_set {pls : List Place} {i : Nat} {y : Place} (h : ∀ x ∈ pls, PlOk x) (hy : PlOk y) : ∀ x ∈ pls.set i y, PlOk x := fun x hx => by
  rcases List.mem_or_eq_of_mem_set hx with q | q
  · exact h x q
  · rw [q]; exact hy
theorem pl_of_ok {x : Place} (h : okWorths x.first x.mixed x.second = true) : PlOk x := by
  unfold okWorths at h
  simp only [List.all_cons, List.all_nil, Bool.and_eq_true, decide_eq_true_eq, Bool.and_true] at h
  exact ⟨h.1.1, h.1.2, h.2.1.1, h.2.1.2, h.2.2.1, h.2.2.2⟩
theorem places_len : ∀ (l : List Nat), (places l).length = l.length / 4
  | [] => by simp [places]
  | [_] => by simp [places]
  | [_, _] => by simp [places]
  | [_, _, _] => by simp [places]
  | s :: a :: b :: c :: r => by
    show (places r).length + 1 = (r.length + 1 + 1 + 1 + 1) / 4
    rw [places_len r]; omega
theorem seeds_le {pls : List Place} : ∀ {x : Place}, x ∈ pls → x.seeds ≤ sumS pls := by
  induction pls with
  | nil => intro x h; cases h
  | cons a r ih =>
    intro x h
    rw [sumS_cons]
    rcases List.mem_cons.mp h with q | q
    · rw [q]; omega
    · have := ih q; omega
/-- of each land that stands -/
def SOk (s : Option Land) : Prop := ∀ l, s = some l → LandOk l
theorem start_ok {r : List Nat} (h : okPlaces r = true) : LandOk ⟨places r, zero⟩ := by
  unfold okPlaces at h
  simp only [Bool.and_eq_true, decide_eq_true_eq, beq_iff_eq, List.all_eq_true] at h
  obtain ⟨⟨⟨⟨h1, h2⟩, h3⟩, h4⟩, h5⟩ := h
  refine ⟨fun x hx => pl_of_ok (h4 x hx), ?_, ?_, h5, is_zero, (show ShOk 0 1 from ⟨by decide, by decide, by decide⟩), (show 1 < 2 ^ 130 by decide)⟩
  · show 1 ≤ (places r).length
    rw [places_len]; omega
  · show (places r).length ≤ 3
    rw [places_len]; omega
theorem share_ok {l : Land} (L : LandOk l) {f : Frac} {n d : Int} (h : Is f n d) (h0 : 0 ≤ n) (hn : n ≤ d) (hb : d < 2 ^ 130) : LandOk { l with share := f } :=
  ⟨L.pl, L.n1, L.n3, L.sum, h.self, h.sh h0 hn, by
    have h1 := h.den_le
    have h2 : ((2 ^ 130 : Nat) : Int) = 2 ^ 130 := by decide
    show f.den < 2 ^ 130
    omega⟩
theorem next_ok {l : Land} (L : LandOk l) (h : ¬ 100000 < l.share.den) : LandOk { l with share := next l l.share } := by
  have N := nx_ok L.pl L.sum L.sh L.is
  have hd : (l.share.den : Int) * l.share.den ≤ 100000 * 100000 := Int.mul_le_mul (by omega) (by omega) (by omega) (by decide)
  have hb := run_den3 (b := 90000000000) L.sh L.pl L.n3 (by omega)
  have e : (90000000000 : Int) * 90000000000 * 90000000000 = 729000000000000000000000000000000 := by decide
  rw [e] at hb
  have h2 : (2 : Int) ^ 130 = 1361129467683753853853498429727072845824 := by decide
  refine share_ok L N.is N.u0 N.hi ?_
  rw [h2]; omega
theorem step_ok {s : Option Land} (S : SOk s) (c : Call) : SOk (step s c).1 := by
  intro l' h
  cases c with
  | start r =>
    have e : (step s (.start r)) = if okPlaces r = false then (s, Ans.num (-22)) else (some ⟨places r, zero⟩, .num (places r).length) := by cases s <;> rfl
    rw [e] at h
    by_cases q : okPlaces r = false
    · rw [if_pos q] at h; exact S l' h
    · rw [if_neg q] at h
      have : (⟨places r, zero⟩ : Land) = l' := Option.some.inj h
      rw [← this]
      exact start_ok (by simpa using q)
  | seeds i j n =>
    cases s with
    | none => cases h
    | some l =>
      have L := S l rfl
      simp only [step] at h
      cases hi : l.places[i]? with
      | none => rw [hi] at h; exact S l' h
      | some x =>
        cases hj : l.places[j]? with
        | none => rw [hi, hj] at h; exact S l' h
        | some z =>
          rw [hi, hj] at h
          simp only at h
          by_cases q : n = 0 ∨ i = j
          · rw [if_pos q] at h; exact S l' h
          · rw [if_neg q] at h
            by_cases q2 : x.seeds < n
            · rw [if_pos q2] at h; exact S l' h
            · rw [if_neg q2] at h
              have e := (Option.some.inj h).symm
              subst e
              have hij : i ≠ j := fun e => q (Or.inr e)
              have X := L.pl x (List.mem_of_getElem? hi)
              have Z := L.pl z (List.mem_of_getElem? hj)
              refine ⟨pl_set (pl_set L.pl ⟨X.f1, X.f9, X.m1, X.m9, X.s1, X.s9⟩) ⟨Z.f1, Z.f9, Z.m1, Z.m9, Z.s1, Z.s9⟩, by simpa using L.n1, by simpa using L.n3, ?_, L.is, L.sh, L.big⟩
              have a := sumS_set (y := { x with seeds := x.seeds - n }) hi
              have b := sumS_set (pls := l.places.set i { x with seeds := x.seeds - n }) (i := j) (x := z) (y := { z with seeds := z.seeds + n }) (by rw [List.getElem?_set_ne hij]; exact hj)
              have t := L.sum
              simp only at a b ⊢
              omega
  | worths i a b c =>
    cases s with
    | none => cases h
    | some l =>
      have L := S l rfl
      simp only [step] at h
      cases hi : l.places[i]? with
      | none => rw [hi] at h; exact S l' h
      | some x =>
        rw [hi] at h
        simp only at h
        by_cases q : okWorths a b c = false
        · rw [if_pos q] at h; exact S l' h
        · rw [if_neg q] at h
          have e := (Option.some.inj h).symm
          subst e
          refine ⟨pl_set L.pl (pl_of_ok (by simpa using q)), by simpa using L.n1, by simpa using L.n3, ?_, L.is, L.sh, L.big⟩
          have b := sumS_set (y := { x with first := a, mixed := b, second := c }) hi
          have t := L.sum
          simp only at b ⊢
          omega
  | share x y =>
    cases s with
    | none => cases h
    | some l =>
      have L := S l rfl
      simp only [step] at h
      by_cases q : okShare x y = false
      · rw [if_pos q] at h; exact S l' h
      · rw [if_neg q] at h
        have e := (Option.some.inj h).symm
        subst e
        have q' : okShare x y = true := by simpa using q
        unfold okShare at q'
        simp only [Bool.and_eq_true, decide_eq_true_eq] at q'
        have h2 : (2 : Int) ^ 130 = 1361129467683753853853498429727072845824 := by decide
        exact share_ok L (Is.frac (n := (x : Int)) (d := (y : Int)) (k := y) (by omega) rfl) (by omega) (by omega) (by rw [h2]; omega)
  | next =>
    cases s with
    | none => cases h
    | some l =>
      have L := S l rfl
      simp only [step] at h
      by_cases q : 100000 < l.share.den
      · rw [if_pos q] at h; exact S l' h
      · rw [if_neg q] at h
        have e := (Option.some.inj h).symm
        subst e
        exact next_ok L q
  | told => cases s with | none => cases h | some l => exact S l' h
  | mean i => cases s with | none => cases h | some l => exact S l' h
  | kinds i => cases s with | none => cases h | some l => exact S l' h
  | after n => cases s with | none => cases h | some l => exact S l' h
  | way => cases s with | none => cases h | some l => exact S l' h
  | wayAt x y => cases s with | none => cases h | some l => exact S l' h
  | enters => cases s with | none => cases h | some l => exact S l' h
  | entersOther => cases s with | none => cases h | some l => exact S l' h
  | both => cases s with | none => cases h | some l => exact S l' h
  | atPlace i => cases s with | none => cases h | some l => exact S l' h
  | more x y => cases s with | none => cases h | some l => exact S l' h
  | best => cases s with | none => cases h | some l => exact S l' h
  | near n => cases s with | none => cases h | some l => exact S l' h
  | place i => cases s with | none => cases h | some l => exact S l' h
  | state => cases s with | none => cases h | some l => exact S l' h
/-! the calls, one behind another -/
theorem whole_id (c : List (List Int)) : PyKqp6.whole c = c := by
  unfold PyKqp6.whole
  split <;> rfl
theorem calls_eq (l : List Int) : PyKqp6.calls l = PyFlat.calls PyKqp6.shape l.length l := by
  unfold PyKqp6.calls
  cases PyFlat.calls PyKqp6.shape l.length l with
  | none => rfl
  | some cs =>
    show some (cs.map PyKqp6.whole) = some cs
    have e : PyKqp6.whole = id := funext whole_id
    rw [e, List.map_id]
/-- a list that may be asked is a list of calls of the shape -/
theorem asked_put {l : List Int} (h : PyKqp6.answers_asked l = true) : ∃ cs, l = PyFlat.put cs ∧ (∀ c ∈ cs, PyFlat.okCall PyKqp6.shape c) ∧
    PyKqp6.answers l = PyFlat.told (PyFlat.played Kqp6Neutral.step none cs) := by
  unfold PyKqp6.answers_asked at h
  cases e : PyFlat.calls PyKqp6.shape l.length l with
  | none => rw [e] at h; cases h
  | some cs =>
    obtain ⟨a, b⟩ := PyFlat.put_calls _ _ _ e
    refine ⟨cs, a, b, ?_⟩
    unfold PyKqp6.answers
    rw [calls_eq, e]
    rfl
end KM

end

section
set_option Elab.async false
namespace KM
open Kqp6
/-- how many numbers a call has, by its place -/
def cnt : List Nat := [0, 3, 4, 2, 0, 1, 1, 0, 1, 0, 2, 0, 0, 0, 1, 2, 0, 1, 1, 0]
theorem forms {c : List (List Int)} (h : PyFlat.okCall PyKqp6.shape c) :
    (∃ r, c = [[0], r]) ∨ ∃ (p : Nat) (a : List Int), c = [(p : Int) :: a] ∧ 1 ≤ p ∧ p ≤ 19 ∧ cnt[p]? = some a.length := by
  obtain ⟨p, a, xs, rfl, hs⟩ := h
  unfold PyKqp6.shape at hs
  by_cases h0 : p = 0
  · rw [if_pos h0] at hs
    obtain ⟨e1, e2⟩ := Prod.mk.inj (Option.some.inj hs)
    have ha : a = [] := List.eq_nil_of_length_eq_zero e1.symm
    match xs, e2 with
    | [r], _ => exact .inl ⟨r, by rw [h0, ha]⟩
  · rw [if_neg h0] at hs
    right
    have key : ∃ q : Nat, p = (q : Int) ∧ 1 ≤ q ∧ q ≤ 19 ∧ cnt[q]? = some a.length ∧ xs = [] := by
      have fin : ∀ (q n : Nat), p = (q : Int) → 1 ≤ q → q ≤ 19 → cnt[q]? = some n → some (n, 0) = some (a.length, xs.length) → ∃ q : Nat, p = (q : Int) ∧ 1 ≤ q ∧ q ≤ 19 ∧ cnt[q]? = some a.length ∧ xs = [] := fun q n hp h1 h2 h3 hs => by
        obtain ⟨e1, e2⟩ := Prod.mk.inj (Option.some.inj hs)
        exact ⟨q, hp, h1, h2, by rw [h3, e1], List.eq_nil_of_length_eq_zero e2.symm⟩
      by_cases h1 : p = 1
      · rw [if_pos h1] at hs; exact fin 1 3 h1 (by decide) (by decide) rfl hs
      rw [if_neg h1] at hs
      by_cases h2 : p = 2
      · rw [if_pos h2] at hs; exact fin 2 4 h2 (by decide) (by decide) rfl hs
      rw [if_neg h2] at hs
      by_cases h3 : p = 3
      · rw [if_pos h3] at hs; exact fin 3 2 h3 (by decide) (by decide) rfl hs
      rw [if_neg h3] at hs
      by_cases h4 : p = 4
      · rw [if_pos h4] at hs; exact fin 4 0 h4 (by decide) (by decide) rfl hs
      rw [if_neg h4] at hs
      by_cases h5 : p = 5
      · rw [if_pos h5] at hs; exact fin 5 1 h5 (by decide) (by decide) rfl hs
      rw [if_neg h5] at hs
      by_cases h6 : p = 6
      · rw [if_pos h6] at hs; exact fin 6 1 h6 (by decide) (by decide) rfl hs
      rw [if_neg h6] at hs
      by_cases h7 : p = 7
      · rw [if_pos h7] at hs; exact fin 7 0 h7 (by decide) (by decide) rfl hs
      rw [if_neg h7] at hs
      by_cases h8 : p = 8
      · rw [if_pos h8] at hs; exact fin 8 1 h8 (by decide) (by decide) rfl hs
      rw [if_neg h8] at hs
      by_cases h9 : p = 9
      · rw [if_pos h9] at hs; exact fin 9 0 h9 (by decide) (by decide) rfl hs
      rw [if_neg h9] at hs
      by_cases h10 : p = 10
      · rw [if_pos h10] at hs; exact fin 10 2 h10 (by decide) (by decide) rfl hs
      rw [if_neg h10] at hs
      by_cases h11 : p = 11
      · rw [if_pos h11] at hs; exact fin 11 0 h11 (by decide) (by decide) rfl hs
      rw [if_neg h11] at hs
      by_cases h12 : p = 12
      · rw [if_pos h12] at hs; exact fin 12 0 h12 (by decide) (by decide) rfl hs
      rw [if_neg h12] at hs
      by_cases h13 : p = 13
      · rw [if_pos h13] at hs; exact fin 13 0 h13 (by decide) (by decide) rfl hs
      rw [if_neg h13] at hs
      by_cases h14 : p = 14
      · rw [if_pos h14] at hs; exact fin 14 1 h14 (by decide) (by decide) rfl hs
      rw [if_neg h14] at hs
      by_cases h15 : p = 15
      · rw [if_pos h15] at hs; exact fin 15 2 h15 (by decide) (by decide) rfl hs
      rw [if_neg h15] at hs
      by_cases h16 : p = 16
      · rw [if_pos h16] at hs; exact fin 16 0 h16 (by decide) (by decide) rfl hs
      rw [if_neg h16] at hs
      by_cases h17 : p = 17
      · rw [if_pos h17] at hs; exact fin 17 1 h17 (by decide) (by decide) rfl hs
      rw [if_neg h17] at hs
      by_cases h18 : p = 18
      · rw [if_pos h18] at hs; exact fin 18 1 h18 (by decide) (by decide) rfl hs
      rw [if_neg h18] at hs
      by_cases h19 : p = 19
      · rw [if_pos h19] at hs; exact fin 19 0 h19 (by decide) (by decide) rfl hs
      rw [if_neg h19] at hs
      cases hs
    obtain ⟨q, rfl, h1, h2, h3, rfl⟩ := key
    exact ⟨q, a, rfl, h1, h2, h3⟩
theorem put_start (r : List Int) : PyFlat.put1 [[0], r] = 0 :: (r.length : Int) :: r := by
  show [0] ++ (((r.length : Int) :: r) ++ []) = _
  rw [List.append_nil]; rfl
theorem put_other (p : Int) (a : List Int) : PyFlat.put1 [p :: a] = p :: a := by
  show (p :: a) ++ [] = _
  rw [List.append_nil]
theorem tell_len {s : Option Land} (x : Call) : (Kqp6Neutral.tell (step s x).2).length ≤ 40 := by
  have e1 : ∀ v, (Kqp6Neutral.tell (.num v)).length ≤ 40 := fun _ => by show 1 ≤ 40; decide
  have e2 : ∀ v a b, (Kqp6Neutral.tell (.some_ v [a, b])).length ≤ 40 := fun _ _ _ => by show 3 ≤ 40; decide
  have e3 : ∀ v a, (Kqp6Neutral.tell (.some_ v [a])).length ≤ 40 := fun _ _ => by show 2 ≤ 40; decide
  cases s with
  | none => cases x <;> first | exact e1 _ | (simp only [step]; split <;> exact e1 _)
  | some l =>
    cases x with
    | start r => simp only [step]; split <;> exact e1 _
    | seeds i j n => simp only [step]; repeat' split
                     all_goals exact e1 _
    | worths i a b c => simp only [step]; repeat' split
                        all_goals first | exact e1 _ | exact e2 _ _ _
    | share a b => simp only [step]; split <;> exact e1 _
    | told => exact e2 _ _ _
    | mean i => simp only [step]; split <;> first | exact e1 _ | exact e2 _ _ _
    | kinds i => simp only [step]; split <;> first | exact e1 _ | (show 5 ≤ 40; decide)
    | next => simp only [step]; split <;> exact e1 _
    | after n => simp only [step]; split <;> first | exact e1 _ | exact e2 _ _ _
    | way => exact e3 _ _
    | wayAt a b => simp only [step]; split <;> first | exact e1 _ | exact e3 _ _
    | enters => exact e2 _ _ _
    | entersOther => exact e2 _ _ _
    | both => exact e1 _
    | atPlace i => simp only [step]; split <;> first | exact e1 _ | exact e2 _ _ _
    | more a b => simp only [step]; split <;> first | exact e1 _ | exact e3 _ _
    | best => exact e1 _
    | near n =>
      simp only [step]
      split
      · exact e1 _
      · show (ways l n).length + 1 ≤ 40
        unfold ways
        rw [List.length_map, List.length_range]
        omega
    | place i => simp only [step]; split <;> first | exact e1 _ | (show 4 ≤ 40; decide)
    | state => exact e3 _ _
theorem nstep_len (s : Option Land) (c : List (List Int)) : (Kqp6Neutral.step s c).2.length ≤ 40 := by
  unfold Kqp6Neutral.step
  split
  · exact tell_len _
  · exact Nat.zero_le _
theorem nstep_ok {s : Option Land} (S : SOk s) (c : List (List Int)) : SOk (Kqp6Neutral.step s c).1 := by
  unfold Kqp6Neutral.step
  split
  · exact step_ok S _
  · exact S
end KM

end

section
set_option Elab.async false
namespace KM
open Kqp6
/-! who's kept -/
/-- what a little grows by: upper and lower number, each time a hundred; from the left -/
def grow (d : Place → Nat) : List Place → Int → Int → Int × Int
  | [], U, L => (U, L)
  | x :: r, U, L => grow d r (U * (d x : Int) + (x.seeds : Int) * (x.mixed : Int) * L) (L * (d x : Int))
def growOf (d : Place → Nat) (pls : List Place) : Frac := total (pls.map fun x => mul (frac x.seeds 100) (frac x.mixed (d x)))
theorem enters_of (l : Land) : enters l = growOf (fun x => x.second) l.places := rfl
theorem entersOther_of (l : Land) : entersOther l = growOf (fun x => x.first) l.places := rfl
theorem grow_pos {d : Place → Nat} : ∀ (pls : List Place) (U L : Int), (∀ x ∈ pls, 1 ≤ d x) → 0 < L → 0 < (grow d pls U L).2
  | [], _, _, _, h => h
  | x :: r, _, _, hx, h => grow_pos r _ _ (fun y hy => hx y (List.mem_cons_of_mem _ hy)) (Int.mul_pos h (by have := hx x List.mem_cons_self; omega))
theorem is_growTerm {d : Place → Nat} {x : Place} (h : 1 ≤ d x) : Is (mul (frac x.seeds 100) (frac x.mixed (d x))) ((x.seeds : Int) * (x.mixed : Int)) (100 * (d x : Int)) :=
  (Is.frac (n := (x.seeds : Int)) (d := 100) (k := 100) (by decide) rfl).mul (Is.frac (n := (x.mixed : Int)) (d := (d x : Int)) (k := d x) (by omega) rfl)
theorem is_growRun {d : Place → Nat} : ∀ (pls : List Place) (U L : Int), (∀ x ∈ pls, 1 ≤ d x) → 0 < L →
    Is (growOf d pls) ((grow d pls U L).1 * L - U * (grow d pls U L).2) (100 * L * (grow d pls U L).2)
  | [], U, L, _, h => by
    refine is_zero.congr (Int.mul_pos (by omega) h) ?_
    show 0 * _ = (U * L - U * L) * 1
    rw [Int.sub_self]; simp
  | x :: r, U, L, hx, h => by
    have hd := hx x List.mem_cons_self
    have hr := fun y hy => hx y (List.mem_cons_of_mem _ hy)
    have hdp : (0 : Int) < (d x : Int) := by omega
    have hL := Int.mul_pos h hdp
    have ih := is_growRun r (U * (d x : Int) + (x.seeds : Int) * (x.mixed : Int) * L) (L * (d x : Int)) hr hL
    have hR := grow_pos r (U * (d x : Int) + (x.seeds : Int) * (x.mixed : Int) * L) (L * (d x : Int)) hr hL
    have a := (is_growTerm hd).add ih
    refine a.congr (Int.mul_pos (by omega) hR) ?_
    show _ = ((grow d r (U * (d x : Int) + (x.seeds : Int) * (x.mixed : Int) * L) (L * (d x : Int))).1 * L - U * (grow d r (U * (d x : Int) + (x.seeds : Int) * (x.mixed : Int) * L) (L * (d x : Int))).2) * _
    show _ * (100 * L * (grow d r (U * (d x : Int) + (x.seeds : Int) * (x.mixed : Int) * L) (L * (d x : Int))).2) = _
    generalize (grow d r (U * (d x : Int) + (x.seeds : Int) * (x.mixed : Int) * L) (L * (d x : Int))).1 = R1
    generalize (grow d r (U * (d x : Int) + (x.seeds : Int) * (x.mixed : Int) * L) (L * (d x : Int))).2 = R2
    generalize (d x : Int) = m
    generalize (x.mixed : Int) = c
    generalize (x.seeds : Int) = s
    grind
theorem is_grow {d : Place → Nat} {pls : List Place} (hx : ∀ x ∈ pls, 1 ≤ d x) : Is (growOf d pls) (grow d pls 0 1).1 ((grow d pls 0 1).2 * 100) := by
  refine (is_growRun pls 0 1 hx (by decide)).congr (Int.mul_pos (grow_pos pls 0 1 hx (by decide)) (by decide)) ?_
  grind
theorem grow_nn {d : Place → Nat} : ∀ (pls : List Place) (U L : Int), 0 ≤ U → 0 ≤ L → 0 ≤ (grow d pls U L).1
  | [], _, _, h, _ => h
  | x :: r, U, L, h, hL => grow_nn r _ _ (Int.add_nonneg (Int.mul_nonneg h (by omega)) (Int.mul_nonneg (Int.mul_nonneg (by omega) (by omega)) hL)) (Int.mul_nonneg hL (by omega))
theorem kept_one {f : Frac} {n d : Int} (h : Is f n d) : lt one f = decide (d < n) := by
  rw [is_one.lt h]
  congr 1
  apply propext
  rw [Int.one_mul, Int.mul_one]
/-! the product -/
def prodN (u l : Int) : List Place → Int
  | [] => 1
  | x :: r => (mp x u l) ^ x.seeds * prodN u l r
def prodD (l : Int) : List Place → Int
  | [] => 1
  | x :: r => (l * l) ^ x.seeds * prodD l r
def productOf (pls : List Place) (p : Frac) : Frac := (pls.map fun x => power (mean x p) x.seeds).foldr mul one
theorem product_of (l : Land) (p : Frac) : product l p = productOf l.places p := rfl
theorem is_product {p : Frac} {u l : Int} (hp : Is p u l) : ∀ pls : List Place, Is (productOf pls p) (prodN u l pls) (prodD l pls)
  | [] => is_one
  | x :: r => ((is_mean x hp).power x.seeds).mul (is_product hp r)
theorem prodD_pow (l : Int) : ∀ pls : List Place, prodD l pls = (l * l) ^ sumS pls
  | [] => by
    show (1 : Int) = (l * l) ^ 0
    rw [Int.pow_zero]
  | x :: r => by
    show (l * l) ^ x.seeds * prodD l r = _
    rw [prodD_pow l r, sumS_cons, Int.pow_add]
theorem prodN_pos {u l : Int} (S : ShOk u l) : ∀ pls : List Place, (∀ x ∈ pls, PlOk x) → 0 < prodN u l pls
  | [], _ => by show (0 : Int) < 1; decide
  | x :: r, h => Int.mul_pos (Int.pow_pos (mp_pos (h x List.mem_cons_self) S)) (prodN_pos S r fun y hy => h y (List.mem_cons_of_mem _ hy))
/-! the best place -/
theorem find_first {n b : Nat} {p : Nat → Bool} (hb : b < n) (h1 : p b = true) (h2 : ∀ j, j < b → p j = false) : (List.range n).find? p = some b := by
  rw [List.find?_range_eq_some]
  exact ⟨h1, List.mem_range.mpr hb, fun j hj => by rw [h2 j hj]; rfl⟩
theorem best_eq {l : Land} {b : Nat} (hb : b < l.places.length) (m : Nat → Frac) (hm : ∀ i x, l.places[i]? = some x → mean x l.share = m i)
    (h1 : ∀ j, j < l.places.length → le (m j) (m b) = true) (h2 : ∀ j, j < b → ∃ i, i < l.places.length ∧ le (m i) (m j) = false) :
    ((List.range l.places.length).find? fun i => (List.range l.places.length).all fun j => match l.places[i]?, l.places[j]? with
      | some x, some z => le (mean z l.share) (mean x l.share)
      | _, _ => false).getD 0 = b := by
  have get : ∀ i, i < l.places.length → ∃ x, l.places[i]? = some x := fun i hi => ⟨_, List.getElem?_eq_getElem hi⟩
  rw [find_first hb ?_ ?_]
  · rfl
  · rw [List.all_eq_true]
    intro j hj
    have hj' := List.mem_range.mp hj
    obtain ⟨x, hx⟩ := get b hb
    obtain ⟨z, hz⟩ := get j hj'
    simp only [hx, hz]
    rw [hm b x hx, hm j z hz]
    exact h1 j hj'
  · intro j hj
    obtain ⟨i, hi, hle⟩ := h2 j hj
    rw [List.all_eq_false]
    obtain ⟨x, hx⟩ := get j (by omega)
    obtain ⟨z, hz⟩ := get i hi
    refine ⟨i, List.mem_range.mpr hi, ?_⟩
    simp only [hx, hz]
    rw [hm j x hx, hm i z hz, hle]
    decide
end KM

end

section
set_option Elab.async false
set_option linter.all false
set_option maxRecDepth 100000
set_option maxHeartbeats 2000000
namespace L2
open PySem PySem.Spec PyProof.Rows
section
variable {X : Cx}
/-! ints of any size -/
theorem op_mulB : OpR X (binaryOp .Mult) (rI IntMulOk fun i j => .int (i * j)) := opI fun _ _ _ _ _ _ _ hc q => mul_int q hc
theorem op_fdivB : OpR X (binaryOp .FloorDiv) (rI (fun _ j => 0 < j ∧ j.natAbs.log2 < 9000) fun i j => .int (i / j)) := opI fun i j _ _ _ _ _ hc q => by
  have h1 : (0 : Int) < j := hc.1
  exact floordiv_int (by omega) (by rw [Int.fdiv_eq_ediv_of_nonneg i (by omega)]; exact q) (.inl (PyProof.noPylong_of_log2 hc.2))
/-! names of the top -/
/-- a whole number of the top -/
def GI (mg : Str → Option Value) (x : Str) (i : Int) : Prop := ∃ t, mg x = some (.int i t)
theorem pe_gi {x : Str} {i : Int} {pos : Pos} (h : GI X.mg x i) (hg : Gl X x := by rfl) (hd : (x == ("__debug__" : Str)) = false := by decide) : PE X (.Name x pos) (tC (.int i)) := by
  obtain ⟨t, h⟩ := h
  exact pe_glob hg h ⟨t, rfl⟩ hd
theorem pe_gr {x : Str} {a : Addr} {pos : Pos} (h : X.mg x = some (.ref a)) (hg : Gl X x := by rfl) (hd : (x == ("__debug__" : Str)) = false := by decide) : PE X (.Name x pos) (tC (.ref a)) :=
  pe_glob hg h rfl hd
end
/-! a def of the text, by its name -/
def FunIn (K : PySem.W.Frag) (mg : Str → Option Value) (x : Str) (st : Stmt) (ps : List Str) : Prop :=
  ∃ f fd, Fun K x x st f fd ∧ mg x = some (.ref f) ∧ Binds K fd ps []
def CalOk (P : Program) (w : World) (K : PySem.W.Frag) (mg : Str → Option Value) (base : Heap) (k : Nat) (x : Str) (ps : List Str) (sp : Sp) : Prop :=
  ∃ f fd, FnOk P w K mg base CX0 k f fd ps sp ∧ mg x = some (.ref f) ∧ PySem.W.keepIn K (.ref f) = true ∧ Binds K fd ps []
section
variable {P : Program} {w : World} {K : PySem.W.Frag} {mg : Str → Option Value} {base : Heap}
theorem FunIn.ok {x : Str} {st : Stmt} {N ps : List Str} {k : Nat} {sp : Sp} (F : FunIn K mg x st ps) (S : FnScope N ps (defScope st)) (len : ∀ vs H Q E, sp vs H Q E → vs.length = ps.length)
    (hbody : ∀ (f : Addr) (cdv : Value) (A : Around) (outer : List Env) (s : Shared) (H : Hp) (vs : List V) (Q : VK) (E : XK), Room k (A.deeper (envOfC x (defScope st) s.heap.objs.size f cdv)) → sp vs H Q E →
      ∃ t, PSs (cxOf CX0 P w K mg base N x (defScope st) f cdv A outer s H E).nox (defBody st) t ∧ t { nx := fun _ H' => Q .non H', rt := Q } (start N vs) H) : CalOk P w K mg base (k + 1) x ps sp := by
  obtain ⟨f, fd, F, h1, h2⟩ := F
  exact ⟨f, fd, F.ok S len (hbody f), h1, F.kp, h2⟩
theorem FunIn.mk {x : Str} {st : Stmt} {ps : List Str} {f : Addr} {oc : Value} {od an : Option Addr} {osl : Array (Option Value)} {kV doc pm cdv ct : Value} (hm : mg x = some (.ref f))
    (l : K.lookup f = some ⟨oc, od, .func (PySem.W.fnOf x x (defArgs st) (defBody st) (defScope st) .none kV doc pm an cdv ct), osl⟩) (c : PySem.W.codeIn K cdv x = true) (k : PySem.W.keepIn K (.ref f) = true)
    (h : ∀ (kV doc pm : Value) (an : Option Addr) (cdv ct : Value) (us : List Value), us.length = ps.length → bindArgs (PySem.W.fnOf x x (defArgs st) (defBody st) (defScope st) .none kV doc pm an cdv ct) ⟨us, []⟩ = pure (ps.zip us)) : FunIn K mg x st ps :=
  ⟨f, _, fun_mk l c k, hm, (fun_mk l c k).binds h⟩
end
section
variable {X : Cx} {k : Nat} {ps : List Str} {sp : Sp} {x : Str} {p pos : Pos} {e : Expr} {es : List Expr} {t : TA}
theorem pe_own (C : CalOk X.prog X.w X.K X.mg X.base k x ps sp) (hr : Room k X.A) (hg : Gl X x) (ha : PA X (e :: es) t) (hdb : (x == ("__debug__" : Str)) = false := by decide)
    (he : starEach (e :: es) X.env = (false, eval e X.env) :: starEach es X.env := by rfl) (hpl : (backTo pos (starEach es X.env)).any (·.1) = false := by rfl) :
    PE X (.Call (.Name x p) (e :: es) [] pos) (tCall sp [] E0 t) := by
  obtain ⟨f, fd, F, hm, hk, hb⟩ := C
  exact pe_call F hr hg hm hk hb .nil pass0 ha hdb he hpl
end
/-! reading what is tracked -/
section
variable {X : Cx}
def rIxTH : R2 := fun x y H Q => ∃ p xs i v, x = .ref p ∧ y = .int i ∧ H p = some (.tup xs) ∧ atI xs i = some v ∧ Q v H
def rIxLH : R2 := fun x y H Q => ∃ p xs i v, x = .ref p ∧ y = .int i ∧ H p = some (.lst xs) ∧ atI xs i = some v ∧ Q v H
theorem ix_tupH : IxR X rIxTH := by
  intro value slice pins s σ H x y v u Q I rx ry h hs
  obtain ⟨p, xs, i, z, h1, h2, h3, h4, h5⟩ := h
  exact ix_tup value slice pins s σ H x y v u Q I rx ry ⟨p, xs, i, z, h1, h2, SqT.of h3, h4, h5⟩ hs
theorem ix_listH : IxR X rIxLH := by
  intro value slice pins s σ H x y v u Q I rx ry h hs
  obtain ⟨p, xs, i, z, h1, h2, h3, h4, h5⟩ := h
  exact ix_list value slice pins s σ H x y v u Q I rx ry ⟨p, xs, i, z, h1, h2, SqL.of h3, h4, h5⟩ hs
def rLenL : List V → Hp → VK → Prop := fun xs H Q => ∃ p ys, xs = [.ref p] ∧ H p = some (.lst ys) ∧ Q (.int ys.length) H
theorem call_lenH : CallR X (.builtin "len") rLenL := by
  intro pins s σ H xs us Q I r h
  obtain ⟨p, ys, h1, h2, h3⟩ := h
  exact call_len_seq pins s σ H xs us Q I r ⟨p, ys, h1, .inl (SqL.of h2), h3⟩
end
/-- over two lists side by side that the body leaves as they are -/
theorem for_zip {K : PySem.W.Frag} {a b : Addr} {xs ys : List V} {g : TG} {tb : TS} {D : Ends} {σ : St} {H : Hp} (Pv : Nat → St → Hp → Prop) (hlen : xs.length = ys.length) (h0 : Pv 0 σ H)
    (hl : ∀ i σ H, i ≤ xs.length → Pv i σ H → SqL K H a xs ∧ SqL K H b ys)
    (hs : ∀ i x y σ H T, xs[i]? = some x → ys[i]? = some y → Pv i σ H → H T = none → g (.ref T) σ (upd H T (.tup [x, y])) fun σ2 H2 => tb { D with nx := Pv (i + 1), ct := Pv (i + 1), bk := D.nx } σ2 H2)
    (hd : ∀ σ H, Pv xs.length σ H → D.nx σ H) :
    ∃ W : Nat → Nat → St → Hp → Prop, (∃ m, W 0 m σ H) ∧ ∀ i m σ H, W i m σ H →
      ((Itz K a b).stop i H ∧ D.nx σ H) ∨ ((Itz K a b).go i H ∧ ∃ N : St → Hp → Prop, (∀ σ' H', N σ' H' → ∃ m', m' < m ∧ W (i + 1) m' σ' H') ∧ ∀ x H', (Itz K a b).yld i H x H' → g x σ H' fun σ2 H2 => tb { D with nx := N, ct := N, bk := D.nx } σ2 H2) := by
  refine ⟨fun i m σ H => m = xs.length - i ∧ i ≤ xs.length ∧ Pv i σ H, ⟨xs.length, by simp, Nat.zero_le _, h0⟩, ?_⟩
  rintro i m σ H ⟨rfl, hi, p⟩
  obtain ⟨q, q'⟩ := hl i σ H hi p
  by_cases hlt : i < xs.length
  · have hlt' : i < ys.length := by omega
    refine .inr ⟨⟨xs, ys, xs[i], ys[i], q, q', by simp [hlt], by simp [hlt']⟩, Pv (i + 1), fun σ' H' p' => ⟨xs.length - (i + 1), by omega, rfl, hlt, p'⟩, fun x H' y => ?_⟩
    obtain ⟨T, x', y', rfl, hT, rfl, e1, e2⟩ := y
    exact hs i x' y' σ H T (e1 xs q) (e2 ys q') p hT
  · have e : i = xs.length := by omega
    subst e
    exact .inl ⟨⟨xs, ys, q, q', .inl (Nat.le_refl _)⟩, hd σ H p⟩
end L2

end

section
set_option Elab.async false
set_option linter.all false
set_option maxRecDepth 100000
set_option maxHeartbeats 2000000
namespace L2
open PySem PySem.Spec PyProof.Rows
/-! ### min, max of a tuple of ints -/
section
variable {prog : Program} {w : World} {A : Around} {E : Value → Shared → Prop} {s : Shared} {l : Addr} {xs : Array (Int × Tok)} {its : List Value} {ns : List Int} {Q : Value → Shared → Prop}
theorem iter_intTup (hl : s.heap.IsTuple l (intItems xs))
    (h : ∀ s₂ : Shared, s₂ = { s with heap := s.heap.push { cls := .type "tuple_iterator", data := .fields #[.ref l, .int 0 0] } } →
      (s₂.heap.IsTupleIter s.heap.objs.size l 0 ∧ s₂.heap.IsTuple l (intItems xs)) → (∀ b ∈ [s.heap.objs.size, l], b < s₂.heap.objs.size) → l ≠ s.heap.objs.size → Q (.ref s.heap.objs.size) s₂) :
    wpAny (model prog w) A (pyIter (.ref l)) Q E s := by
  have hlt : l < s.heap.objs.size := by obtain ⟨_, e, _⟩ := hl; exact Heap.lt_size e
  refine wpAny_pyIter_tuple hl (h _ rfl ⟨⟨_, Heap.get?_push_size _ rfl, rfl, rfl⟩, hl.push _⟩ (fun b hb => ?_) (Nat.ne_of_lt hlt))
  show b < (s.heap.push _).objs.size
  rw [Heap.size_push]
  rcases List.mem_cons.mp hb with rfl | hb
  · exact Nat.lt_succ_self _
  · rcases List.mem_cons.mp hb with rfl | hb
    · exact Nat.lt_succ_of_lt hlt
    · cases hb
theorem old_keptT {h' : Heap} (hk : ∀ b o, b ∉ [s.heap.objs.size] → (s.heap.push { cls := .type "tuple_iterator", data := .fields #[.ref l, .int 0 0] }).get? b = some o → h'.get? b = some o) :
    ∀ b o, s.heap.get? b = some o → h'.get? b = some o := fun b o e => by
  refine hk b o (fun hm => ?_) (Heap.get?_push_of_some _ e)
  rcases List.mem_cons.mp hm with e1 | hm
  · exact absurd (e1 ▸ Heap.lt_size e) (Nat.lt_irrefl _)
  · cases hm
theorem max_intTup (hh : A.handled = none) (hl : s.heap.IsTuple l (intItems xs)) (hne : 0 < xs.size)
    (h : ∀ v h' tk, (intItems xs)[argBest (fun i j => decide (numAt xs i > numAt xs j)) (xs.size - 1)]? = some v → (∀ b o, s.heap.get? b = some o → h'.get? b = some o) → Q v { s with heap := h', toks := tk }) :
    wpAny (model prog w) A (call (.builtin "max") [.ref l]) Q E s := by
  refine call_max_walk (iter_intTup hl fun s₂ e st hfp hlI => ?_)
  subst e
  refine ⟨_, _, _, _, _, _, _, rfl, Walks.tuple (A := A.in1) hh _ l hlI (intItems xs), st, hfp, by simpa [intItems] using hne, CmpOf.ints_gt (numAt xs) (fun _ _ => intItems_at), fun v h' tk hP hk => ?_⟩
  exact h v h' tk (by simpa [intItems] using hP) (old_keptT hk)
theorem min_intTup (hh : A.handled = none) (hl : s.heap.IsTuple l (intItems xs)) (hne : 0 < xs.size)
    (h : ∀ v h' tk, (intItems xs)[argBest (fun i j => decide (numAt xs i < numAt xs j)) (xs.size - 1)]? = some v → (∀ b o, s.heap.get? b = some o → h'.get? b = some o) → Q v { s with heap := h', toks := tk }) :
    wpAny (model prog w) A (call (.builtin "min") [.ref l]) Q E s := by
  refine call_min_walk (iter_intTup hl fun s₂ e st hfp hlI => ?_)
  subst e
  refine ⟨_, _, _, _, _, _, _, rfl, Walks.tuple (A := A.in1) hh _ l hlI (intItems xs), st, hfp, by simpa [intItems] using hne, CmpOf.ints_lt (numAt xs) (fun _ _ => intItems_at), fun v h' tk hP hk => ?_⟩
  exact h v h' tk (by simpa [intItems] using hP) (old_keptT hk)
theorem max_rawT (hh : A.handled = none) (hl : s.heap.IsTuple l its.toArray) (hi : IntsAre its ns) (hne : 0 < ns.length)
    (h : ∀ h' tk M t', (∀ b o, s.heap.get? b = some o → h'.get? b = some o) → M ∈ ns → (∀ a, a ∈ ns → a ≤ M) → Q (.int M t') { s with heap := h', toks := tk }) : wpAny (model prog w) A (call (.builtin "max") [.ref l]) Q E s := by
  obtain ⟨xs, e⟩ := hi.allInts.items
  have hn : numsOf (intItems xs).toList = ns := by rw [← e]; exact hi.numsOf
  rw [nums_intItems] at hn
  subst hn
  rw [e] at hl
  have hsz : 0 < xs.size := by simpa using hne
  refine max_intTup hh hl hsz fun v h' tk hv hk => ?_
  obtain ⟨t, rfl⟩ := intItems_at hv
  obtain ⟨h1, h2⟩ := argBest_gt (numAt xs) (xs.size - 1)
  refine h h' tk _ t hk ?_ fun a ha => ?_
  · rw [numAt_eq]; exact PySem.getD_mem (by rw [List.length_map, Array.length_toList]; omega)
  · obtain ⟨j, hj, rfl⟩ := mem_getD ha
    rw [List.length_map, Array.length_toList] at hj
    rw [← numAt_eq]; exact h2 j (by omega)
theorem min_rawT (hh : A.handled = none) (hl : s.heap.IsTuple l its.toArray) (hi : IntsAre its ns) (hne : 0 < ns.length)
    (h : ∀ h' tk M t', (∀ b o, s.heap.get? b = some o → h'.get? b = some o) → M ∈ ns → (∀ a, a ∈ ns → M ≤ a) → Q (.int M t') { s with heap := h', toks := tk }) : wpAny (model prog w) A (call (.builtin "min") [.ref l]) Q E s := by
  obtain ⟨xs, e⟩ := hi.allInts.items
  have hn : numsOf (intItems xs).toList = ns := by rw [← e]; exact hi.numsOf
  rw [nums_intItems] at hn
  subst hn
  rw [e] at hl
  have hsz : 0 < xs.size := by simpa using hne
  refine min_intTup hh hl hsz fun v h' tk hv hk => ?_
  obtain ⟨t, rfl⟩ := intItems_at hv
  obtain ⟨h1, h2⟩ := argBest_lt (numAt xs) (xs.size - 1)
  refine h h' tk _ t hk ?_ fun a ha => ?_
  · rw [numAt_eq]; exact PySem.getD_mem (by rw [List.length_map, Array.length_toList]; omega)
  · obtain ⟨j, hj, rfl⟩ := mem_getD ha
    rw [List.length_map, Array.length_toList] at hj
    rw [← numAt_eq]; exact h2 j (by omega)
end
section
variable {X : Cx}
def rMaxT : List V → Hp → VK → Prop := fun vs H Q => ∃ (a : Addr) (ns : List Int), vs = [V.ref a] ∧ H a = some (.tup (ns.map V.int)) ∧ 0 < ns.length ∧ ∀ m, m ∈ ns → (∀ y, y ∈ ns → y ≤ m) → Q (.int m) H
def rMinT : List V → Hp → VK → Prop := fun vs H Q => ∃ (a : Addr) (ns : List Int), vs = [V.ref a] ∧ H a = some (.tup (ns.map V.int)) ∧ 0 < ns.length ∧ ∀ m, m ∈ ns → (∀ y, y ∈ ns → m ≤ y) → Q (.int m) H
theorem cr_maxT (hc : X.calm = true) : CallR X (.builtin "max") rMaxT := by
  intro pins s σ H vs us Q I r h
  obtain ⟨a, ns, rfl, hs, hne, q⟩ := h
  obtain ⟨its, rv, hl, _⟩ := I.tuple (SqT.of hs)
  rw [Vals.ref1 r]
  exact max_rawT (I.ok.hd hc) hl rv.ints hne fun h' tk m t' hk h1 h2 => ⟨.int _, H, I.kept hk, ⟨_, rfl⟩, q m h1 h2⟩
theorem cr_minT (hc : X.calm = true) : CallR X (.builtin "min") rMinT := by
  intro pins s σ H vs us Q I r h
  obtain ⟨a, ns, rfl, hs, hne, q⟩ := h
  obtain ⟨its, rv, hl, _⟩ := I.tuple (SqT.of hs)
  rw [Vals.ref1 r]
  exact min_rawT (I.ok.hd hc) hl rv.ints hne fun h' tk m t' hk h1 h2 => ⟨.int _, H, I.kept hk, ⟨_, rfl⟩, q m h1 h2⟩
end
/-! ### a dict of the top: whole numbers to defs -/
def tabOk : List DictEntry → List (Int × Addr) → Bool
  | [], [] => true
  | e :: es, (k, a) :: r => (match e.key with | .int i _ => i == k | _ => false) && e.hash == hashInt k && (match e.val with | .ref b => b == a | _ => false) && tabOk es r
  | _, _ => false
theorem tabOk_pairs {P : Program} {w : World} : ∀ {es : List DictEntry} {kvs : List (Int × Addr)}, tabOk es kvs = true →
    Pairs (PySem.intKind P w) es (kvs.map fun p => (p.1, Value.ref p.2)) ∧ ∀ e ∈ es, ∃ k, (PySem.intKind P w).is k e.key = true ∧ e.hash = (PySem.intKind P w).hash k
  | [], [], _ => ⟨.nil, fun e h => by cases h⟩
  | e :: es, (k, a) :: r, h => by
    simp only [tabOk, Bool.and_eq_true] at h
    obtain ⟨⟨⟨h1, h2⟩, h3⟩, h4⟩ := h
    obtain ⟨p1, p2⟩ := tabOk_pairs (P := P) (w := w) h4
    have hk : ∃ t, e.key = .int k t := by
      cases q : e.key with
      | int i t =>
        rw [q] at h1
        exact ⟨t, by rw [eq_of_beq h1]⟩
      | _ => rw [q] at h1; cases h1
    have hv : e.val = .ref a := by
      cases q : e.val with
      | ref b =>
        rw [q] at h3
        rw [eq_of_beq h3]
      | _ => rw [q] at h3; cases h3
    obtain ⟨t, hk⟩ := hk
    have his : (PySem.intKind P w).is k e.key = true := by rw [hk]; exact intKind_is P w k t
    refine ⟨.cons his hv p1, fun e' he => ?_⟩
    rcases List.mem_cons.mp he with q | q
    · rw [q]; exact ⟨k, his, eq_of_beq h2⟩
    · exact p2 e' q
  | [], _ :: _, h => by cases h
  | _ :: _, [], h => by cases h
/-- the dict at d holds these defs -/
def FnTab (K : PySem.W.Frag) (d : Addr) (kvs : List (Int × Addr)) : Prop :=
  ∃ o es ep, K.lookup d = some o ∧ o.ExactDict ∧ o.data = .dict es ep ∧ tabOk es.toList kvs = true ∧ (kvs.map (·.1)).Nodup
theorem FnTab.dict {P : Program} {w : World} {K : PySem.W.Frag} {d : Addr} {kvs : List (Int × Addr)} (T : FnTab K d kvs) {h : Heap} (X : K.In h) : h.DictOf (PySem.intKind P w) d (kvs.map fun p => (p.1, Value.ref p.2)) := by
  obtain ⟨o, es, ep, h1, h2, h3, h4, h5⟩ := T
  obtain ⟨p1, p2⟩ := tabOk_pairs (P := P) (w := w) h4
  refine ⟨o, es, ep, X d o h1, h2, h3, fun e he => p2 e (by simpa using he), p1, ?_⟩
  rw [List.map_map]
  exact h5
theorem valueAt_map {kvs : List (Int × Addr)} {k : Int} : valueAt (kvs.map fun p => (p.1, Value.ref p.2)) k = (kvs.lookup k).map Value.ref := by
  induction kvs with
  | nil => rfl
  | cons p r ih =>
    obtain ⟨x, a⟩ := p
    unfold valueAt at ih ⊢
    rw [List.map_cons, List.find?_cons, List.lookup_cons]
    by_cases e : x = k
    · subst e; simp
    · have e2 : (k == x) = false := by simpa using fun q => e q.symm
      rw [e2]
      simp only [decide_eq_false e]
      exact ih
section
variable {X : Cx} {o i e : Expr} {es : List Expr} {pos : Pos} {td ty : TE} {t : TA}
def tTab (d : Addr) (kvs : List (Int × Addr)) (td ty : TE) : TE := fun σ H Q => td σ H fun x H1 => ty σ H1 fun y H2 => ∃ k a, x = .ref d ∧ y = .int k ∧ kvs.lookup k = some a ∧ Q (.ref a) H2
theorem pe_tab {d : Addr} {kvs : List (Int × Addr)} (T : FnTab X.K d kvs) (ho : PE X o td) (hi : PE X i ty) (hs : NoSl i) : PE X (.Subscript o i pos) (tTab d kvs td ty) := by
  intro pins s σ H Q I h
  refine subD_of PySem.F.slot_dict_getitem.lookup hs (thn (ho pins s σ H _ I h) fun u s1 ⟨x, H1, I1, rx, q1⟩ => thn (hi pins s1 σ H1 _ I1 q1) fun iv s2 ⟨y, H2, I2, ry, k, a, ex, ey, g, q2⟩ => ?_)
  subst ex ey
  obtain rfl : u = Value.ref d := rx
  obtain ⟨t, rfl⟩ := ry
  have hd : s2.heap.DictOf (PySem.intKind X.prog X.w) d (kvs.map fun p => (p.1, Value.ref p.2)) := T.dict I2.kIn
  refine ⟨hd.mapOf.typeIs, wpAny_getItem_of (intKind_is X.prog X.w k t) hd.mapOf (v := .ref a) (by rw [valueAt_map, g]; rfl) ?_⟩
  exact ⟨.ref a, H2, I2.tok _, rfl, q2⟩
/-- a def at an address, as it may be called -/
def FnAt (P : Program) (w : World) (K : PySem.W.Frag) (mg : Str → Option Value) (base : Heap) (k : Nat) (f : Addr) (sp : Sp) : Prop :=
  ∃ fd ps, FnOk P w K mg base CX0 k f fd ps sp ∧ PySem.W.keepIn K (.ref f) = true ∧ Binds K fd ps []
def tCallE (X : Cx) (tf : TE) (t : TA) : TE := fun σ H Q => tf σ H fun x H1 => ∃ f k sp, x = .ref f ∧ FnAt X.prog X.w X.K X.mg X.base k f sp ∧ Room k X.A ∧ t σ H1 fun vs H2 => sp vs H2 Q E0
theorem pe_callE {fe : Expr} {tf : TE} (hf : PE X fe tf) (ha : PA X (e :: es) t)
    (hc : eval (.Call fe (e :: es) [] pos) X.env = (do callWith pos (← eval fe X.env) [] (backTo pos (starEach (e :: es) X.env)) (backToKw pos (keywordEach [] X.env))) := by rfl)
    (he : starEach (e :: es) X.env = (false, eval e X.env) :: starEach es X.env := by rfl) (hpl : (backTo pos (starEach es X.env)).any (·.1) = false := by rfl) :
    PE X (.Call fe (e :: es) [] pos) (tCallE X tf t) := by
  intro pins s σ H Q I h
  refine Call_ (thn (hf pins s σ H _ I h) fun u s1 ⟨x, H1, I1, rx, f, k, sp, ex, ⟨fd, ps, F, hk, hb⟩, hr, q1⟩ => ?_) hc
  subst ex
  obtain rfl : u = Value.ref f := rx
  refine PySem.W.callWith_K (h₀ := X.base) I.ok.mod.kin hk (thn (ha pos pins s1 σ H1 _ I1 q1) fun us s2 ⟨vs, H2, I2, r, q⟩ => ⟨I2.kIn, ?_⟩) he hpl
  exact run_fn F hr hb .nil pass0 I2 r (by rw [List.append_nil]; exact q)
end
/-! ### an item read for op=, a slice with a step -/
section
variable {X : Cx} {e se : Expr} {te ts : TE} {pos p2 : Pos}
def gListH : V → V → Hp → VK → Prop := fun o i H Q => ∃ p xs k v, o = .ref p ∧ i = .int k ∧ H p = some (.lst xs) ∧ 0 ≤ k ∧ xs[k.toNat]? = some v ∧ Q v H
theorem get_list : PGet X gListH := by
  intro pins s σ H o i ov iv Q I ro ri h
  obtain ⟨p, xs, k, v, rfl, rfl, hp, hk, hx, q⟩ := h
  cases ro
  obtain ⟨t, rfl⟩ := ri
  obtain ⟨its, r, pl, hz⟩ := I.list (SqL.of hp)
  obtain ⟨u, hu, ru⟩ := r.get hx
  have hlt := (List.getElem?_eq_some_iff.mp hx).1
  have hl := line63
  exact wpAny_getItem_list pl.isList hk (by omega) (by simpa using hu) ⟨v, H, I, ru, q⟩
/-- every k-th item -/
def stepV {α : Type} (k : Nat) (xs : List α) : List α := (sliceRange 0 (xs.length : Int) (k : Int)).filterMap (xs[·]?)
theorem vals_pick {xs : List V} {us : List Value} (r : Vals xs us) : ∀ idx : List Nat, Vals (idx.filterMap (xs[·]?)) (idx.filterMap (us[·]?))
  | [] => .nil
  | j :: idx => by
    have ih := vals_pick r idx
    rw [List.filterMap_cons, List.filterMap_cons]
    cases h : xs[j]? with
    | none =>
      rw [r.none_of h]
      exact ih
    | some x =>
      obtain ⟨u, hu, ru⟩ := r.get h
      rw [hu]
      exact .cons ru ih
theorem slicePick_step (its : List Value) {k : Nat} (hk : 0 < k) : slicePick its.toArray none none (some (k : Int)) = (stepV k its).toArray := by
  unfold slicePick stepV
  have hb : sliceBounds none none (some (k : Int)) its.toArray.size = (0, (its.length : Int), (k : Int)) := by
    have h1 : (k : Int) > 0 := by omega
    simp [sliceBounds, h1]
    omega
  rw [hb]
  simp
def tStep (K : PySem.W.Frag) (te ts : TE) : TE := fun σ H Q => te σ H fun x H1 => ts σ H1 fun y H2 => ∃ (a : Addr) (xs : List V) (k : Nat), x = .ref a ∧ y = .int (k : Int) ∧ 0 < k ∧ SqL K H2 a xs ∧ (stepV k xs).length ≤ sizeLine ∧ ∀ p, H2 p = none → Q (.ref p) (upd H2 p (.lst (stepV k xs)))
theorem pe_sliceStep (he : PE X e te) (hst : PE X se ts) : PE X (.Subscript e (.Slice none none (some se) p2) pos) (tStep X.K te ts) := by
  intro pins s σ H Q I h
  refine Subscript_ (thn (he pins s σ H _ I h) fun v s1 ⟨x, H1, I1, r1, q1⟩ => ?_)
  refine wpAny_Slice ?_
  rw [evalPart_none, evalPart_some]
  refine wpAny_pure (wpAny_pure (thn (hst pins s1 σ H1 _ I1 q1) fun vs s2 ⟨y, H2, I2, r2, a, xs, k, ex, ey, hk, hx, hz2, q⟩ => ?_))
  subst ex ey
  cases r1
  obtain ⟨t, rfl⟩ := r2
  have I3 : Inv X pins σ H2 { s2 with heap := s2.heap.push { cls := .type "slice", data := .fields #[.none, .none, .int (k : Int) t] } } := I2.kept (t' := s2.toks) fun b ob q => Heap.get?_push_of_some _ q
  obtain ⟨its, r, ht, hz⟩ := I3.list hx
  have hlen := r.length
  show wpAny (model X.prog X.w) X.A (subscriptTail e (.Slice none none (some se) p2) (.ref a) (.ref s2.heap.objs.size)) (EP X pins σ Q) X.xe { s2 with heap := s2.heap.push { cls := .type "slice", data := .fields #[.none, .none, .int (k : Int) t] } }
  refine tail_any (ops := [.ref a, .ref s2.heap.objs.size]) ht.isList.typeIs slot_list_getitem.lookup ?_ (by with_unfolding_all rfl)
  refine wpAny_getItem_list_slice ht.isList (Heap.IsSliceOf.new ..) .none .none (.int (k : Int) t) (by intro z; have := Option.some.inj z; omega) ?_ (by rw [List.size_toArray] <;> omega)
  rw [slicePick_step its hk]
  refine ⟨.ref _, _, I3.laid (t' := s2.toks) (o := .lst (stepV k xs)) (fun b ob q => Heap.get?_push_of_some _ q) (Nat.le_refl _) ?_, rfl, q _ (I3.hok.fresh (Nat.le_refl _))⟩
  refine ⟨hz2, _, 0, ?_, Heap.get?_push_size _ rfl⟩
  unfold stepV
  rw [← hlen]
  exact vals_pick r _
end
end L2

end

section
set_option Elab.async false
set_option linter.all false
set_option maxRecDepth 100000
set_option maxHeartbeats 2000000
set_option exponentiation.threshold 100000
namespace KP
open PySem PySem.Spec PyProof.Rows L2
open KM (Is)
local macro_rules | `(tactic| walk_at "kq") => `(tactic| simp [and_assoc, tTest, tOp, tUn, tVar, tC, rNe, rEq, rI, rI0, rU, tSeq, tNext, tAsg, gName, tRet, tIfS, scal, L2.start, tCall, tCons, tNil, tTup, tLst, rIxT, rIxL])
def top (i : Nat) : Stmt := PySem.Challenge.pw_kindshares_s01_answers.main.body.getD i (.Pass ⟨0, 0, 0, 0⟩)
abbrev s_common_divisor : Stmt := top 2
theorem sc_common_divisor : FnScope ["one", "other", "rest"] ["one", "other"] (defScope s_common_divisor) := ⟨rfl, rfl, rfl, by decide +kernel, rfl, by decide +kernel, by decide +kernel⟩
@[simp] def sp_common_divisor : Sp := fun vs H Q _ => ∃ a b : Int, vs = [.int a, .int b] ∧ 0 ≤ a ∧ 0 ≤ b ∧ Q (.int (Nat.gcd a.toNat b.toNat : Nat)) H
section
variable {P : Program} {w : World} {K : PySem.W.Frag} {mg : Str → Option Value} {base : Heap}
theorem ok_common_divisor (F : FunIn K mg "common_divisor" s_common_divisor ["one", "other"]) : CalOk P w K mg base 1 "common_divisor" ["one", "other"] sp_common_divisor := by
  have nd := sc_common_divisor.nd
  refine F.ok sc_common_divisor (fun vs H Q E h => ?_) (fun f cdv A outer s H vs Q E hr h => ?_)
  · obtain ⟨a, b, rfl, _⟩ := h
    rfl
  · obtain ⟨a, b, rfl, ha, hb, k⟩ := h
    refine ⟨_, (pss_cons (ps_while PassesOwn.never (pt_cmpR op_ne (pv 1) pe_int (nomark _)) (pss_cons (ps_set (i := 2) nd rfl (Or.inl rfl) (pe_op op_mod (pv 0) (pv 1)))
      (pss_cons (ps_set (i := 0) nd rfl (Or.inl rfl) (pv 1))
      (pss_one (ps_set (i := 1) nd rfl (Or.inl rfl) (pv 2))))))
      (pss_one (ps_ret (pv 0)))), ?_⟩
    refine while_by (fun σ H' => ∃ (x y : Int) (r : Option V), σ = [some (.int x), some (.int y), r] ∧ H' = H ∧ 0 ≤ x ∧ 0 ≤ y ∧ Nat.gcd x.toNat y.toNat = Nat.gcd a.toNat b.toNat)
      (fun σ _ => match σ with | [_, some (.int y), _] => y.toNat | _ => 0) ⟨a, b, none, rfl, rfl, ha, hb, rfl⟩ ?_ ?_
    · rintro σ H' ⟨x, y, r, rfl, rfl, hx, hy, hg⟩
      walk_at "kq"
      by_cases hz : y = 0
      · subst hz
        rw [Int.toNat_zero, Nat.gcd_zero_right] at hg
        exact .inl ⟨rfl, by rw [← hg, Int.toNat_of_nonneg hx] at k; exact k⟩
      · have hp : 0 < y := by omega
        have h1 := Int.emod_nonneg x hz
        have h2 := Int.emod_lt_of_pos x hp

        refine .inr ⟨hz, hp, hy, h1, ?_, by omega⟩
        rw [← hg, Int.toNat_emod hx hy, Nat.gcd_comm x.toNat, Nat.gcd_rec y.toNat x.toNat, Nat.gcd_comm]
    · intro σ H Q Q' hq
      simp only [tTest, tOp, tVar, tC, rNe]
      rintro ⟨v, e, h1, k, e2, h2⟩
      exact ⟨v, e, h1, k, e2, hq _ _ h2⟩
abbrev s_lowest : Stmt := top 3
theorem sc_lowest : FnScope ["upper", "lower", "divisor"] ["upper", "lower"] (defScope s_lowest) := ⟨rfl, rfl, rfl, by decide +kernel, rfl, by decide +kernel, by decide +kernel⟩
/-- a new tuple of the fraction's two numbers -/
def tupF (f : Kqp6.Frac) : HO := .tup [.int f.num, .int (f.den : Int)]
@[simp] def sp_lowest : Sp := fun vs H Q _ => ∃ u l : Int, vs = [.int u, .int l] ∧ 0 ≤ u ∧ 0 < l ∧ l.natAbs.log2 < 9000 ∧ ∀ p, H p = none → Q (.ref p) (upd H p (tupF (Kqp6.frac u l.toNat)))
theorem frac_gcd {u l : Int} (hu : 0 ≤ u) (hl : 0 < l) : tupF (Kqp6.frac u l.toNat) = .tup [.int (u / (Nat.gcd u.toNat l.toNat : Nat)), .int (l / (Nat.gcd u.toNat l.toNat : Nat))] := by
  have e : u.natAbs = u.toNat := by omega
  have hg : 0 < Nat.gcd u.toNat l.toNat := Nat.gcd_pos_of_pos_right _ (by omega)
  unfold tupF Kqp6.frac
  simp only [e]
  rw [if_neg (Nat.ne_of_gt hg)]
  simp only [Int.natCast_ediv, Int.toNat_of_nonneg (Int.le_of_lt hl)]
theorem ok_lowest (F : FunIn K mg "lowest" s_lowest ["upper", "lower"]) (c_common_divisor : CalOk P w K mg base 1 "common_divisor" ["one", "other"] sp_common_divisor) : CalOk P w K mg base 2 "lowest" ["upper", "lower"] sp_lowest := by
  have nd := sc_lowest.nd
  refine F.ok sc_lowest (fun vs H Q E h => ?_) (fun f cdv A outer s H vs Q E hr h => ?_)
  · obtain ⟨a, b, rfl, _⟩ := h
    rfl
  · obtain ⟨u, l, rfl, hu, hl, hb, k⟩ := h
    refine ⟨_, (pss_cons (ps_set (i := 2) nd rfl (Or.inl rfl) (pe_own c_common_divisor (hr.mono (by decide)) rfl (pa_cons (pv 0) (pa_cons (pv 1) pa_nil))))
      (pss_one (ps_ret (pe_tup (pa_cons (pe_op op_fdivB (pv 0) (pv 2)) (pa_cons (pe_op op_fdivB (pv 1) (pv 2)) pa_nil)))))), ?_⟩
    have hg : 0 < Nat.gcd u.toNat l.toNat := Nat.gcd_pos_of_pos_right _ (by omega)
    have hle : Nat.gcd u.toNat l.toNat ≤ l.natAbs := Nat.le_trans (Nat.gcd_le_right _ (by omega)) (by omega)
    have hlog : (Nat.gcd u.toNat l.toNat).log2 < 9000 := by
      refine (Nat.log2_lt (Nat.ne_of_gt hg)).mpr (Nat.lt_of_le_of_lt hle ((Nat.log2_lt (by omega)).mp hb))
    rw [frac_gcd hu hl] at k
    walk_at "kq"
    exact ⟨hu, Int.le_of_lt hl, .inr hl, hlog, .inr hl, hlog, by decide, k⟩
end
end KP

end

section
set_option Elab.async false
set_option linter.all false
set_option maxRecDepth 100000
set_option maxHeartbeats 2000000
set_option exponentiation.threshold 100000
namespace KP
open PySem PySem.Spec PyProof.Rows L2
open Builtin.Int (intBits)
open KM (Is PlOk ShOk fp sp mp)
local macro_rules | `(tactic| walk_at "kq") => `(tactic| simp [and_assoc, tTest, tOp, tUn, tVar, tC, rNe, rEq, rI, rI0, rU, tSeq, tNext, tAsg, gName, tRet, tIfS, scal, L2.start, tCall, tCons, tNil, tTup, tLst, rIxTH, rIxLH, rLenL, atI, ixN, *])
/-- the tuple of a place's worths -/
def tupP (x : Kqp6.Place) : HO := .tup [.int x.first, .int x.mixed, .int x.second]
/-- bounds -/
theorem bits_le {x y : Int} {m : Nat} (h0 : 0 ≤ x) (h1 : x ≤ y) (h : intBits y ≤ m) : intBits x ≤ m := intBits_le_of_natAbs (by omega) h
theorem bits_le' {x y : Int} {m n : Nat} (h0 : 0 ≤ x) (h1 : x ≤ y) (h : intBits y ≤ m) (hn : m ≤ n) : intBits x ≤ n := Nat.le_trans (bits_le h0 h1 h) hn
theorem bits9 : intBits (9 : Int) ≤ 4 := by decide +kernel
theorem bits100 : intBits (100 : Int) ≤ 7 := by decide +kernel
theorem mulOk {a b : Int} {m n : Nat} (ha : intBits a ≤ m) (hb : intBits b ≤ n) (h : m + n ≤ 134217728) : IntMulOk a b := IntMulOk.of_le ha hb h
theorem mulOk_small {n : Nat} {b : Int} (h : n ≤ 1000) : IntMulOk (n : Int) b := .of_left (intBits_le_64 (by omega) (by omega))
section
variable {u l : Int} {x : Kqp6.Place}
theorem bits_fp {m : Nat} (X : PlOk x) (S : ShOk u l) (h : intBits l ≤ m) : intBits (fp x u l) ≤ 4 + m :=
  bits_le (Int.le_trans (Int.le_of_lt S.dp) (KM.fp_ge X S)) (KM.fp_le X S) (intBits_mul_le bits9 h)
theorem bits_sp {m : Nat} (X : PlOk x) (S : ShOk u l) (h : intBits l ≤ m) : intBits (sp x u l) ≤ 4 + m :=
  bits_le (Int.le_trans (Int.le_of_lt S.dp) (KM.sp_ge X S)) (KM.sp_le X S) (intBits_mul_le bits9 h)
theorem bits_mp {m : Nat} (X : PlOk x) (S : ShOk u l) (h : intBits l ≤ m) : intBits (mp x u l) ≤ 4 + (m + m) :=
  bits_le (Int.le_of_lt (KM.mp_pos X S)) (KM.mp_le X S) (intBits_mul_le bits9 (intBits_mul_le h h))
end
abbrev s_lack : Stmt := top 4
theorem sc_lack : FnScope ["share"] ["share"] (defScope s_lack) := ⟨rfl, rfl, rfl, by decide +kernel, rfl, by decide +kernel, by decide +kernel⟩
@[simp] def sp_lack : Sp := fun vs H Q _ => ∃ p u l, vs = [.ref p] ∧ H p = some (.tup [.int u, .int l]) ∧ Q (.int (l - u)) H
abbrev s_first_part : Stmt := top 5
theorem sc_first_part : FnScope ["share", "worths"] ["share", "worths"] (defScope s_first_part) := ⟨rfl, rfl, rfl, by decide +kernel, rfl, by decide +kernel, by decide +kernel⟩
def sp_of (f : Kqp6.Place → Int → Int → Int) : Sp := fun vs H Q _ => ∃ p q u l x, vs = [.ref p, .ref q] ∧ H p = some (.tup [.int u, .int l]) ∧ H q = some (tupP x) ∧ PlOk x ∧ ShOk u l ∧ intBits l ≤ 900 ∧ Q (.int (f x u l)) H
abbrev s_second_part : Stmt := top 6
theorem sc_second_part : FnScope ["share", "worths"] ["share", "worths"] (defScope s_second_part) := ⟨rfl, rfl, rfl, by decide +kernel, rfl, by decide +kernel, by decide +kernel⟩
abbrev s_mean_part : Stmt := top 7
theorem sc_mean_part : FnScope ["share", "worths"] ["share", "worths"] (defScope s_mean_part) := ⟨rfl, rfl, rfl, by decide +kernel, rfl, by decide +kernel, by decide +kernel⟩
section
variable {P : Program} {w : World} {K : PySem.W.Frag} {mg : Str → Option Value} {base : Heap}
theorem ok_lack (F : FunIn K mg "lack" s_lack ["share"]) : CalOk P w K mg base 1 "lack" ["share"] sp_lack := by
  have nd := sc_lack.nd
  refine F.ok sc_lack (fun vs H Q E h => ?_) (fun f cdv A outer s H vs Q E hr h => ?_)
  · obtain ⟨p, u, l, rfl, _⟩ := h
    rfl
  · obtain ⟨p, u, l, rfl, hp, k⟩ := h
    refine ⟨_, (pss_one (ps_ret (pe_op op_sub (pe_ix ix_tupH (pv 0) pe_int (fun _ _ => rfl)) (pe_ix ix_tupH (pv 0) pe_int (fun _ _ => rfl))))), ?_⟩
    walk_at "kq"
theorem ok_first_part (F : FunIn K mg "first_part" s_first_part ["share", "worths"]) (c_lack : CalOk P w K mg base 1 "lack" ["share"] sp_lack) : CalOk P w K mg base 2 "first_part" ["share", "worths"] (sp_of fp) := by
  have nd := sc_first_part.nd
  refine F.ok sc_first_part (fun vs H Q E h => ?_) (fun f cdv A outer s H vs Q E hr h => ?_)
  · obtain ⟨p, q, u, l, x, rfl, _⟩ := h
    rfl
  · obtain ⟨p, q, u, l, x, rfl, hp, hq, X, S, hb, k⟩ := h
    refine ⟨_, (pss_one (ps_ret (pe_op op_add (pe_op op_mulB (pe_ix ix_tupH (pv 1) pe_int (fun _ _ => rfl)) (pe_ix ix_tupH (pv 0) pe_int (fun _ _ => rfl))) (pe_op op_mulB (pe_ix ix_tupH (pv 1) pe_int (fun _ _ => rfl)) (pe_own c_lack (hr.mono (by decide)) rfl (pa_cons (pv 0) pa_nil)))))), ?_⟩
    unfold tupP at hq
    have h1 : IntMulOk (x.first : Int) u := mulOk_small (by have := X.f9; omega)
    have h2 : IntMulOk (x.mixed : Int) (l - u) := mulOk_small (by have := X.m9; omega)
    unfold fp at k
    walk_at "kq"
theorem ok_second_part (F : FunIn K mg "second_part" s_second_part ["share", "worths"]) (c_lack : CalOk P w K mg base 1 "lack" ["share"] sp_lack) : CalOk P w K mg base 2 "second_part" ["share", "worths"] (sp_of sp) := by
  have nd := sc_second_part.nd
  refine F.ok sc_second_part (fun vs H Q E h => ?_) (fun f cdv A outer s H vs Q E hr h => ?_)
  · obtain ⟨p, q, u, l, x, rfl, _⟩ := h
    rfl
  · obtain ⟨p, q, u, l, x, rfl, hp, hq, X, S, hb, k⟩ := h
    refine ⟨_, (pss_one (ps_ret (pe_op op_add (pe_op op_mulB (pe_ix ix_tupH (pv 1) pe_int (fun _ _ => rfl)) (pe_ix ix_tupH (pv 0) pe_int (fun _ _ => rfl))) (pe_op op_mulB (pe_ix ix_tupH (pv 1) pe_int (fun _ _ => rfl)) (pe_own c_lack (hr.mono (by decide)) rfl (pa_cons (pv 0) pa_nil)))))), ?_⟩
    unfold tupP at hq
    have h1 : IntMulOk (x.mixed : Int) u := mulOk_small (by have := X.m9; omega)
    have h2 : IntMulOk (x.second : Int) (l - u) := mulOk_small (by have := X.s9; omega)
    unfold sp at k
    walk_at "kq"
theorem ok_mean_part (F : FunIn K mg "mean_part" s_mean_part ["share", "worths"]) (c_lack : CalOk P w K mg base 1 "lack" ["share"] sp_lack) (c_first_part : CalOk P w K mg base 2 "first_part" ["share", "worths"] (sp_of fp))
    (c_second_part : CalOk P w K mg base 2 "second_part" ["share", "worths"] (sp_of sp)) : CalOk P w K mg base 3 "mean_part" ["share", "worths"] (sp_of mp) := by
  have nd := sc_mean_part.nd
  refine F.ok sc_mean_part (fun vs H Q E h => ?_) (fun f cdv A outer s H vs Q E hr h => ?_)
  · obtain ⟨p, q, u, l, x, rfl, _⟩ := h
    rfl
  · obtain ⟨p, q, u, l, x, rfl, hp, hq, X, S, hb, k⟩ := h
    refine ⟨_, (pss_one (ps_ret (pe_op op_add (pe_op op_mulB (pe_ix ix_tupH (pv 0) pe_int (fun _ _ => rfl)) (pe_own c_first_part (hr.mono (by decide)) rfl (pa_cons (pv 0) (pa_cons (pv 1) pa_nil)))) (pe_op op_mulB (pe_own c_lack (hr.mono (by decide)) rfl (pa_cons (pv 0) pa_nil)) (pe_own c_second_part (hr.mono (by decide)) rfl (pa_cons (pv 0) (pa_cons (pv 1) pa_nil))))))), ?_⟩
    have h1 : IntMulOk u (fp x u l) := mulOk (bits_le S.lo S.hi hb) (bits_fp X S hb) (by decide)
    have h2 : IntMulOk (l - u) (sp x u l) := mulOk (bits_le (by have := S.hi; omega) (by have := S.lo; omega) hb) (bits_sp X S hb) (by decide)
    unfold mp at k
    walk_at "kq"
    exact ⟨p, q, u, l, x, rfl, hp, hq, X, S, hb, _, rfl, h1, u, l, hp, p, q, u, l, x, rfl, hp, hq, X, S, hb, _, rfl, h2, k⟩
end
theorem log_of_bits {l : Int} (h0 : 0 < l) (h : intBits l ≤ 9000) : l.natAbs.log2 < 9000 := (Nat.log2_lt (by omega)).mpr (intBits_le_iff.mp h)
/-- the share as it stands: a fraction in lowest terms, from 0 to 1, not too great -/
structure FrOk (f : Kqp6.Frac) (m : Nat) : Prop where
  is : Is f f.num (f.den : Int)
  sh : ShOk f.num (f.den : Int)
  bits : intBits (f.den : Int) ≤ m
theorem FrOk.of_is {f : Kqp6.Frac} {n d : Int} {m : Nat} (h : Is f n d) (h0 : 0 ≤ n) (h1 : n ≤ d) (hb : intBits d ≤ m) : FrOk f m := ⟨h.self, h.sh h0 h1, bits_le (by omega) h.den_le hb⟩
theorem FrOk.mono {f : Kqp6.Frac} {m n : Nat} (h : FrOk f m) (hn : m ≤ n) : FrOk f n := ⟨h.is, h.sh, Nat.le_trans h.bits hn⟩
/-- a fraction out of a share and a place's worths, as a new tuple -/
def sp_frac (g : Kqp6.Place → Kqp6.Frac → Kqp6.Frac) : Sp := fun vs H Q _ => ∃ p q f x, vs = [.ref p, .ref q] ∧ H p = some (tupF f) ∧ H q = some (tupP x) ∧ PlOk x ∧ FrOk f 900 ∧ ∀ t, H t = none → Q (.ref t) (upd H t (tupF (g x f)))
abbrev s_first_worth : Stmt := top 8
theorem sc_first_worth : FnScope ["share", "worths"] ["share", "worths"] (defScope s_first_worth) := ⟨rfl, rfl, rfl, by decide +kernel, rfl, by decide +kernel, by decide +kernel⟩
abbrev s_second_worth : Stmt := top 9
theorem sc_second_worth : FnScope ["share", "worths"] ["share", "worths"] (defScope s_second_worth) := ⟨rfl, rfl, rfl, by decide +kernel, rfl, by decide +kernel, by decide +kernel⟩
abbrev s_mean_worth : Stmt := top 10
theorem sc_mean_worth : FnScope ["share", "worths"] ["share", "worths"] (defScope s_mean_worth) := ⟨rfl, rfl, rfl, by decide +kernel, rfl, by decide +kernel, by decide +kernel⟩
section
variable {P : Program} {w : World} {K : PySem.W.Frag} {mg : Str → Option Value} {base : Heap}
theorem ok_first_worth (F : FunIn K mg "first_worth" s_first_worth ["share", "worths"]) (c_lowest : CalOk P w K mg base 2 "lowest" ["upper", "lower"] sp_lowest) (c_first_part : CalOk P w K mg base 2 "first_part" ["share", "worths"] (sp_of fp)) :
    CalOk P w K mg base 3 "first_worth" ["share", "worths"] (sp_frac Kqp6.one_) := by
  have nd := sc_first_worth.nd
  refine F.ok sc_first_worth (fun vs H Q E h => ?_) (fun f cdv A outer s H vs Q E hr h => ?_)
  · obtain ⟨p, q, f, x, rfl, _⟩ := h
    rfl
  · obtain ⟨p, q, f, x, rfl, hp, hq, X, Fk, k⟩ := h
    refine ⟨_, (pss_one (ps_ret (pe_own c_lowest (hr.mono (by decide)) rfl (pa_cons (pe_own c_first_part (hr.mono (by decide)) rfl (pa_cons (pv 0) (pa_cons (pv 1) pa_nil))) (pa_cons (pe_ix ix_tupH (pv 0) pe_int (fun _ _ => rfl)) pa_nil))))), ?_⟩
    unfold tupF at hp
    walk_at "kq"
    refine ⟨p, q, _, _, x, rfl, hp, hq, X, Fk.sh, Fk.bits, ?_⟩
    rw [(KM.is_one_ x Fk.is).is_frac (k := f.den) rfl] at k
    have h1 : 0 ≤ fp x f.num f.den := Int.le_trans (Int.le_of_lt Fk.sh.dp) (KM.fp_ge X Fk.sh)
    have h2 := log_of_bits Fk.sh.dp (Nat.le_trans Fk.bits (by decide))
    have h3 := Fk.sh.dp
    simp at h2 h3
    walk_at "kq"
    exact k
theorem ok_second_worth (F : FunIn K mg "second_worth" s_second_worth ["share", "worths"]) (c_lowest : CalOk P w K mg base 2 "lowest" ["upper", "lower"] sp_lowest) (c_second_part : CalOk P w K mg base 2 "second_part" ["share", "worths"] (sp_of sp)) :
    CalOk P w K mg base 3 "second_worth" ["share", "worths"] (sp_frac Kqp6.other) := by
  have nd := sc_second_worth.nd
  refine F.ok sc_second_worth (fun vs H Q E h => ?_) (fun f cdv A outer s H vs Q E hr h => ?_)
  · obtain ⟨p, q, f, x, rfl, _⟩ := h
    rfl
  · obtain ⟨p, q, f, x, rfl, hp, hq, X, Fk, k⟩ := h
    refine ⟨_, (pss_one (ps_ret (pe_own c_lowest (hr.mono (by decide)) rfl (pa_cons (pe_own c_second_part (hr.mono (by decide)) rfl (pa_cons (pv 0) (pa_cons (pv 1) pa_nil))) (pa_cons (pe_ix ix_tupH (pv 0) pe_int (fun _ _ => rfl)) pa_nil))))), ?_⟩
    unfold tupF at hp
    walk_at "kq"
    refine ⟨p, q, _, _, x, rfl, hp, hq, X, Fk.sh, Fk.bits, ?_⟩
    rw [(KM.is_other x Fk.is).is_frac (k := f.den) rfl] at k
    have h1 : 0 ≤ sp x f.num f.den := Int.le_trans (Int.le_of_lt Fk.sh.dp) (KM.sp_ge X Fk.sh)
    have h2 := log_of_bits Fk.sh.dp (Nat.le_trans Fk.bits (by decide))
    have h3 := Fk.sh.dp
    simp at h2 h3
    walk_at "kq"
    exact k
theorem ok_mean_worth (F : FunIn K mg "mean_worth" s_mean_worth ["share", "worths"]) (c_lowest : CalOk P w K mg base 2 "lowest" ["upper", "lower"] sp_lowest) (c_mean_part : CalOk P w K mg base 3 "mean_part" ["share", "worths"] (sp_of mp)) :
    CalOk P w K mg base 4 "mean_worth" ["share", "worths"] (sp_frac Kqp6.mean) := by
  have nd := sc_mean_worth.nd
  refine F.ok sc_mean_worth (fun vs H Q E h => ?_) (fun f cdv A outer s H vs Q E hr h => ?_)
  · obtain ⟨p, q, f, x, rfl, _⟩ := h
    rfl
  · obtain ⟨p, q, f, x, rfl, hp, hq, X, Fk, k⟩ := h
    refine ⟨_, (pss_one (ps_ret (pe_own c_lowest (hr.mono (by decide)) rfl (pa_cons (pe_own c_mean_part (hr.mono (by decide)) rfl (pa_cons (pv 0) (pa_cons (pv 1) pa_nil))) (pa_cons (pe_op op_mulB (pe_ix ix_tupH (pv 0) pe_int (fun _ _ => rfl)) (pe_ix ix_tupH (pv 0) pe_int (fun _ _ => rfl))) pa_nil))))), ?_⟩
    unfold tupF at hp
    walk_at "kq"
    refine ⟨p, q, _, _, x, rfl, hp, hq, X, Fk.sh, Fk.bits, ?_⟩
    rw [(KM.is_mean x Fk.is).is_frac (k := f.den * f.den) (by push_cast; rfl)] at k
    have h1 : 0 ≤ mp x f.num f.den := Int.le_of_lt (KM.mp_pos X Fk.sh)
    have hm : IntMulOk (f.den : Int) (f.den : Int) := mulOk Fk.bits Fk.bits (by decide)
    have h3 : (0 : Int) < (f.den : Int) * (f.den : Int) := Int.mul_pos Fk.sh.dp Fk.sh.dp
    have h2 := log_of_bits h3 (Nat.le_trans (intBits_mul_le Fk.bits Fk.bits) (by decide))
    have e : ((f.den : Int) * (f.den : Int)).toNat = f.den * f.den := by omega
    walk_at "kq"
    exact k
abbrev s_direction : Stmt := top 16
theorem sc_direction : FnScope ["before", "later", "gain"] ["before", "later"] (defScope s_direction) := ⟨rfl, rfl, rfl, by decide +kernel, rfl, by decide +kernel, by decide +kernel⟩
def wayOf (f g : Kqp6.Frac) : Int := if Kqp6.lt f g then 1 else if Kqp6.lt g f then -1 else 0
theorem way_of (l : Kqp6.Land) (p : Kqp6.Frac) : Kqp6.way l p = wayOf p (Kqp6.next l p) := rfl
def dirOf (a b c d : Int) : Int := if a * d < c * b then 1 else if c * b < a * d then -1 else 0
theorem way_dir {f g : Kqp6.Frac} {a b c d : Int} (hf : Is f a b) (hg : Is g c d) : wayOf f g = dirOf a b c d := by
  unfold wayOf dirOf
  rw [hf.lt hg, hg.lt hf]
  simp only [decide_eq_true_eq]
@[simp] def sp_direction : Sp := fun vs H Q _ => ∃ p q a b c d, vs = [.ref p, .ref q] ∧ H p = some (.tup [.int a, .int b]) ∧ H q = some (.tup [.int c, .int d]) ∧ intBits a ≤ 60000 ∧ intBits b ≤ 60000 ∧ intBits c ≤ 60000 ∧ intBits d ≤ 60000 ∧ Q (.int (dirOf a b c d)) H
theorem FrOk.bits1 {f : Kqp6.Frac} {m : Nat} (h : FrOk f m) : intBits f.num ≤ m := bits_le h.sh.lo h.sh.hi h.bits
theorem ok_direction (F : FunIn K mg "direction" s_direction ["before", "later"]) : CalOk P w K mg base 1 "direction" ["before", "later"] sp_direction := by
  have nd := sc_direction.nd
  refine F.ok sc_direction (fun vs H Q E h => ?_) (fun f cdv A outer s H vs Q E hr h => ?_)
  · obtain ⟨p, q, a, b, c, d, rfl, _⟩ := h
    rfl
  · obtain ⟨p, q, a, b, c, d, rfl, hp, hq, ba, bb, bc, bd, k⟩ := h
    refine ⟨_, (pss_cons (ps_set (i := 2) nd rfl (Or.inl rfl) (pe_op op_sub (pe_op op_mulB (pe_ix ix_tupH (pv 1) pe_int (fun _ _ => rfl)) (pe_ix ix_tupH (pv 0) pe_int (fun _ _ => rfl))) (pe_op op_mulB (pe_ix ix_tupH (pv 0) pe_int (fun _ _ => rfl)) (pe_ix ix_tupH (pv 1) pe_int (fun _ _ => rfl)))))
      (pss_cons (ps_if (pt_cmpR op_gt (pv 2) pe_int (nomark _)) (pss_one (ps_ret pe_int)) pss_nil)
      (pss_cons (ps_if (pt_cmpR op_lt (pv 2) pe_int (nomark _)) (pss_one (ps_ret (pe_un un_neg pe_int))) pss_nil)
      (pss_one (ps_ret pe_int))))), ?_⟩
    have h1 : IntMulOk c b := mulOk bc bb (by decide)
    have h2 : IntMulOk a d := mulOk ba bd (by decide)
    unfold dirOf at k
    walk_at "kq"
    by_cases c1 : a * d < c * b
    · rw [if_pos c1] at k ⊢; exact k
    · rw [if_neg c1] at k ⊢
      by_cases c2 : c * b < a * d
      · rw [if_pos c2] at k; rw [if_pos (by omega)]; exact k
      · rw [if_neg c2] at k; rw [if_neg (by omega)]; exact k
end
end KP

end

section
set_option Elab.async false
set_option linter.all false
set_option maxRecDepth 100000
set_option maxHeartbeats 2000000
set_option exponentiation.threshold 100000
namespace KP
open PySem PySem.Spec PyProof.Rows L2
open Builtin.Int (intBits)
open KM (Is PlOk ShOk fp sp mp)
local macro_rules | `(tactic| walk_at "kq") => `(tactic| simp [and_assoc, tTest, tOp, tUn, tVar, tC, rNe, rEq, rI, rI0, rU, tSeq, tNext, tAsg, gName, gCons, gNil, tRet, tIfS, scal, L2.start, tCall, tCons, tNil, tTup, tLst, rIxTH, rIxLH, rLenL, atI, ixN, *])
/-- the places' worths stand in tuples -/
structure WsAt (H : Hp) (ws : List Addr) (pls : List Kqp6.Place) : Prop where
  len : ws.length = pls.length
  at_ : ∀ (i : Nat) (w : Addr) (x : Kqp6.Place), ws[i]? = some w → pls[i]? = some x → H w = some (tupP x)
/-- all that was tracked is as it was -/
theorem Same.refl {H : Hp} : Same H H := fun _ _ h => h
theorem Same.new {H : Hp} {p : Addr} {o : HO} (h : H p = Option.none) : Same H (upd H p o) := fun b u e => by rw [upd_ne (ne_of_none e h)]; exact e
theorem WsAt.same {H H' : Hp} {ws : List Addr} {pls : List Kqp6.Place} (h : WsAt H ws pls) (e : Same H H') : WsAt H' ws pls := ⟨h.len, fun i w x a b => e _ _ (h.at_ i w x a b)⟩
/-- the land's places, held in a list of seeds and a list of worths -/
structure PlsOk (pls : List Kqp6.Place) : Prop where
  pl : ∀ x ∈ pls, PlOk x
  n3 : pls.length ≤ 3
  sum : KM.sumS pls = 100
def seedsL (pls : List Kqp6.Place) : HO := .lst (pls.map fun x => .int (x.seeds : Int))
theorem run_take {u l : Int} : ∀ (pls : List Kqp6.Place) (U L : Int) (i : Nat) (x : Kqp6.Place), pls[i]? = some x →
    KM.run u l (pls.take (i + 1)) U L = ((KM.run u l (pls.take i) U L).1 * mp x u l + (x.seeds : Int) * (u * fp x u l) * (KM.run u l (pls.take i) U L).2, (KM.run u l (pls.take i) U L).2 * mp x u l)
  | [], _, _, _, _, h => by simp at h
  | a :: r, U, L, 0, x, h => by
    have e : a = x := Option.some.inj h
    subst e
    rfl
  | a :: r, U, L, i + 1, x, h => run_take r _ _ i x h
theorem sum_take : ∀ (pls : List Kqp6.Place) (i : Nat), KM.sumS (pls.take i) ≤ KM.sumS pls
  | [], i => by simp
  | a :: r, 0 => Nat.zero_le _
  | a :: r, i + 1 => by
    rw [List.take_succ_cons, KM.sumS_cons, KM.sumS_cons]
    have := sum_take r i
    omega
theorem PlsOk.take {pls : List Kqp6.Place} (h : PlsOk pls) (i : Nat) : (∀ x ∈ pls.take i, PlOk x) ∧ (pls.take i).length ≤ 3 ∧ KM.sumS (pls.take i) ≤ 100 :=
  ⟨fun x hx => h.pl x (List.mem_of_mem_take hx), by rw [List.length_take]; have := h.n3; omega, by have := sum_take pls i; rw [h.sum] at this; exact this⟩
theorem run_bits {u l : Int} {m : Nat} {pls : List Kqp6.Place} (S : ShOk u l) (hx : ∀ x ∈ pls, PlOk x) (h3 : pls.length ≤ 3) (hs : KM.sumS pls ≤ 100) (hb : intBits l ≤ m) :
    intBits (KM.run u l pls 0 1).2 ≤ 6 * m + 12 ∧ intBits (KM.run u l pls 0 1).1 ≤ 6 * m + 19 ∧ 0 < (KM.run u l pls 0 1).2 ∧ 0 ≤ (KM.run u l pls 0 1).1 := by
  have hp := KM.run_pos S pls 0 1 hx (by decide)
  have hn := KM.run_nn S pls 0 1 hx (by decide) (by decide)
  have h1 := KM.run_den3 (b := 9 * (l * l)) S hx h3 (Int.le_refl _)
  have b9 : intBits (9 * (l * l)) ≤ 4 + (m + m) := intBits_mul_le bits9 (intBits_mul_le hb hb)
  have hL : intBits (KM.run u l pls 0 1).2 ≤ 6 * m + 12 := Nat.le_trans (bits_le (Int.le_of_lt hp) h1 (intBits_mul_le (intBits_mul_le b9 b9) b9)) (by omega)
  have h2 := KM.run_hi S pls 0 1 0 hx (by decide) (by decide)
  have h4 : (KM.run u l pls 0 1).1 ≤ 100 * (KM.run u l pls 0 1).2 := Int.le_trans h2 (Int.mul_le_mul_of_nonneg_right (by omega) (Int.le_of_lt hp))
  exact ⟨hL, Nat.le_trans (bits_le hn h4 (intBits_mul_le bits100 hL)) (by omega), hp, hn⟩
@[simp] def sp_share_next : Sp := fun vs H Q _ => ∃ p a b f pls ws, vs = [.ref p, .ref a, .ref b] ∧ H p = some (tupF f) ∧ H a = some (seedsL pls) ∧ H b = some (.lst (ws.map V.ref)) ∧ WsAt H ws pls ∧ PlsOk pls ∧ FrOk f 900 ∧
  ∀ (H' : Hp) (t : Addr), Same H H' → H t = Option.none → H' t = some (tupF (KM.nextOf pls f)) → Q (.ref t) H'
section
variable {P : Program} {w : World} {K : PySem.W.Frag} {mg : Str → Option Value} {base : Heap}
theorem next_fr {pls : List Kqp6.Place} {f : Kqp6.Frac} {m : Nat} (hP : PlsOk pls) (Fk : FrOk f m) : FrOk (KM.nextOf pls f) (6 * m + 19) := by
  obtain ⟨bL, bU, pL, pU⟩ := run_bits Fk.sh hP.pl hP.n3 (by rw [hP.sum]; exact Nat.le_refl _) Fk.bits
  have N := KM.nx_ok hP.pl hP.sum Fk.sh Fk.is
  exact FrOk.of_is N.is N.u0 N.hi (Nat.le_trans (intBits_mul_le bL bits100) (by omega))
/-- so many generations on -/
def gen (pls : List Kqp6.Place) (f : Kqp6.Frac) : Nat → Kqp6.Frac
  | 0 => f
  | n + 1 => KM.nextOf pls (gen pls f n)
theorem gen_after (l : Kqp6.Land) (f : Kqp6.Frac) {n : Nat} (h : n ≤ 2) : Kqp6.after l n f = gen l.places f n := by
  match n, h with
  | 0, _ => rfl
  | 1, _ => rfl
  | 2, _ => rfl
@[simp] def sp_share_after : Sp := fun vs H Q _ => ∃ p a b f pls ws n, vs = [.ref p, .ref a, .ref b, .int n] ∧ H p = some (tupF f) ∧ H a = some (seedsL pls) ∧ H b = some (.lst (ws.map V.ref)) ∧ WsAt H ws pls ∧ PlsOk pls ∧ FrOk f 140 ∧ 0 ≤ n ∧ n ≤ 2 ∧
  ∀ (H' : Hp) (t : Addr), Same H H' → H' t = some (tupF (gen pls f n.toNat)) → Q (.ref t) H'
abbrev s_share_after : Stmt := top 15
theorem sc_share_after : FnScope ["share", "seeds", "worths", "generations", "generation"] ["share", "seeds", "worths", "generations"] (defScope s_share_after) := ⟨rfl, rfl, rfl, by decide +kernel, rfl, by decide +kernel, by decide +kernel⟩
theorem ok_share_after (F : FunIn K mg "share_after" s_share_after ["share", "seeds", "worths", "generations"]) (nr : mg "range" = none) (c_share_next : CalOk P w K mg base 5 "share_next" ["share", "seeds", "worths"] sp_share_next) :
    CalOk P w K mg base 6 "share_after" ["share", "seeds", "worths", "generations"] sp_share_after := by
  have nd := sc_share_after.nd
  refine F.ok sc_share_after (fun vs H Q E h => ?_) (fun f cdv A outer s H vs Q E hr h => ?_)
  · obtain ⟨p, a, b, f, pls, ws, n, rfl, _⟩ := h
    rfl
  · obtain ⟨p, a, b, f, pls, ws, n, rfl, hp, ha, hb, hw, hP, Fk, n0, n2, k⟩ := h
    refine ⟨_, (pss_cons (ps_for PassesOwn.never rfl (pi_range1 rfl nr (pa_cons (pv 3) pa_nil)) (pg_name (i := 4) nd rfl (Or.inl rfl))
        (pss_one (ps_set (i := 0) nd rfl (Or.inl rfl) (pe_own c_share_next (hr.mono (by decide)) rfl (pa_cons (pv 0) (pa_cons (pv 1) (pa_cons (pv 2) pa_nil)))))))
      (pss_one (ps_ret (pv 0)))), ?_⟩
    refine ⟨_, rfl, n, rfl, by omega, by omega, for_range (fun i σ H' => ∃ (t : Addr) (v : Option V), σ = [some (.ref t), some (.ref a), some (.ref b), some (.int n), v] ∧ Same H H' ∧ H' t = some (tupF (gen pls f i)))
      ⟨p, none, rfl, Same.refl, hp⟩ ?_ ?_⟩
    · rintro i σ H' hi ⟨t, v, rfl, e, ht⟩
      have hG : FrOk (gen pls f i) 900 := by
        match i, hi with
        | 0, _ => exact Fk.mono (by decide)
        | 1, _ => exact (next_fr hP Fk).mono (by decide)
        | i + 2, hi => omega
      walk_at "kq"
      refine ⟨gen pls f i, rfl, pls, e _ _ ha, ws, e _ _ hb, hw.same e, hP, hG, fun H2 t2 e2 _ h2 => ⟨e.trans e2, h2⟩⟩
    · rintro σ H' ⟨t, v, rfl, e, ht⟩
      walk_at "kq"
end
end KP

end

section
set_option Elab.async false
set_option linter.all false
set_option maxRecDepth 100000
set_option maxHeartbeats 2000000
set_option exponentiation.threshold 100000
namespace KP
open PySem PySem.Spec PyProof.Rows L2
open Builtin.Int (intBits)
open KM (Is PlOk ShOk fp sp mp LandOk)
/-- the three fields -/
def flds (sl wl sh : Addr) : List (Str × V) := [("seeds", .ref sl), ("worths", .ref wl), ("share", .ref sh)]
@[simp] theorem flds_seeds (sl wl sh : Addr) : (flds sl wl sh).lookup ("seeds" : Str) = some (V.ref sl) := rfl
@[simp] theorem flds_worths (sl wl sh : Addr) : (flds sl wl sh).lookup ("worths" : Str) = some (V.ref wl) := rfl
@[simp] theorem flds_share (sl wl sh : Addr) : (flds sl wl sh).lookup ("share" : Str) = some (V.ref sh) := rfl
@[simp] theorem flds_inj {a b c x y z : Addr} : flds a b c = flds x y z ↔ a = x ∧ b = y ∧ c = z := by
  constructor
  · intro h
    simp [flds] at h
    exact h
  · rintro ⟨rfl, rfl, rfl⟩; rfl
/-- the class Field -/
structure FC (K : PySem.W.Frag) (C : Addr) : Prop where
  cl : Cls K C
  n1 : NoAttr K C "seeds"
  n2 : NoAttr K C "worths"
  n3 : NoAttr K C "share"
local macro_rules | `(tactic| walk_at "kq") => `(tactic| simp [and_assoc, cxOf, tTest, tB, tAnd, tOr, tNot, tAndV, tOrV, tNotV, tChain, tFld, tCB, tOp, tUn, tVar, tC, rNe, rEq, rI, rI0, rU, tSeq, tNext, tAsg, gName, gCons, gNil, tRet, tIfS, scal, L2.start, tCall, tCons, tNil, tTup, tLst, rIxTH, rIxLH, rLenL, rMinT, rMaxT, rCat, atI, ixN, *])
theorem boot_minK : bootBuiltins "min" = some (.builtin "min") := by decide +kernel
theorem boot_maxK : bootBuiltins "max" = some (.builtin "max") := by decide +kernel
/-- the field holds this land -/
structure LandAt (C : Addr) (H : Hp) (a sl wl sh : Addr) (l : Kqp6.Land) : Prop where
  ins : ∃ dx, H a = some (.ins C dx (flds sl wl sh))
  seeds : H sl = some (seedsL l.places)
  share : H sh = some (tupF l.share)
  worths : ∃ ws : List Addr, H wl = some (.lst (ws.map V.ref)) ∧ WsAt H ws l.places
theorem LandAt.same {C : Addr} {H H' : Hp} {a sl wl sh : Addr} {l : Kqp6.Land} (h : LandAt C H a sl wl sh l) (e : Same H H') : LandAt C H' a sl wl sh l := by
  obtain ⟨dx, h1⟩ := h.ins
  obtain ⟨ws, h2, h3⟩ := h.worths
  exact ⟨⟨dx, e _ _ h1⟩, e _ _ h.seeds, e _ _ h.share, ws, e _ _ h2, h3.same e⟩
abbrev s_is_place : Stmt := top 45
theorem sc_is_place : FnScope ["field", "place"] ["field", "place"] (defScope s_is_place) := ⟨rfl, rfl, rfl, by decide +kernel, rfl, by decide +kernel, by decide +kernel⟩
@[simp] def sp_is_place (C : Addr) : Sp := fun vs H Q _ => ∃ a dx sl wl sh xs n, vs = [.ref a, .int n] ∧ H a = some (.ins C dx (flds sl wl sh)) ∧ H sl = some (.lst xs) ∧ Q (.bl (decide (n < (xs.length : Int)))) H
abbrev s_are_worths : Stmt := top 46
theorem sc_are_worths : FnScope ["numbers"] ["numbers"] (defScope s_are_worths) := ⟨rfl, rfl, rfl, by decide +kernel, rfl, by decide +kernel, by decide +kernel⟩
@[simp] def sp_are_worths : Sp := fun vs H Q _ => ∃ p a b c, vs = [.ref p] ∧ H p = some (.tup [.int a, .int b, .int c]) ∧ 0 ≤ a ∧ 0 ≤ b ∧ 0 ≤ c ∧ Q (.bl (Kqp6.okWorths a.toNat b.toNat c.toNat)) H
abbrev s_is_share : Stmt := top 47
theorem sc_is_share : FnScope ["upper", "lower"] ["upper", "lower"] (defScope s_is_share) := ⟨rfl, rfl, rfl, by decide +kernel, rfl, by decide +kernel, by decide +kernel⟩
@[simp] def sp_is_share : Sp := fun vs H Q _ => ∃ x y : Int, vs = [.int x, .int y] ∧ 0 ≤ x ∧ 0 ≤ y ∧ Q (.bl (Kqp6.okShare x.toNat y.toNat)) H
section
variable {P : Program} {w : World} {K : PySem.W.Frag} {mg : Str → Option Value} {base : Heap} {C : Addr}
theorem ok_is_place (F : FunIn K mg "is_place" s_is_place ["field", "place"]) (T : FC K C) (nl : mg "len" = none) : CalOk P w K mg base 1 "is_place" ["field", "place"] (sp_is_place C) := by
  have nd := sc_is_place.nd
  refine F.ok sc_is_place (fun vs H Q E h => ?_) (fun f cdv A outer s H vs Q E hr h => ?_)
  · obtain ⟨a, dx, sl, wl, sh, xs, n, rfl, _⟩ := h
    rfl
  · obtain ⟨a, dx, sl, wl, sh, xs, n, rfl, h1, h2, k⟩ := h
    refine ⟨_, (pss_one (ps_ret (pe_cmpR op_lt (pv 1) (pe_callB call_lenH (by rfl) nl PySem.boot_len (pa_cons (pe_fld (pv 0) rfl) pa_nil)) (nomark _)))), ?_⟩
    have t1 := T.cl
    have t2 := T.n1
    walk_at "kq"
theorem ok_are_worths (F : FunIn K mg "are_worths" s_are_worths ["numbers"]) (n1 : mg "min" = none) (n2 : mg "max" = none) (g1 : GI mg "LEAST_WORTH" 1) (g9 : GI mg "GREATEST_WORTH" 9) : CalOk P w K mg base 1 "are_worths" ["numbers"] sp_are_worths := by
  have nd := sc_are_worths.nd
  refine F.ok sc_are_worths (fun vs H Q E h => ?_) (fun f cdv A outer s H vs Q E hr h => ?_)
  · obtain ⟨p, a, b, c, rfl, _⟩ := h
    rfl
  · obtain ⟨p, a, b, c, rfl, hp, ha, hb, hc, k⟩ := h
    refine ⟨_, (pss_one (ps_ret (pe_and (pe_cmpR op_ge (pe_callB (cr_minT rfl) (by rfl) n1 boot_minK (pa_cons (pv 0) pa_nil)) (pe_gi g1) (nomark _)) (pe_one (pe_cmpR op_le (pe_callB (cr_maxT rfl) (by rfl) n2 boot_maxK (pa_cons (pv 0) pa_nil)) (pe_gi g9) (nomark _)))))), ?_⟩
    walk_at "kq"
    have e : [V.int a, V.int b, V.int c] = [a, b, c].map V.int := rfl
    refine ⟨[a, b, c], e, (by show 0 < 3; decide), fun m hm h1 => ?_⟩
    have fin : ∀ q : Bool, q = Kqp6.okWorths a.toNat b.toNat c.toNat → Q (V.bl q) H := fun q hq => by rw [hq]; exact k
    have a1 := h1 a (by simp)
    have a2 := h1 b (by simp)
    have a3 := h1 c (by simp)
    simp only [List.mem_cons, List.not_mem_nil, or_false] at hm
    split
    · rename_i hm1
      refine ⟨[a, b, c], e, (by show 0 < 3; decide), fun M hM h2 => fin _ ?_⟩
      have b1 := h2 a (by simp)
      have b2 := h2 b (by simp)
      have b3 := h2 c (by simp)
      simp only [List.mem_cons, List.not_mem_nil, or_false] at hM
      rw [Bool.eq_iff_iff]
      simp [Kqp6.okWorths]
      omega
    · refine fin _ ?_
      rw [Bool.eq_iff_iff]
      simp [Kqp6.okWorths]
      omega
theorem ok_is_share (F : FunIn K mg "is_share" s_is_share ["upper", "lower"]) (g1 : GI mg "GREATEST_LOWER_TOLD" 100) : CalOk P w K mg base 1 "is_share" ["upper", "lower"] sp_is_share := by
  have nd := sc_is_share.nd
  refine F.ok sc_is_share (fun vs H Q E h => ?_) (fun f cdv A outer s H vs Q E hr h => ?_)
  · obtain ⟨x, y, rfl, _⟩ := h
    rfl
  · obtain ⟨x, y, rfl, hx, hy, k⟩ := h
    refine ⟨_, (pss_one (ps_ret (pe_and (pe_chain op_le op_le pe_int (pv 1) (pe_gi g1)) (pe_one (pe_cmpR op_le (pv 0) (pv 1) (nomark _)))))), ?_⟩
    have fin : ∀ q : Bool, q = Kqp6.okShare x.toNat y.toNat → Q (V.bl q) H := fun q hq => by rw [hq]; exact k
    walk_at "kq"
    split
    · split
      · refine fin _ ?_
        rw [Bool.eq_iff_iff]
        simp [Kqp6.okShare]
        omega
      · refine fin _ ?_
        rw [Bool.eq_iff_iff]
        simp [Kqp6.okShare]
        omega
    · refine fin _ ?_
      rw [Bool.eq_iff_iff]
      simp [Kqp6.okShare]
      omega
end
end KP

end

section
set_option Elab.async false
set_option linter.all false
set_option maxRecDepth 100000
set_option maxHeartbeats 2000000
set_option exponentiation.threshold 100000
namespace L2
open PySem PySem.Spec PyProof.Rows
section
variable {X : Cx}
def rListT : List V → Hp → VK → Prop := fun xs H Q => ∃ p ys, xs = [.ref p] ∧ H p = some (.tup ys) ∧ ∀ l, H l = none → Q (.ref l) (upd H l (.lst ys))
/-- new things, the heap told by what stays -/
def tTupS (t : TA) : TE := fun σ H Q => t σ H fun xs H1 => xs.length ≤ sizeLine ∧ ∀ p H', Same H1 H' → H1 p = none → H' p = some (.tup xs) → Q (.ref p) H'
def tLstS (t : TA) : TE := fun σ H Q => t σ H fun xs H1 => xs.length ≤ sizeLine ∧ ∀ p H', Same H1 H' → H1 p = none → H' p = some (.lst xs) → Q (.ref p) H'
def rCatS : R2 := fun x y H Q => ∃ l b xs zs, x = .ref l ∧ y = .ref b ∧ H l = some (.lst xs) ∧ H b = some (.lst zs) ∧ xs.length + zs.length ≤ sizeLine ∧ ∀ p H', Same H H' → H p = none → H' p = some (.lst (xs ++ zs)) → Q (.ref p) H'
def rListS : List V → Hp → VK → Prop := fun xs H Q => ∃ p ys, xs = [.ref p] ∧ H p = some (.tup ys) ∧ ∀ l H', Same H H' → H l = none → H' l = some (.lst ys) → Q (.ref l) H'
def rTupS : List V → Hp → VK → Prop := fun xs H Q => ∃ p ys, xs = [.ref p] ∧ H p = some (.lst ys) ∧ ∀ l H', Same H H' → H l = none → H' l = some (.tup ys) → Q (.ref l) H'
theorem same_upd {H : Hp} {p : Addr} {o : HO} (h : H p = none) : Same H (upd H p o) := fun b u e => by rw [upd_ne (ne_of_none e h)]; exact e
theorem PE.imp {e : Expr} {t u : TE} (h : PE X e t) (i : ∀ σ H Q, u σ H Q → t σ H Q) : PE X e u := fun pins s σ H Q I q => h pins s σ H Q I (i σ H Q q)
/-- a reading of arguments lets its end be weakened -/
def MonoA (t : TA) : Prop := ∀ σ H Q Q', (∀ xs H1, Q xs H1 → Q' xs H1) → t σ H Q → t σ H Q'
theorem pe_lstS {es : List Expr} {t : TA} {pos : Pos} (h : PA X es t) : PE X (.List es pos) (tLstS t) := by
  intro pins s σ H Q I hq
  refine wpAny_List_spliced (thn (h pos pins s σ H _ I hq) fun us s1 ⟨xs, H1, I1, r, z, q⟩ => ⟨by rw [← r.length]; exact z, ?_⟩)
  have hf : H1 s1.heap.objs.size = none := I1.hok.fresh (Nat.le_refl _)
  refine ⟨.ref s1.heap.objs.size, upd H1 s1.heap.objs.size (.lst xs), I1.laid (t' := s1.toks) (fun b u e => Heap.get?_push_of_some _ e) (Nat.le_refl _) ?_, rfl, q _ _ (same_upd hf) hf upd_same⟩
  exact ⟨z, us, 0, r, Heap.get?_push_size _ rfl⟩
theorem pe_tupS {es : List Expr} {t : TA} {x1} {pos : Pos} (h : PA X es t) : PE X (.Tuple es x1 pos) (tTupS t) := by
  intro pins s σ H Q I hq
  refine wpAny_Tuple_spliced (thn (h pos pins s σ H _ I hq) fun us s1 ⟨xs, H1, I1, r, z, q⟩ => ⟨by rw [← r.length]; exact z, ?_⟩)
  have hf : H1 s1.heap.objs.size = none := I1.hok.fresh (Nat.le_refl _)
  refine ⟨.ref s1.heap.objs.size, upd H1 s1.heap.objs.size (.tup xs), I1.laid (t' := s1.toks) (fun b u e => Heap.get?_push_of_some _ e) (Nat.le_refl _) ?_, rfl, q _ _ (same_upd hf) hf upd_same⟩
  exact ⟨z, us, r, ⟨_, Heap.get?_push_size _ rfl, rfl, _, rfl⟩⟩
theorem op_catS : OpR X (binaryOp .Add) rCatS := by
  intro pins s σ H x y v u Q I rx ry h
  obtain ⟨l, b, xs, zs, h1, h2, h3, h4, h5, h6⟩ := h
  exact op_cat pins s σ H x y v u Q I rx ry ⟨l, b, xs, zs, h1, h2, h3, h4, h5, fun p hp => h6 p _ (same_upd hp) hp upd_same⟩
theorem call_listS : CallR X (.type "list") rListS := by
  intro pins s σ H xs us Q I r h
  obtain ⟨p, ys, h1, h2, h3⟩ := h
  exact call_list_of pins s σ H xs us Q I r ⟨p, ys, h1, .inr (SqT.of h2), fun p hp => h3 p _ (same_upd hp) hp upd_same⟩
theorem call_tupS : CallR X (.type "tuple") rTupS := by
  intro pins s σ H xs us Q I r h
  obtain ⟨p, ys, h1, h2, h3⟩ := h
  exact call_tuple_of pins s σ H xs us Q I r ⟨p, ys, h1, .inl ⟨SqL.of h2, fun p hp => h3 p _ (same_upd hp) hp upd_same⟩⟩
theorem call_listT : CallR X (.type "list") rListT := by
  intro pins s σ H xs us Q I r h
  obtain ⟨p, ys, h1, h2, h3⟩ := h
  exact call_list_of pins s σ H xs us Q I r ⟨p, ys, h1, .inr (SqT.of h2), h3⟩
end
end L2
namespace KP
open PySem PySem.Spec PyProof.Rows L2
open Builtin.Int (intBits)
open KM (Is PlOk ShOk fp sp mp LandOk)
local macro_rules | `(tactic| walk_at "kq") => `(tactic| simp [and_assoc, cxOf, tTest, tB, tAnd, tOr, tNot, tAndV, tOrV, tNotV, tChain, tFld, tCB, tOp, tUn, tVar, tC, rNe, rEq, rI, rI0, rU, tSeq, tNext, tAsg, gName, gCons, gNil, tRet, tIfS, scal, L2.start, tCall, tCons, tNil, tTup, tLst, rIxTH, rIxLH, rLenL, rMinT, rMaxT, rCat, rListT, tTupS, tLstS, rCatS, rListS, rTupS, atI, ixN, *])
theorem boot_listK : bootBuiltins "list" = some (.type "list") := by decide +kernel
theorem boot_tupleK : bootBuiltins "tuple" = some (.type "tuple") := by decide +kernel
/-- a call that tells and changes nothing: n numbers are handed in -/
def sp_ro (C : Addr) (n : Nat) (ans : Kqp6.Land → List Int → List Int) : Sp := fun vs H Q _ => ∃ a sl wl sh nl l args, vs = [.ref a, .ref nl] ∧ LandAt C H a sl wl sh l ∧ LandOk l ∧ H nl = some (.lst (args.map V.int)) ∧ args.length = n ∧ (∀ x ∈ args, 0 ≤ x) ∧
  ∀ (H' : Hp) (t : Addr), Same H H' → H t = Option.none → H' t = some (.lst ((ans l args).map V.int)) → Q (.ref t) H'
theorem land_fr {l : Kqp6.Land} (L : LandOk l) : FrOk l.share 140 := ⟨L.is, L.sh, by
  refine Nat.le_trans (m := 130) (intBits_le_iff.mpr ?_) (by decide)
  have := L.big
  rw [Int.natAbs_natCast]; exact this⟩
theorem land_pls {l : Kqp6.Land} (L : LandOk l) : PlsOk l.places := ⟨L.pl, L.n3, L.sum⟩
abbrev s_tell_share : Stmt := top 55
theorem sc_tell_share : FnScope ["field", "numbers"] ["field", "numbers"] (defScope s_tell_share) := ⟨rfl, rfl, rfl, by decide +kernel, rfl, by decide +kernel, by decide +kernel⟩
abbrev s_tell_mean : Stmt := top 56
theorem sc_tell_mean : FnScope ["field", "numbers"] ["field", "numbers"] (defScope s_tell_mean) := ⟨rfl, rfl, rfl, by decide +kernel, rfl, by decide +kernel, by decide +kernel⟩
section
variable {P : Program} {w : World} {K : PySem.W.Frag} {mg : Str → Option Value} {base : Heap} {C : Addr}
theorem ok_tell_share (F : FunIn K mg "tell_share" s_tell_share ["field", "numbers"]) (T : FC K C) (nl : mg "list" = none) :
    CalOk P w K mg base 1 "tell_share" ["field", "numbers"] (sp_ro C 0 fun l _ => [0, l.share.num, (l.share.den : Int)]) := by
  have nd := sc_tell_share.nd
  refine F.ok sc_tell_share (fun vs H Q E h => ?_) (fun f cdv A outer s H vs Q E hr h => ?_)
  · obtain ⟨a, sl, wl, sh, nl, l, args, rfl, _⟩ := h
    rfl
  · obtain ⟨a, sl, wl, sh, nl', l, args, rfl, hL, L, hn, hlen, hpos, k⟩ := h
    refine ⟨_, (pss_one (ps_ret (pe_op op_catS (pe_lstS (pa_cons pe_int pa_nil)) (pe_callTy call_listS (by rfl) nl boot_listK (pa_cons (pe_fld (pv 0) rfl) pa_nil))))), ?_⟩
    have t1 := T.cl
    have t2 := T.n3
    walk_at "kq"
    refine ⟨by decide, fun p H1 e1 n1 h1 => ?_⟩
    have L1 := hL.same e1
    obtain ⟨dx, i1⟩ := L1.ins
    have i2 := L1.share
    unfold tupF at i2
    walk_at "kq"
    intro q H2 e2 n2 h2
    have h3 := e2 _ _ h1
    walk_at "kq"
    exact ⟨by decide, fun t H3 e3 n3 h4 => k _ t ((e1.trans e2).trans e3) ((e1.trans e2).free n3) h4⟩
theorem ok_tell_mean (F : FunIn K mg "tell_mean" s_tell_mean ["field", "numbers"]) (T : FC K C) (nl : mg "list" = none) (g2 : GI mg "NO_SUCH_PLACE" (-2)) (c_is_place : CalOk P w K mg base 1 "is_place" ["field", "place"] (sp_is_place C))
    (c_mean_worth : CalOk P w K mg base 4 "mean_worth" ["share", "worths"] (sp_frac Kqp6.mean)) :
    CalOk P w K mg base 5 "tell_mean" ["field", "numbers"] (sp_ro C 1 fun l args => (Kqp6Neutral.step (some l) [5 :: args]).2) := by
  have nd := sc_tell_mean.nd
  refine F.ok sc_tell_mean (fun vs H Q E h => ?_) (fun f cdv A outer s H vs Q E hr h => ?_)
  · obtain ⟨a, sl, wl, sh, nl, l, args, rfl, _⟩ := h
    rfl
  · obtain ⟨a, sl, wl, sh, nl', l, args, rfl, hL, L, hn, hlen, hpos, k⟩ := h
    obtain ⟨i, rfl⟩ := List.length_eq_one_iff.mp hlen
    refine ⟨_, (pss_cons (ps_if (pt_not (pt_val (pe_own c_is_place (hr.mono (by decide)) rfl (pa_cons (pv 0) (pa_cons (pe_ix ix_listH (pv 1) pe_int (fun _ _ => rfl)) pa_nil))))) (pss_one (ps_ret (pe_lstS (pa_cons (pe_gi g2) pa_nil)))) pss_nil)
      (pss_one (ps_ret (pe_op op_catS (pe_lstS (pa_cons pe_int pa_nil)) (pe_callTy call_listS (by rfl) nl boot_listK (pa_cons (pe_own c_mean_worth (hr.mono (by decide)) rfl (pa_cons (pe_fld (pv 0) rfl) (pa_cons (pe_ix ix_listH (pe_fld (pv 0) rfl) (pe_ix ix_listH (pv 1) pe_int (fun _ _ => rfl)) (fun _ _ => rfl)) pa_nil))) pa_nil)))))), ?_⟩
    have t1 := T.cl
    have t2 := T.n1
    have t3 := T.n2
    have t4 := T.n3
    obtain ⟨dx, i1⟩ := hL.ins
    have i2 := hL.seeds
    unfold seedsL at i2
    simp only [List.map_cons, List.map_nil] at hn
    have hi := hpos i (by simp)
    walk_at "kq"
    by_cases hlt : i < (l.places.length : Int)
    · obtain ⟨x, hx⟩ : ∃ x, l.places[i.toNat]? = some x := ⟨_, List.getElem?_eq_getElem (by omega)⟩
      rw [if_pos hlt]
      refine ⟨by decide, fun p H1 e1 n1 h1 => ?_⟩
      have L1 := hL.same e1
      obtain ⟨dx1, j1⟩ := L1.ins
      obtain ⟨ws, j2, W⟩ := L1.worths
      have j3 := e1 _ _ hn
      have hwn : i.toNat < ws.length := by rw [W.len]; omega
      have hv : ws[i.toNat]? = some ws[i.toNat] := List.getElem?_eq_getElem hwn
      have hwl : i < (ws.length : Int) := by rw [W.len]; exact hlt
      walk_at "kq"
      refine ⟨sh, _, l.share, x, rfl, L1.share, W.at_ _ _ _ hv hx, L.pl x (List.mem_of_getElem? hx), (land_fr L).mono (by decide), fun t ht => ?_⟩
      have e2 := Same.new (o := tupF (Kqp6.mean x l.share)) ht
      refine ⟨t, rfl, _, upd_same, fun q H3 e3 n3 h3 => ⟨_, e3 _ _ (e2 _ _ h1), _, h3, by show 3 ≤ sizeLine; decide, fun r H4 e4 n4 h4 => k _ r (((e1.trans e2).trans e3).trans e4) (((e1.trans e2).trans e3).free n4) ?_⟩⟩
      rw [h4]
      simp [Kqp6Neutral.step, Kqp6Neutral.callOf, Kqp6.step, Kqp6Neutral.n, Kqp6Neutral.tell, Kqp6.tell, hx]
    · rw [if_neg hlt]
      refine ⟨by decide, fun p H1 e1 n1 h1 => k _ p e1 n1 ?_⟩
      have hx : l.places[i.toNat]? = none := List.getElem?_eq_none_iff.mpr (by omega)
      rw [h1]
      simp [Kqp6Neutral.step, Kqp6Neutral.callOf, Kqp6.step, Kqp6Neutral.n, Kqp6Neutral.tell, hx]
end
end KP

end

section
set_option Elab.async false
set_option linter.all false
set_option maxRecDepth 100000
set_option maxHeartbeats 2000000
set_option exponentiation.threshold 100000
namespace L2
open PySem PySem.Spec PyProof.Rows
/-- a class of the text that may be made without arguments -/
def ClsOk (P : Program) (w : World) (K : PySem.W.Frag) (mg : Str → Option Value) (base : Heap) (k : Nat) (x : Str) (C : Addr) (sp : Sp) : Prop :=
  ∃ f fd ps, Mk K C f ∧ FnOk P w K mg base CX0 k f fd ps sp ∧ mg x = some (.ref C) ∧ Binds K fd ps []
theorem pe_makeC {X : Cx} {k : Nat} {x : Str} {C : Addr} {sp : Sp} {p pos : Pos} (c : ClsOk X.prog X.w X.K X.mg X.base k x C sp) (hr : Room (k + 1) X.A) (hg : Gl X x) (hdb : (x == ("__debug__" : Str)) = false := by decide) :
    PE X (.Call (.Name x p) [] [] pos) (tMake C sp [] E0 tNil) := by
  obtain ⟨f, fd, ps, M, F, hm, hb⟩ := c
  exact pe_make0 M F hr hg hm hb .nil pass0 hdb
end L2
namespace KP
open PySem PySem.Spec PyProof.Rows L2
open Builtin.Int (intBits)
open KM (Is PlOk ShOk fp sp mp LandOk SOk)
local macro_rules | `(tactic| walk_at "kq") => `(tactic| simp [and_assoc, cxOf, tTest, tB, tAnd, tOr, tNot, tAndV, tOrV, tNotV, tChain, tFld, tCB, tOp, tUn, tVar, tC, rNe, rEq, rI, rI0, rU, tSeq, tNext, tAsg, gName, gCons, gNil, tRet, tIfS, scal, L2.start, tCall, tCons, tNil, tTup, tLst, rIxTH, rIxLH, rIxL, rIxT, rLenL, rMinT, rMaxT, rCat, rListT, tTupS, tLstS, rCatS, rListS, rTupS, *])
/-- the field as it stands -/
def FieldAt (C : Addr) (H : Hp) (a sl wl : Addr) : Option Kqp6.Land → Prop
  | none => ∃ dx sh, H a = some (.ins C dx (flds sl wl sh)) ∧ H sl = some (.lst []) ∧ H wl = some (.lst [])
  | some l => ∃ sh, LandAt C H a sl wl sh l
theorem FieldAt.same {C : Addr} {H H' : Hp} {a sl wl : Addr} (e : Same H H') : ∀ {s : Option Kqp6.Land}, FieldAt C H a sl wl s → FieldAt C H' a sl wl s
  | none, ⟨dx, sh, h1, h2, h3⟩ => ⟨dx, sh, e _ _ h1, e _ _ h2, e _ _ h3⟩
  | some _, ⟨sh, h⟩ => ⟨sh, h.same e⟩
theorem FieldAt.there {C : Addr} {H : Hp} {a sl wl : Addr} : ∀ {s : Option Kqp6.Land}, FieldAt C H a sl wl s → (∃ dx sh, H a = some (.ins C dx (flds sl wl sh))) ∧ (∃ xs, H sl = some (.lst xs)) ∧ ∃ xs, H wl = some (.lst xs)
  | none, ⟨dx, sh, h1, h2, h3⟩ => ⟨⟨dx, sh, h1⟩, ⟨_, h2⟩, ⟨_, h3⟩⟩
  | some _, ⟨sh, h⟩ => by
    obtain ⟨dx, h1⟩ := h.ins
    obtain ⟨ws, h2, _⟩ := h.worths
    exact ⟨⟨dx, sh, h1⟩, ⟨_, h.seeds⟩, ⟨_, h2⟩⟩
/-- another list changes -/
theorem FieldAt.other {C : Addr} {H : Hp} {a sl wl t : Addr} {xs ys : List V} (ht : H t = some (.lst xs)) (n1 : t ≠ sl) (n2 : t ≠ wl) : ∀ {s : Option Kqp6.Land}, FieldAt C H a sl wl s → FieldAt C (upd H t (.lst ys)) a sl wl s := by
  have ok : ∀ b o, H b = some o → (b = sl ∨ b = wl ∨ ∀ zs, o ≠ .lst zs) → upd H t (.lst ys) b = some o := fun b o hb q => by
    refine (upd_ne ?_).trans hb
    rintro rfl
    rcases q with q | q | q
    · exact n1 q
    · exact n2 q
    · rw [ht] at hb; exact q xs (Option.some.inj hb).symm
  intro s h
  cases s with
  | none =>
    obtain ⟨dx, sh, h1, h2, h3⟩ := h
    exact ⟨dx, sh, ok _ _ h1 (.inr (.inr fun zs q => by cases q)), ok _ _ h2 (.inl rfl), ok _ _ h3 (.inr (.inl rfl))⟩
  | some l =>
    obtain ⟨sh, h⟩ := h
    obtain ⟨dx, h1⟩ := h.ins
    obtain ⟨ws, h2, h3⟩ := h.worths
    exact ⟨sh, ⟨dx, ok _ _ h1 (.inr (.inr fun zs q => by cases q))⟩, ok _ _ h.seeds (.inl rfl), ok _ _ h.share (.inr (.inr fun zs q => by cases q)), ws, ok _ _ h2 (.inr (.inl rfl)), h3.len,
      fun i w x p q => ok _ _ (h3.at_ i w x p q) (.inr (.inr fun zs q => by cases q))⟩
/-- what a call may have changed -/
structure Chg (H H' : Hp) (a sl wl sl' wl' : Addr) : Prop where
  keep : ∀ b o, H b = some o → b ≠ a → b ≠ sl → b ≠ wl → H' b = some o
  s : sl' = sl ∨ H sl' = Option.none
  w : wl' = wl ∨ H wl' = Option.none
/-- the call as the document has it, from its number and its numbers -/
def callC (p : Int) (args : List Int) : List (List Int) := if p = 0 then [[0], args] else [p :: args]
def sp_answer (C : Addr) : Sp := fun vs H Q _ => ∃ a sl wl nl s p args, vs = [.ref a, .int p, .ref nl] ∧ FieldAt C H a sl wl s ∧ SOk s ∧ H nl = some (.lst (args.map V.int)) ∧ nl ≠ a ∧ nl ≠ sl ∧ nl ≠ wl ∧ (∀ x ∈ args, 0 ≤ x) ∧ PyFlat.okCall PyKqp6.shape (callC p args) ∧
  ∀ (H' : Hp) (sl' wl' t : Addr), FieldAt C H' a sl' wl' (Kqp6Neutral.step s (callC p args)).1 → Chg H H' a sl wl sl' wl' → H t = Option.none → H' t = some (.lst ((Kqp6Neutral.step s (callC p args)).2.map V.int)) → Q (.ref t) H'
abbrev s_numbers_begin : Stmt := top 72
theorem sc_numbers_begin : FnScope ["calls", "at"] ["calls", "at"] (defScope s_numbers_begin) := ⟨rfl, rfl, rfl, by decide +kernel, rfl, by decide +kernel, by decide +kernel⟩
abbrev s_numbers_end : Stmt := top 73
theorem sc_numbers_end : FnScope ["calls", "at"] ["calls", "at"] (defScope s_numbers_end) := ⟨rfl, rfl, rfl, by decide +kernel, rfl, by decide +kernel, by decide +kernel⟩
def sp_begin (K : PySem.W.Frag) : Sp := fun vs H Q _ => ∃ (c : Addr) (n : Nat) (ns : List Int) (p : Int), vs = [.ref c, .int (n : Int)] ∧ SqL K H c (ns.map V.int) ∧ ns[n]? = some p ∧ Q (.int (if p = 0 then (n : Int) + 2 else (n : Int) + 1)) H
def sp_end (K : PySem.W.Frag) : Sp := fun vs H Q _ => ∃ (c : Addr) (n m : Nat) (ns : List Int) (p z : Int), vs = [.ref c, .int (n : Int)] ∧ SqL K H c (ns.map V.int) ∧ ns[n]? = some p ∧
  ((p = 0 ∧ ns[n + 1]? = some (m : Int) ∧ z = (n : Int) + 2 + m) ∨ (∃ q : Nat, p = (q : Int) ∧ 1 ≤ q ∧ KM.cnt[q]? = some m ∧ z = (n : Int) + 1 + m)) ∧ Q (.int z) H
theorem at_int {ns : List Int} {n : Nat} {p : Int} (h : ns[n]? = some p) : atI (ns.map V.int) (n : Int) = some (V.int p) := atI_nat (by rw [List.getElem?_map, h]; rfl)
section
variable {P : Program} {w : World} {K : PySem.W.Frag} {mg : Str → Option Value} {base : Heap} {C : Addr}
theorem ok_begin (F : FunIn K mg "numbers_begin" s_numbers_begin ["calls", "at"]) (g : GI mg "START" 0) : CalOk P w K mg base 1 "numbers_begin" ["calls", "at"] (sp_begin K) := by
  have nd := sc_numbers_begin.nd
  refine F.ok sc_numbers_begin (fun vs H Q E h => ?_) (fun f cdv A outer s H vs Q E hr h => ?_)
  · obtain ⟨c, n, ns, p, rfl, _⟩ := h
    rfl
  · obtain ⟨c, n, ns, p, rfl, hc, hp, k⟩ := h
    refine ⟨_, (pss_cons (ps_if (pt_cmpR op_eq (pe_ix ix_list (pv 0) (pv 1) (fun _ _ => rfl)) (pe_gi g) (nomark _)) (pss_one (ps_ret (pe_op op_add (pv 1) pe_int))) pss_nil)
      (pss_one (ps_ret (pe_op op_add (pv 1) pe_int)))), ?_⟩
    have ha := at_int hp
    walk_at "kq"
    refine ⟨_, hc, _, ha, rfl, ?_⟩
    by_cases e : p = 0
    · rw [if_pos e] at k; simp [e, k]
    · rw [if_neg e] at k; simp [e, k]
theorem ok_end (F : FunIn K mg "numbers_end" s_numbers_end ["calls", "at"]) (g : GI mg "START" 0) {hm : Addr} (gh : mg "HOW_MANY_NUMBERS" = some (.ref hm)) (ht : ∀ H, SqT K H hm (KM.cnt.map fun n : Nat => V.int (n : Int))) :
    CalOk P w K mg base 1 "numbers_end" ["calls", "at"] (sp_end K) := by
  have nd := sc_numbers_end.nd
  refine F.ok sc_numbers_end (fun vs H Q E h => ?_) (fun f cdv A outer s H vs Q E hr h => ?_)
  · obtain ⟨c, n, m, ns, p, z, rfl, _⟩ := h
    rfl
  · obtain ⟨c, n, m, ns, p, z, rfl, hc, hp, hz, k⟩ := h
    refine ⟨_, (pss_cons (ps_if (pt_cmpR op_eq (pe_ix ix_list (pv 0) (pv 1) (fun _ _ => rfl)) (pe_gi g) (nomark _)) (pss_one (ps_ret (pe_op op_add (pe_op op_add (pv 1) pe_int) (pe_ix ix_list (pv 0) (pe_op op_add (pv 1) pe_int) (fun _ _ => rfl))))) pss_nil)
      (pss_one (ps_ret (pe_op op_add (pe_op op_add (pv 1) pe_int) (pe_ix ix_tup (pe_gr gh) (pe_ix ix_list (pv 0) (pv 1) (fun _ _ => rfl)) (fun _ _ => rfl)))))), ?_⟩
    have ha := at_int hp
    walk_at "kq"
    refine ⟨_, hc, _, ha, rfl, ?_⟩
    rcases hz with ⟨rfl, h1, rfl⟩ | ⟨q, rfl, hq, h1, rfl⟩
    · simp
      have e : atI (ns.map V.int) ((n : Int) + 1) = some (V.int (m : Int)) := at_of (j := n + 1) (by omega) (by rw [List.getElem?_map, h1]; rfl)
      exact ⟨_, hc, _, e, _, rfl, k⟩
    · have e0 : ¬ q = 0 := by omega
      simp [e0]
      exact ⟨_, hc, _, ha, _, _, rfl, ht H, _, at_of (j := q) rfl (by rw [List.getElem?_map, h1]; rfl), _, rfl, k⟩
/-- Field(): nothing is started -/
def sp_init (C : Addr) : Sp := fun vs H Q _ => ∃ (a dx : Addr), vs = [.ref a] ∧ H a = some (.ins C dx []) ∧
  ∀ (H' : Hp) (sl wl : Addr), FieldAt C H' a sl wl none → (∀ b o, H b = some o → b ≠ a → H' b = some o) → H sl = Option.none → H wl = Option.none → Q .non H'
abbrev s_answers : Stmt := top 75
theorem sc_answers : FnScope ["calls", "field", "told", "at", "end", "answered"] ["calls"] (defScope s_answers) := ⟨rfl, rfl, rfl, by decide +kernel, rfl, by decide +kernel, by decide +kernel⟩
def sp_answers (K : PySem.W.Frag) : Sp := fun vs H Q _ => ∃ (a : Addr) (ns : List Int), vs = [.ref a] ∧ SqL K H a (ns.map V.int) ∧ ns.length ≤ 14000 ∧ (∀ x ∈ ns, 0 ≤ x) ∧ PyKqp6.answers_asked ns = true ∧
  ∀ (H' : Hp) (p : Addr), H' p = some (.lst ((PyKqp6.answers ns).map V.int)) → Q (.ref p) H'
/-- between two calls -/
structure Mid (K : PySem.W.Frag) (C : Addr) (H0 : Hp) (cs : List (List (List Int))) (a t : Addr) (n : Nat) (H : Hp) : Prop where
  ex : ∃ (fore rest : List (List (List Int))) (s : Option Kqp6.Land) (out : List Int) (sl wl : Addr), cs = fore ++ rest ∧ n = (PyFlat.put fore).length ∧ SOk s ∧ FieldAt C H a sl wl s ∧
    H t = some (.lst (out.map V.int)) ∧ out.length ≤ 41 * fore.length ∧ PyFlat.told (PyFlat.played Kqp6Neutral.step none cs) = out ++ PyFlat.told (PyFlat.played Kqp6Neutral.step s rest) ∧
    H0 sl = Option.none ∧ H0 wl = Option.none ∧ t ≠ sl ∧ t ≠ wl
  same : Same H0 H
  ha : H0 a = Option.none
  ht : H0 t = Option.none
  ta : t ≠ a
theorem put_app : ∀ (x y : List (List (List Int))), PyFlat.put (x ++ y) = PyFlat.put x ++ PyFlat.put y
  | [], y => rfl
  | c :: x, y => by
    show PyFlat.put1 c ++ PyFlat.put (x ++ y) = (PyFlat.put1 c ++ PyFlat.put x) ++ PyFlat.put y
    rw [put_app x y, List.append_assoc]
theorem put_ne {c : List (List Int)} (h : PyFlat.okCall PyKqp6.shape c) : 1 ≤ (PyFlat.put1 c).length := by
  obtain ⟨p, a, xs, rfl, _⟩ := h
  show 1 ≤ ((p :: a) ++ PyFlat.putRows xs).length
  rw [List.length_append, List.length_cons]; omega
/-- where a call's numbers stand -/
structure Turn1 (ns : List Int) (n : Nat) (cc : List (List Int)) (p : Int) (args : List Int) (b : Nat) : Prop where
  call : cc = callC p args
  at_ : ns[n]? = some p
  bg : ((n + b : Nat) : Int) = if p = 0 then (n : Int) + 2 else (n : Int) + 1
  e : (p = 0 ∧ ns[n + 1]? = some (args.length : Int) ∧ ((n + b + args.length : Nat) : Int) = (n : Int) + 2 + args.length) ∨ ∃ q : Nat, p = (q : Int) ∧ 1 ≤ q ∧ KM.cnt[q]? = some args.length ∧ ((n + b + args.length : Nat) : Int) = (n : Int) + 1 + args.length
  cut : (ns.drop (n + b)).take args.length = args
  len : (PyFlat.put1 cc).length = b + args.length
  hi : n + b + args.length ≤ ns.length
theorem turn1 {ns : List Int} {fore rest : List (List (List Int))} {cc : List (List Int)} (h : ns = PyFlat.put (fore ++ cc :: rest)) (ok : PyFlat.okCall PyKqp6.shape cc) : ∃ p args b, Turn1 ns (PyFlat.put fore).length cc p args b := by
  have hns : ns = PyFlat.put fore ++ (PyFlat.put1 cc ++ PyFlat.put rest) := by rw [h, put_app]; rfl
  generalize PyFlat.put fore = X at hns
  generalize PyFlat.put rest = Y at hns
  have hd : ∀ k, ns[X.length + k]? = (PyFlat.put1 cc ++ Y)[k]? := fun k => by rw [hns, List.getElem?_append_right (Nat.le_add_right _ _), Nat.add_sub_cancel_left]
  have hdr : ∀ k, ns.drop (X.length + k) = (PyFlat.put1 cc ++ Y).drop k := fun k => by rw [hns, List.drop_append, List.drop_of_length_le (Nat.le_add_right _ _), List.nil_append, Nat.add_sub_cancel_left]
  have hl : ns.length = X.length + ((PyFlat.put1 cc).length + Y.length) := by rw [hns, List.length_append, List.length_append]
  rcases KM.forms ok with ⟨r, rfl⟩ | ⟨q, a, rfl, h1, h2, h3⟩
  · rw [KM.put_start] at hd hdr hl
    refine ⟨0, r, 2, rfl, ?_, by rw [if_pos rfl]; omega, .inl ⟨rfl, ?_, by omega⟩, ?_, ?_, ?_⟩
    · have := hd 0
      rw [Nat.add_zero] at this
      rw [this]; rfl
    · rw [hd 1]; rfl
    · rw [hdr 2]
      show ((r ++ Y).take r.length) = r
      exact List.take_left'  rfl
    · rw [KM.put_start]; simp only [List.length_cons]; omega
    · simp only [List.length_cons] at hl; omega
  · rw [KM.put_other] at hd hdr hl
    have hq0 : ¬ (q : Int) = 0 := by omega
    refine ⟨(q : Int), a, 1, by unfold callC; rw [if_neg hq0], ?_, by rw [if_neg hq0]; omega, .inr ⟨q, rfl, h1, h3, by omega⟩, ?_, ?_, ?_⟩
    · have := hd 0
      rw [Nat.add_zero] at this
      rw [this]; rfl
    · rw [hdr 1]
      show ((a ++ Y).take a.length) = a
      exact List.take_left' rfl
    · rw [KM.put_other]; simp only [List.length_cons]; omega
    · simp only [List.length_cons] at hl; omega
theorem put_len : ∀ {cs : List (List (List Int))}, (∀ c ∈ cs, PyFlat.okCall PyKqp6.shape c) → cs.length ≤ (PyFlat.put cs).length
  | [], _ => Nat.zero_le _
  | c :: cs, h => by
    have h1 := put_ne (h c List.mem_cons_self)
    have h2 := put_len (cs := cs) fun d hd => h d (List.mem_cons_of_mem _ hd)
    show cs.length + 1 ≤ (PyFlat.put1 c ++ PyFlat.put cs).length
    rw [List.length_append]; omega
theorem cutV_nat {xs : List V} {i j : Nat} (h1 : i ≤ j) (h2 : j ≤ xs.length) : cutV xs (some (i : Int)) (some (j : Int)) = (xs.drop i).take (j - i) := by
  unfold cutV
  rw [HT.sIx_nat, HT.sIx_nat, Nat.min_eq_left (Nat.le_trans h1 h2), Nat.min_eq_left h2]
theorem ok_answers {fA : Addr} {fdA : FuncData} (F : Fun K "answers" "answers" s_answers fA fdA) (nl : mg "len" = none) (cF : ClsOk P w K mg base 1 "Field" C (sp_init C)) (c_begin : CalOk P w K mg base 1 "numbers_begin" ["calls", "at"] (sp_begin K))
    (c_end : CalOk P w K mg base 1 "numbers_end" ["calls", "at"] (sp_end K)) (c_answer : CalOk P w K mg base 10 "answer" ["field", "call", "numbers"] (sp_answer C)) :
    FnOk P w K mg base CX0 11 fA fdA ["calls"] (sp_answers K) := by
  have nd := sc_answers.nd
  refine F.ok sc_answers (fun vs H Q E h => ?_) (fun cdv A outer s H vs Q E hr h => ?_)
  · obtain ⟨a, ns, rfl, _⟩ := h
    rfl
  · obtain ⟨c, ns, rfl, hc, hlen, hpos, hask, k⟩ := h
    obtain ⟨cs, hput, hok, hans⟩ := KM.asked_put hask
    rw [hans] at k
    refine ⟨_, (pss_cons (ps_set (i := 1) nd rfl (Or.inl rfl) (pe_makeC cF (hr.mono (by decide)) rfl))
      (pss_cons (ps_set (i := 2) nd rfl (Or.inl rfl) (pe_lstS pa_nil))
      (pss_cons (ps_set (i := 3) nd rfl (Or.inl rfl) pe_int)
      (pss_cons (ps_while PassesOwn.never (pt_cmpR op_lt (pv 3) (pe_callB call_len_seq (by rfl) nl PySem.boot_len (pa_cons (pv 0) pa_nil)) (nomark _)) (pss_cons (ps_set (i := 4) nd rfl (Or.inl rfl) (pe_own c_end (hr.mono (by decide)) rfl (pa_cons (pv 0) (pa_cons (pv 3) pa_nil))))
      (pss_cons (ps_set (i := 5) nd rfl (Or.inl rfl) (pe_own c_answer (hr.mono (by decide)) rfl (pa_cons (pv 1) (pa_cons (pe_ix ix_list (pv 0) (pv 3) (fun _ _ => rfl)) (pa_cons (pe_slice sl_list (pv 0) (po_some (pe_own c_begin (hr.mono (by decide)) rfl (pa_cons (pv 0) (pa_cons (pv 3) pa_nil)))) (po_some (pv 4))) pa_nil)))))
      (pss_cons (ps_expr (pe_bm PySem.F.plainAttrs_list PySem.F.slot_list_append PySem.F.type_list_append mt_append (pv 2) (pa_cons (pe_callB call_lenH (by rfl) nl PySem.boot_len (pa_cons (pv 5) pa_nil)) pa_nil)))
      (pss_cons (ps_expr (pe_bm PySem.F.plainAttrs_list PySem.F.slot_list_extend PySem.F.type_list_extend mt_extend (pv 2) (pa_cons (pv 5) pa_nil)))
      (pss_one (ps_set (i := 3) nd rfl (Or.inl rfl) (pv 4))))))))
      (pss_one (ps_ret (pv 2))))))), ?_⟩
    intro a dx na nx nax
    refine ⟨a, dx, rfl, upd_same, fun H1 sl wl F1 k1 n1 n2 => ⟨rfl, ?_⟩⟩
    have s1 : Same H H1 := Same.made na nx k1
    refine ⟨(by decide), fun t H2 e2 nt ht => ?_⟩
    have s2 := s1.trans e2
    have F2 : FieldAt C H2 a sl wl none := FieldAt.same e2 F1
    obtain ⟨⟨_, _, w1⟩, ⟨_, w2⟩, ⟨_, w3⟩⟩ := FieldAt.there F1
    have hn0 : ∀ b, upd (upd H dx (.own a)) a (.ins C dx []) b = Option.none → H b = Option.none := fun b q => by
      unfold upd at q
      split at q
      · cases q
      · split at q
        · cases q
        · exact q
    have M0 : Mid K C H cs a t 0 H2 := by
      refine ⟨⟨[], cs, none, [], sl, wl, rfl, rfl, (fun l q => by cases q), F2, ht, Nat.zero_le _, rfl, ?_, ?_, ?_, ?_⟩, s2, na, s1.free nt, ?_⟩
      · exact hn0 _ n1
      · exact hn0 _ n2
      · exact fun q => by rw [q, w2] at nt; cases nt
      · exact fun q => by rw [q, w3] at nt; cases nt
      · exact fun q => by rw [q, w1] at nt; cases nt
    refine while_by (fun σ H' => ∃ (n : Nat) (v4 v5 : Option V), σ = [some (.ref c), some (.ref a), some (.ref t), some (.int (n : Int)), v4, v5] ∧ n ≤ ns.length ∧ Mid K C H cs a t n H')
      (fun σ _ => match σ with | [_, _, _, some (.int n), _, _] => ns.length - n.toNat | _ => 0) ⟨0, none, none, rfl, Nat.zero_le _, M0⟩ ?_ ?_
    · rintro σ H3 ⟨n, v4, v5, rfl, hn, M⟩
      obtain ⟨⟨fore, rest, st, out, sl3, wl3, hcs, hn2, S3, F3, ht3, ho3, hp3, z1, z2, z3, z4⟩, s3, ha3, ht0, hta⟩ := M
      have hc3 : SqL K H3 c (ns.map V.int) := s3.seq hc
      refine ⟨_, rfl, _, rfl, c, ns.map V.int, rfl, .inl hc3, _, _, rfl, rfl, _, rfl, ?_⟩
      rw [List.length_map]
      by_cases hlt : n < ns.length
      · rw [decide_eq_true (by omega : (n : Int) < (ns.length : Int))]
        refine iteT ?_
        cases rest with
        | nil =>
          exfalso
          rw [List.append_nil] at hcs
          rw [hput, hcs, ← hn2] at hlt
          exact Nat.lt_irrefl _ hlt
        | cons cc rest =>
          have okc := hok cc (by rw [hcs]; simp)
          obtain ⟨p, args, b, T1⟩ := turn1 (hput.trans (congrArg PyFlat.put hcs)) okc
          rw [← hn2] at T1
          have hargs : ∀ x ∈ args, 0 ≤ x := fun x hx => hpos x (List.mem_of_mem_drop (List.mem_of_mem_take (by rw [T1.cut]; exact hx)))
          -- end = numbers_end(calls, at)
          refine ⟨_, rfl, _, rfl, c, n, args.length, ns, p, ((n + b + args.length : Nat) : Int), rfl, hc3, T1.at_, T1.e, ?_⟩
          -- answered = answer(field, calls[at], calls[numbers_begin(calls, at):end])
          refine ⟨_, rfl, _, rfl, _, rfl, c, _, _, _, rfl, rfl, hc3, at_int T1.at_, _, rfl, _, rfl, _, rfl, c, n, ns, p, rfl, hc3, T1.at_, ?_⟩
          rw [← T1.bg]
          refine ⟨_, rfl, _, rfl, _, rfl, c, _, rfl, hc3, fun nl' hnl => ?_⟩
          rw [cutV_nat (by omega) (by rw [List.length_map]; exact T1.hi), Nat.add_sub_cancel_left, ← List.map_drop, ← List.map_take, T1.cut]
          have e4 := Same.new (o := .lst (args.map V.int)) hnl
          obtain ⟨⟨dx3, sh3, y1⟩, ⟨_, y2⟩, ⟨_, y3⟩⟩ := FieldAt.there F3
          refine ⟨a, sl3, wl3, nl', st, p, args, rfl, FieldAt.same e4 F3, S3, upd_same, fun q => (by rw [q, y1] at hnl; cases hnl), fun q => (by rw [q, y2] at hnl; cases hnl), fun q => (by rw [q, y3] at hnl; cases hnl), hargs, T1.call ▸ okc, ?_⟩
          intro H5 sl5 wl5 r F5 G5 nr hr5
          have ht4 := e4 _ _ ht3
          generalize upd H3 nl' (.lst (args.map V.int)) = H4 at *
          rw [← T1.call] at F5 hr5
          have ht5 : H5 t = some (.lst (out.map V.int)) := G5.keep _ _ ht4 hta z3 z4
          have hrt : r ≠ t := fun q => by rw [q, ht4] at nr; cases nr
          have hfore : fore.length ≤ 14000 := by
            have h1 := put_len (cs := fore) fun d hd => hok d (by rw [hcs]; exact List.mem_append_left _ hd)
            omega
          have hal := KM.nstep_len st cc
          have hol : (out.map V.int).length ≤ 574000 := by rw [List.length_map]; omega
          generalize ha : (Kqp6Neutral.step st cc).2 = ans at *
          -- told.append(len(answered))
          refine ⟨_, rfl, .inl ⟨rfl, _, SqL.of ht5⟩, _, rfl, r, _, rfl, hr5, t, _, _, rfl, rfl, ht5, (by rw [sizeLine_eq]; omega), ?_⟩
          -- told.extend(answered)
          refine ⟨_, rfl, .inl ⟨rfl, _, SqL.of upd_same⟩, _, rfl, t, r, _, _, rfl, rfl, upd_same, (upd_ne hrt).trans hr5, (by rw [sizeLine_eq, List.length_append, List.length_map, List.length_map, List.length_cons, List.length_nil]; rw [List.length_map] at hol; omega), ?_⟩
          rw [upd_upd]
          -- at = end
          have hsl5 : t ≠ sl5 := by
            rcases G5.s with q | q
            · rw [q]; exact z3
            · exact fun z => by rw [← z, ht4] at q; cases q
          have hwl5 : t ≠ wl5 := by
            rcases G5.w with q | q
            · rw [q]; exact z4
            · exact fun z => by rw [← z, ht4] at q; cases q
          refine ⟨_, rfl, ⟨n + b + args.length, _, _, rfl, T1.hi, ⟨⟨fore ++ [cc], rest, (Kqp6Neutral.step st cc).1, out ++ (ans.length : Int) :: ans, sl5, wl5, ?_, ?_, KM.nstep_ok S3 cc, FieldAt.other ht5 hsl5 hwl5 F5, ?_, ?_, ?_, ?_, ?_, hsl5, hwl5⟩, ?_, ha3, ht0, hta⟩⟩, ?_⟩
          · rw [hcs, List.append_assoc]; rfl
          · rw [put_app, List.length_append, ← hn2]
            show _ = n + (PyFlat.put1 cc ++ []).length
            rw [List.append_nil, T1.len]; omega
          · rw [upd_same, List.map_append, List.map_cons, List.length_map, List.append_assoc]; rfl
          · rw [List.length_append, List.length_append, List.length_cons, List.length_cons, List.length_nil]; omega
          · rw [hp3, List.append_assoc]
            show out ++ ((((Kqp6Neutral.step st cc).2.length : Int) :: (Kqp6Neutral.step st cc).2) ++ PyFlat.told (PyFlat.played Kqp6Neutral.step (Kqp6Neutral.step st cc).1 rest)) = _
            rw [ha]
          · rcases G5.s with q | q
            · rw [q]; exact z1
            · exact (s3.trans e4).free q
          · rcases G5.w with q | q
            · rw [q]; exact z2
            · exact (s3.trans e4).free q
          · intro d o hd
            have n0 : d ≠ t := fun q => by rw [q, ht0] at hd; cases hd
            have n1 : d ≠ a := fun q => by rw [q, ha3] at hd; cases hd
            have n2 : d ≠ sl3 := fun q => by rw [q, z1] at hd; cases hd
            have n3 : d ≠ wl3 := fun q => by rw [q, z2] at hd; cases hd
            rw [upd_ne n0]
            exact G5.keep _ _ ((s3.trans e4) _ _ hd) n1 n2 n3
          · show ns.length - ((n + b + args.length : Nat) : Int).toNat < ns.length - (n : Int).toNat
            have := T1.len
            have h1 := put_ne okc
            have := T1.hi
            omega
      · rw [decide_eq_false (by omega : ¬ (n : Int) < (ns.length : Int))]
        cases rest with
        | nil =>
          rw [show PyFlat.told (PyFlat.played Kqp6Neutral.step st []) = [] from rfl, List.append_nil] at hp3
          rw [hp3] at k
          exact ⟨_, rfl, k _ t ht3⟩
        | cons cc rest =>
          exfalso
          have okc := hok cc (by rw [hcs]; simp)
          have h1 := put_ne okc
          have h2 : ns.length = (PyFlat.put fore).length + ((PyFlat.put1 cc).length + (PyFlat.put rest).length) := by
            rw [hput, hcs, put_app, List.length_append]
            show _ + (PyFlat.put1 cc ++ PyFlat.put rest).length = _
            rw [List.length_append]
          omega
    · intro σ H Q Q' hq
      rintro ⟨v, e, v', e', p, ys, h1, h2, i, j, h3, h4, k, h5, h6⟩
      exact ⟨v, e, v', e', p, ys, h1, h2, i, j, h3, h4, k, h5, hq _ _ h6⟩
end
end KP

end

section
set_option Elab.async false
set_option linter.all false
set_option maxRecDepth 100000
set_option maxHeartbeats 2000000
set_option exponentiation.threshold 100000
namespace KP
open PySem PySem.Spec PyProof.Rows L2
open Builtin.Int (intBits)
open KM (Is PlOk ShOk fp sp mp LandOk SOk)
local macro_rules | `(tactic| walk_at "kq") => `(tactic| simp [and_assoc, cxOf, tTest, tB, tAnd, tOr, tNot, tAndV, tOrV, tNotV, tChain, tFld, sFld, tCB, tOp, tUn, tVar, tC, rNe, rEq, rI, rI0, rU, tSeq, tNext, tAsg, gName, gCons, gNil, tRet, tIfS, scal, L2.start, tCall, tCons, tNil, tTup, tLst, rIxTH, rIxLH, rLenL, rMinT, rMaxT, rCat, rListT, tTupS, tLstS, rCatS, rListS, rTupS, atI, ixN, *])
abbrev s_init : Stmt := inClass (top 44) 0
theorem sc_init : FnScope ["self"] ["self"] (defScope s_init) := ⟨rfl, rfl, rfl, by decide +kernel, rfl, by decide +kernel, by decide +kernel⟩
section
variable {P : Program} {w : World} {K : PySem.W.Frag} {mg : Str → Option Value} {base : Heap} {C : Addr}
theorem ok_init {f : Addr} {fd : FuncData} (F : Fun K "__init__" "Field.__init__" s_init f fd) (T : FC K C) : FnOk P w K mg base CX0 1 f fd ["self"] (sp_init C) := by
  have nd := sc_init.nd
  refine F.ok sc_init (fun vs H Q E h => ?_) (fun cdv A outer s H vs Q E hr h => ?_)
  · obtain ⟨a, dx, rfl, _⟩ := h
    rfl
  · obtain ⟨a, dx, rfl, ha, k⟩ := h
    refine ⟨_, pss_cons (ps_fld (pv 0) (pe_lstS pa_nil) rfl) (pss_cons (ps_fld (pv 0) (pe_lstS pa_nil) rfl) (pss_one (ps_fld (pv 0) (pe_tupS (pa_cons pe_int (pa_cons pe_int pa_nil))) rfl))), ?_⟩
    refine ⟨(by decide), fun sl H1 e1 n1 h1 => ⟨_, rfl, a, C, dx, [], rfl, e1 _ _ ha, T.cl, T.n1, (by decide), ?_⟩⟩
    have ha1 := e1 _ _ ha
    have as1 : sl ≠ a := fun q => by rw [q, ha] at n1; cases n1
    refine ⟨(by decide), fun wl H2 e2 n2 h2 => ⟨_, rfl, a, C, dx, _, rfl, e2 _ _ upd_same, T.cl, T.n2, (by show 1 < 1000; decide), ?_⟩⟩
    have wn : wl ≠ a := fun q => by rw [q, upd_same] at n2; cases n2
    refine ⟨(by decide), fun sh H3 e3 n3 h3 => ⟨_, rfl, a, C, dx, _, rfl, e3 _ _ upd_same, T.cl, T.n3, (by show 2 < 1000; decide), ?_⟩⟩
    refine k _ sl wl ⟨dx, sh, ?_, ?_, ?_⟩ (fun b o hb hba => ?_) n1 ?_
    · rw [upd_same]; rfl
    · rw [upd_ne as1]
      refine e3 _ _ ?_
      rw [upd_ne as1]
      refine e2 _ _ ?_
      rw [upd_ne as1]; exact h1
    · rw [upd_ne wn]
      refine e3 _ _ ?_
      rw [upd_ne wn]; exact h2
    · rw [upd_ne hba]
      refine e3 _ _ ?_
      rw [upd_ne hba]
      refine e2 _ _ ?_
      rw [upd_ne hba]
      exact e1 _ _ hb
    · rw [upd_ne wn] at n2
      exact e1.free n2
end
end KP

end

section
set_option Elab.async false
set_option linter.all false
set_option maxRecDepth 100000
set_option maxHeartbeats 2000000
set_option exponentiation.threshold 100000
namespace L2
open PySem PySem.Spec PyProof.Rows
def rSlLH : V → Option Int → Option Int → Hp → VK → Prop := fun x lo hi H Q => ∃ a xs, x = .ref a ∧ H a = some (.lst xs) ∧ ∀ p H', Same H H' → H p = none → H' p = some (.lst (cutV xs lo hi)) → Q (.ref p) H'
theorem sl_listH {X : Cx} : SlR X rSlLH := by
  intro pins s σ H x v vl vu lo hi sl Q I rx hs pl pu h
  obtain ⟨a, xs, h1, h2, h3⟩ := h
  exact sl_list pins s σ H x v vl vu lo hi sl Q I rx hs pl pu ⟨a, xs, h1, SqL.of h2, fun p hp => h3 p _ (same_upd hp) hp upd_same⟩
/-- a comprehension by what holds between its turns -/
theorem lc_by {J : It} {n : Nat} {σ : St} {H1 : Hp} {D : Addr} {R : Hp → Prop} {g : TG} {tt : TT} {te : TE} {vs : List Nat} (Pv : Nat → Hp → Prop) (h0 : Pv 0 (upd H1 D (.lst []))) (hd : ∀ H, Pv n H → J.stop n H ∧ R H)
    (hs : ∀ i H, i < n → Pv i H → J.go i H ∧ ∀ x H', J.yld i H x H' → g x (wipe σ vs) H' fun σ2 H2 => wipe σ2 vs = wipe σ vs ∧ tt σ2 H2 fun b H3 => if b = true then te σ2 H3 fun y H4 => ∃ acc, H4 D = some (.lst acc) ∧ acc.length < sizeLine ∧ Pv (i + 1) (upd H4 D (.lst (acc ++ [y]))) else Pv (i + 1) H3) :
    ∃ W : Nat → Nat → Hp → Prop, (∃ m, W 0 m (upd H1 D (.lst []))) ∧ ∀ i m H, W i m H →
      (J.stop i H ∧ R H) ∨ (J.go i H ∧ ∃ Nx : Hp → Prop, (∀ H', Nx H' → ∃ m', m' < m ∧ W (i + 1) m' H') ∧ ∀ x H', J.yld i H x H' → g x (wipe σ vs) H' fun σ2 H2 => wipe σ2 vs = wipe σ vs ∧ tt σ2 H2 fun b H3 =>
        if b = true then te σ2 H3 fun y H4 => ∃ acc, H4 D = some (.lst acc) ∧ acc.length < sizeLine ∧ Nx (upd H4 D (.lst (acc ++ [y]))) else Nx H3) := by
  refine ⟨fun i m H => m = n - i ∧ i ≤ n ∧ Pv i H, ⟨n, by simp, Nat.zero_le _, h0⟩, ?_⟩
  rintro i m H ⟨rfl, hi, p⟩
  by_cases hlt : i < n
  · obtain ⟨g1, g2⟩ := hs i H hlt p
    exact .inr ⟨g1, Pv (i + 1), fun H' p' => ⟨n - (i + 1), by omega, rfl, hlt, p'⟩, g2⟩
  · have e : i = n := by omega
    subst e
    exact .inl (hd H p)
end L2
namespace KP
open PySem PySem.Spec PyProof.Rows L2
open Builtin.Int (intBits)
open KM (Is PlOk ShOk fp sp mp LandOk SOk)
local macro_rules | `(tactic| walk_at "kq") => `(tactic| simp [and_assoc, cxOf, tTest, tB, tAnd, tOr, tNot, tAndV, tOrV, tNotV, tChain, tFld, sFld, tCB, tOp, tUn, tVar, tC, rNe, rEq, rI, rI0, rU, tSeq, tNext, tAsg, gName, gCons, gNil, tRet, tIfS, scal, L2.start, tCall, tCons, tNil, tTup, tLst, rIxTH, rIxLH, rLenL, rMinT, rMaxT, rCat, rListT, tTupS, tLstS, rCatS, rListS, rTupS, atI, ixN, *])
abbrev s_are_whole_places : Stmt := top 48
theorem sc_are_whole_places : FnScope ["row"] ["row"] (defScope s_are_whole_places) := ⟨rfl, rfl, rfl, by decide +kernel, rfl, by decide +kernel, by decide +kernel⟩
@[simp] def sp_whole : Sp := fun vs H Q _ => ∃ p xs, vs = [.ref p] ∧ H p = some (.lst xs) ∧ Q (.bl (decide (xs.length % 4 = 0 ∧ 4 ≤ xs.length ∧ xs.length ≤ 12))) H
abbrev s_seeds_of : Stmt := top 49
theorem sc_seeds_of : FnScope ["row"] ["row"] (defScope s_seeds_of) := ⟨rfl, rfl, rfl, by decide +kernel, rfl, by decide +kernel, by decide +kernel⟩
def sp_seeds_of : Sp := fun vs H Q _ => ∃ p xs, vs = [.ref p] ∧ H p = some (.lst xs) ∧ xs.length ≤ 12 ∧ ∀ (t : Addr) (H' : Hp), Same H H' → H t = Option.none → H' t = some (.lst (stepV 4 xs)) → Q (.ref t) H'
abbrev s_worths_of : Stmt := top 50
theorem sc_worths_of : FnScope ["row", "at"] ["row"] (defScope s_worths_of) := ⟨rfl, rfl, rfl, by decide +kernel, rfl, by decide +kernel, by decide +kernel⟩
theorem bk_worths_of : BlkOk ["row", "at"] (defScope s_worths_of) { kind := .function, names := [(".0", .local), ("at", .local), ("tuple", .globalImplicit), ("NUMBERS_OF_A_PLACE", .globalImplicit), ("row", .free)], isGenerator := false, isCoroutine := false } [("at", 1)] :=
  ⟨rfl, by decide +kernel, by decide +kernel, by decide +kernel, by decide +kernel⟩
/-- the i-th place's three worths in the row -/
def wthOf {α : Type} (xs : List α) (i : Nat) : List α := (xs.drop (4 * i + 1)).take 3
def sp_worths_of : Sp := fun vs H Q _ => ∃ p xs k, vs = [.ref p] ∧ H p = some (.lst xs) ∧ xs.length = 4 * k ∧ 1 ≤ k ∧ k ≤ 3 ∧
  ∀ (D : Addr) (ws : List Addr) (H' : Hp), Same H H' → H D = Option.none → H' D = some (.lst (ws.map V.ref)) → ws.length = k → (∀ (i : Nat) (w : Addr), ws[i]? = some w → H' w = some (.tup (wthOf xs i))) → Q (.ref D) H'
section
variable {P : Program} {w : World} {K : PySem.W.Frag} {mg : Str → Option Value} {base : Heap} {C : Addr}
theorem ok_whole (F : FunIn K mg "are_whole_places" s_are_whole_places ["row"]) (nl : mg "len" = none) (g4 : GI mg "NUMBERS_OF_A_PLACE" 4) (g3 : GI mg "MOST_PLACES" 3) : CalOk P w K mg base 1 "are_whole_places" ["row"] sp_whole := by
  have nd := sc_are_whole_places.nd
  refine F.ok sc_are_whole_places (fun vs H Q E h => ?_) (fun f cdv A outer s H vs Q E hr h => ?_)
  · obtain ⟨p, xs, rfl, _⟩ := h
    rfl
  · obtain ⟨p, xs, rfl, hp, k⟩ := h
    refine ⟨_, (pss_one (ps_ret (pe_and (pe_cmpR op_eq (pe_op op_mod (pe_callB call_lenH (by rfl) nl PySem.boot_len (pa_cons (pv 0) pa_nil)) (pe_gi g4)) pe_int (nomark _)) (pe_one (pe_chain op_le op_le pe_int (pe_op op_fdivB (pe_callB call_lenH (by rfl) nl PySem.boot_len (pa_cons (pv 0) pa_nil)) (pe_gi g4)) (pe_gi g3)))))), ?_⟩
    have fin : ∀ q : Bool, q = decide (xs.length % 4 = 0 ∧ 4 ≤ xs.length ∧ xs.length ≤ 12) → Q (V.bl q) H := fun q hq => by rw [hq]; exact k
    walk_at "kq"
    split
    · refine ⟨by decide +kernel, ?_⟩
      split
      · refine fin _ ?_
        rw [Bool.eq_iff_iff]
        simp
        omega
      · refine fin _ ?_
        rw [Bool.eq_iff_iff]
        simp
        omega
    · refine fin _ ?_
      rw [Bool.eq_iff_iff]
      simp
      omega
theorem ok_seeds_of (F : FunIn K mg "seeds_of" s_seeds_of ["row"]) (g4 : GI mg "NUMBERS_OF_A_PLACE" 4) : CalOk P w K mg base 1 "seeds_of" ["row"] sp_seeds_of := by
  have nd := sc_seeds_of.nd
  refine F.ok sc_seeds_of (fun vs H Q E h => ?_) (fun f cdv A outer s H vs Q E hr h => ?_)
  · obtain ⟨p, xs, rfl, _⟩ := h
    rfl
  · obtain ⟨p, xs, rfl, hp, hl, k⟩ := h
    refine ⟨_, (pss_one (ps_ret (pe_sliceStep (pv 0) (pe_gi g4)))), ?_⟩
    refine ⟨_, rfl, p, xs, 4, rfl, rfl, by decide, SqL.of hp, ?_, fun t ht => k t _ (Same.new ht) ht upd_same⟩
    unfold stepV
    refine Nat.le_trans (List.length_filterMap_le _ _) ?_
    unfold sliceRange
    simp only [List.length_map, List.length_range]
    rw [sizeLine_eq]
    split <;> split <;> omega
theorem ok_worths_of (F : FunIn K mg "worths_of" s_worths_of ["row"]) (nl : mg "len" = none) (nr : mg "range" = none) (nt : mg "tuple" = none) (g4 : GI mg "NUMBERS_OF_A_PLACE" 4) : CalOk P w K mg base 1 "worths_of" ["row"] sp_worths_of := by
  have nd := sc_worths_of.nd
  refine F.ok sc_worths_of (fun vs H Q E h => ?_) (fun f cdv A outer s H vs Q E hr h => ?_)
  · obtain ⟨p, xs, k, rfl, _⟩ := h
    rfl
  · obtain ⟨p, xs, n, rfl, hp, hl, n1, n3, k⟩ := h
    refine ⟨_, (pss_one (ps_ret (pe_lc (own := [("at", 1)]) rfl nd (pi_range3 rfl nr (pa_cons pe_int (pa_cons (pe_callB call_lenH (by rfl) nl PySem.boot_len (pa_cons (pv 0) pa_nil)) (pa_cons (pe_gi g4) pa_nil)))) bk_worths_of (fun _ _ _ _ _ => (pg_name (i := 1) nd rfl (Or.inl rfl))) (fun _ _ _ _ _ => pts_nil)
      (fun _ _ _ _ _ => (pe_callTy call_tupS (by rfl) nt boot_tupleK (pa_cons (pe_slice sl_listH (pv 0) (po_some (pe_op op_add (pv 1) pe_int)) (po_some (pe_op op_add (pv 1) (pe_gi g4)))) pa_nil)))))), ?_⟩
    have hR : RgC 0 (xs.length : Int) 4 n := by
      rw [hl]
      match n, n1, n3 with
      | 1, _, _ => exact ⟨by decide, by decide, by decide +kernel, by decide +kernel⟩
      | 2, _, _ => exact ⟨by decide, by decide, by decide +kernel, by decide +kernel⟩
      | 3, _, _ => exact ⟨by decide, by decide, by decide +kernel, by decide +kernel⟩
    refine ⟨_, rfl, p, _, rfl, hp, 0, _, 4, n, rfl, hR, fun D hD => lc_by (n := n) (fun i H' => Same H H' ∧ ∃ ws : List Addr, H' D = some (.lst (ws.map V.ref)) ∧ ws.length = i ∧ ∀ (j : Nat) (w : Addr), ws[j]? = some w → H' w = some (.tup (wthOf xs j))) ?_ ?_ ?_⟩
    · exact ⟨Same.new hD, [], upd_same, rfl, fun j w q => by simp at q⟩
    · rintro H' ⟨e, ws, h1, h2, h3⟩
      exact ⟨Nat.le_refl _, k D ws H' e hD h1 h2 h3⟩
    · rintro i H' hi ⟨e, ws, h1, h2, h3⟩
      refine ⟨hi, ?_⟩
      rintro x H2 ⟨rfl, rfl⟩
      refine ⟨rfl, ?_⟩
      have hp2 := e _ _ hp
      simp [tYes, tSl, tPart, rSlLH, wipe, tCB, rTupS, tCons, tNil, tVar, tOp, rI0, tC, L2.start, hp2]
      intro q H3 e3 n3' h3'
      have c1 : (i : Int) * 4 + 1 = ((4 * i + 1 : Nat) : Int) := by omega
      have c2 : (i : Int) * 4 + 4 = ((4 * i + 1 + 3 : Nat) : Int) := by omega
      rw [c1, c2, cutV_nat (by omega) (by omega), Nat.add_sub_cancel_left] at h3'
      refine ⟨_, h3', fun l H4 e4 n4 h4 => ⟨ws.map V.ref, e4 _ _ (e3 _ _ h1), ?_, ?_, ws ++ [l], ?_, ?_, ?_⟩⟩
      · rw [List.length_map, h2, sizeLine_eq]; omega
      · intro b o hb
        have nb : b ≠ D := fun z => by rw [z, hD] at hb; cases hb
        rw [upd_ne nb]
        exact ((e.trans e3).trans e4) _ _ hb
      · rw [upd_same, List.map_append]; rfl
      · rw [List.length_append, h2]; rfl
      · intro j v hj
        have hD4 := e4 _ _ (e3 _ _ h1)
        have key : H4 v = some (.tup (wthOf xs j)) := by
          by_cases hji : j < ws.length
          · rw [List.getElem?_append_left hji] at hj
            exact e4 _ _ (e3 _ _ (h3 j v hj))
          · have ej : j = ws.length := by
              have := (List.getElem?_eq_some_iff.mp hj).1
              rw [List.length_append, List.length_cons, List.length_nil] at this
              omega
            rw [ej, List.getElem?_append_right (Nat.le_refl _), Nat.sub_self] at hj
            have ev : l = v := Option.some.inj hj
            rw [← ev, ej, h2]
            exact h4
        have nv : v ≠ D := fun z => by rw [z, hD4] at key; cases key
        rw [upd_ne nv]
        exact key
end
end KP

end

section
set_option Elab.async false
set_option linter.all false
set_option maxRecDepth 100000
set_option maxHeartbeats 2000000
set_option exponentiation.threshold 100000
namespace KP
open PySem PySem.Spec PyProof.Rows L2
open Builtin.Int (intBits)
open KM (Is PlOk ShOk fp sp mp LandOk SOk)
/-- a def of the table: the field, the numbers -/
def sp_do (C : Addr) (p : Int) : Sp := fun vs H Q _ => ∃ a sl wl nl s args, vs = [.ref a, .ref nl] ∧ FieldAt C H a sl wl s ∧ SOk s ∧ (p = 0 ∨ ∃ l, s = some l) ∧ H nl = some (.lst (args.map V.int)) ∧ nl ≠ a ∧ nl ≠ sl ∧ nl ≠ wl ∧ (∀ x ∈ args, 0 ≤ x) ∧ PyFlat.okCall PyKqp6.shape (callC p args) ∧
  ∀ (H' : Hp) (sl' wl' t : Addr), FieldAt C H' a sl' wl' (Kqp6Neutral.step s (callC p args)).1 → Chg H H' a sl wl sl' wl' → H t = Option.none → H' t = some (.lst ((Kqp6Neutral.step s (callC p args)).2.map V.int)) → Q (.ref t) H'
theorem Chg.same {H H' : Hp} {a sl wl : Addr} (e : Same H H') : Chg H H' a sl wl sl wl := ⟨fun b o hb _ _ _ => e b o hb, .inl rfl, .inl rfl⟩
theorem places_get : ∀ (i : Nat) (xs : List Int) (k : Nat), xs.length = 4 * k → i < k →
    ∃ s a b c, xs.drop (4 * i) = s :: a :: b :: c :: xs.drop (4 * i + 4) ∧ (Kqp6.places (xs.map Int.toNat))[i]? = some ⟨s.toNat, a.toNat, b.toNat, c.toNat⟩
  | 0, s :: a :: b :: c :: r, k, _, _ => ⟨s, a, b, c, rfl, rfl⟩
  | i + 1, s :: a :: b :: c :: r, k, h, hi => by
    obtain ⟨s', a', b', c', h1, h2⟩ := places_get i r (k - 1) (by simp only [List.length_cons] at h; omega) (by omega)
    refine ⟨s', a', b', c', ?_, h2⟩
    have e1 : 4 * (i + 1) = 4 * i + 4 := by omega
    have e2 : 4 * (i + 1) + 4 = (4 * i + 4) + 4 := by omega
    rw [e2, e1]
    exact h1
  | _, [], k, h, hi => by simp at h; omega
  | _, [_], k, h, hi => by simp at h; omega
  | _, [_, _], k, h, hi => by simp at h; omega
  | _, [_, _, _], k, h, hi => by simp at h; omega
theorem wth_get {xs : List Int} {k i : Nat} (h : xs.length = 4 * k) (hi : i < k) (hp : ∀ x ∈ xs, 0 ≤ x) : ∃ x, (Kqp6.places (xs.map Int.toNat))[i]? = some x ∧ HO.tup (wthOf (xs.map V.int) i) = tupP x := by
  obtain ⟨s, a, b, c, h1, h2⟩ := places_get i xs k h hi
  refine ⟨_, h2, ?_⟩
  have m : ∀ y, y ∈ s :: a :: b :: c :: xs.drop (4 * i + 4) → 0 ≤ y := fun y hy => hp y (List.mem_of_mem_drop (h1 ▸ hy))
  have ha := m a (by simp)
  have hb := m b (by simp)
  have hc := m c (by simp)
  unfold tupP wthOf
  rw [← List.map_drop, ← List.drop_drop, h1]
  show HO.tup [V.int a, V.int b, V.int c] = _
  rw [show ((a.toNat : Nat) : Int) = a by omega, show ((b.toNat : Nat) : Int) = b by omega, show ((c.toNat : Nat) : Int) = c by omega]
theorem step4 {α : Type} (a1 a2 a3 a4 : α) : stepV 4 [a1, a2, a3, a4] = [a1] := by
  show (sliceRange 0 4 4).filterMap _ = _
  rw [show sliceRange 0 4 4 = [0] by decide +kernel]; rfl
theorem step8 {α : Type} (a1 a2 a3 a4 b1 b2 b3 b4 : α) : stepV 4 [a1, a2, a3, a4, b1, b2, b3, b4] = [a1, b1] := by
  show (sliceRange 0 8 4).filterMap _ = _
  rw [show sliceRange 0 8 4 = [0, 4] by decide +kernel]; rfl
theorem step12 {α : Type} (a1 a2 a3 a4 b1 b2 b3 b4 c1 c2 c3 c4 : α) : stepV 4 [a1, a2, a3, a4, b1, b2, b3, b4, c1, c2, c3, c4] = [a1, b1, c1] := by
  show (sliceRange 0 12 4).filterMap _ = _
  rw [show sliceRange 0 12 4 = [0, 4, 8] by decide +kernel]; rfl
theorem step_get {xs : List Int} {k : Nat} (h : xs.length = 4 * k) (h1 : 1 ≤ k) (h3 : k ≤ 3) (hp : ∀ x ∈ xs, 0 ≤ x) : stepV 4 (xs.map V.int) = ((Kqp6.places (xs.map Int.toNat)).map fun x => V.int (x.seeds : Int)) := by
  have c : ∀ y, y ∈ xs → V.int y = V.int ((y.toNat : Nat) : Int) := fun y hy => by rw [Int.toNat_of_nonneg (hp y hy)]
  match k, h1, h3, h with
  | 1, _, _, h =>
    match xs, h with
    | [a1, a2, a3, a4], _ =>
      simp only [List.map_cons, List.map_nil, step4, Kqp6.places]
      rw [c a1 (by simp)]
  | 2, _, _, h =>
    match xs, h with
    | [a1, a2, a3, a4, b1, b2, b3, b4], _ =>
      simp only [List.map_cons, List.map_nil, step8, Kqp6.places]
      rw [c a1 (by simp), c b1 (by simp)]
  | 3, _, _, h =>
    match xs, h with
    | [a1, a2, a3, a4, b1, b2, b3, b4, c1, c2, c3, c4], _ =>
      simp only [List.map_cons, List.map_nil, step12, Kqp6.places]
      rw [c a1 (by simp), c b1 (by simp), c c1 (by simp)]
theorem sum_ints (pls : List Kqp6.Place) : (pls.map fun x => (x.seeds : Int)).sum = (KM.sumS pls : Int) := by
  induction pls with
  | nil => rfl
  | cons x r ih => rw [List.map_cons, List.sum_cons, ih, KM.sumS_cons]; omega
abbrev s_start : Stmt := top 51
theorem sc_start : FnScope ["field", "row", "seeds", "worths", "worths_here"] ["field", "row"] (defScope s_start) := ⟨rfl, rfl, rfl, by decide +kernel, rfl, by decide +kernel, by decide +kernel⟩
theorem bk_start : BlkOk ["field", "row", "seeds", "worths", "worths_here"] (defScope s_start) { kind := .function, names := [(".0", .local), ("worths_here", .local), ("are_worths", .globalImplicit)], isGenerator := false, isCoroutine := false } [("worths_here", 4)] :=
  ⟨rfl, by decide +kernel, by decide +kernel, by decide +kernel, by decide +kernel⟩
@[simp] theorem put_seeds (sl wl sh x : Addr) : putF "seeds" (.ref x) (flds sl wl sh) = flds x wl sh := rfl
@[simp] theorem put_worths (sl wl sh x : Addr) : putF "worths" (.ref x) (flds sl wl sh) = flds sl x sh := rfl
@[simp] theorem put_share (sl wl sh x : Addr) : putF "share" (.ref x) (flds sl wl sh) = flds sl wl x := rfl
def okW (x : Kqp6.Place) : Bool := Kqp6.okWorths x.first x.mixed x.second
theorem boot_allK : bootBuiltins "all" = some (.builtin "all") := by decide +kernel
theorem boot_sumK : bootBuiltins "sum" = some (.builtin "sum") := by decide +kernel
section
variable {P : Program} {w : World} {K : PySem.W.Frag} {mg : Str → Option Value} {base : Heap} {C : Addr}
theorem ok_start (F : FunIn K mg "start" s_start ["field", "row"]) (T : FC K C) (nl : mg "len" = none) (na : mg "all" = none) (ns : mg "sum" = none) (g22 : GI mg "NOT_AS_TOLD" (-22)) (g100 : GI mg "ALL_SEEDS" 100)
    (c_whole : CalOk P w K mg base 1 "are_whole_places" ["row"] sp_whole) (c_seeds_of : CalOk P w K mg base 1 "seeds_of" ["row"] sp_seeds_of) (c_worths_of : CalOk P w K mg base 1 "worths_of" ["row"] sp_worths_of)
    (c_are_worths : CalOk P w K mg base 1 "are_worths" ["numbers"] sp_are_worths) : CalOk P w K mg base 2 "start" ["field", "row"] (sp_do C 0) := by
  have nd := sc_start.nd
  refine F.ok sc_start (fun vs H Q E h => ?_) (fun f cdv A outer s H vs Q E hr h => ?_)
  · obtain ⟨a, sl, wl, nl, s, args, rfl, _⟩ := h
    rfl
  · obtain ⟨a, sl, wl, r, st, args, rfl, hF, S, _, hr', n1, n2, n3, hpos, okc, k⟩ := h
    refine ⟨_, (pss_cons (ps_if (pt_not (pt_val (pe_own c_whole (hr.mono (by decide)) rfl (pa_cons (pv 1) pa_nil)))) (pss_one (ps_ret (pe_lstS (pa_cons (pe_gi g22) pa_nil)))) pss_nil)
      (pss_cons (ps_set (i := 2) nd rfl (Or.inl rfl) (pe_own c_seeds_of (hr.mono (by decide)) rfl (pa_cons (pv 1) pa_nil)))
      (pss_cons (ps_set (i := 3) nd rfl (Or.inl rfl) (pe_own c_worths_of (hr.mono (by decide)) rfl (pa_cons (pv 1) pa_nil)))
      (pss_cons (ps_if (PW.pt (pw_or (pt_not (pt_val (pe_callB (cr_all rfl) (by rfl) na boot_allK (pa_cons (pe_lc (own := [("worths_here", 4)]) rfl nd (pi_list (pv 3)) bk_start (fun _ _ _ _ _ => (pg_name (i := 4) nd rfl (Or.inl rfl))) (fun _ _ _ _ _ => pts_nil) (fun _ _ _ _ _ => (pe_own c_are_worths (hr.mono (by decide)) rfl (pa_cons (pv 4) pa_nil)))) pa_nil)))) (pw_or1 (pt_cmpR op_ne (pe_callB (cr_sum rfl) (by rfl) ns boot_sumK (pa_cons (pv 2) pa_nil)) (pe_gi g100) (nomark _))))) (pss_one (ps_ret (pe_lstS (pa_cons (pe_gi g22) pa_nil)))) pss_nil)
      (pss_cons (ps_fld (pv 0) (pv 2) rfl)
      (pss_cons (ps_fld (pv 0) (pv 3) rfl)
      (pss_cons (ps_fld (pv 0) (pe_tupS (pa_cons pe_int (pa_cons pe_int pa_nil))) rfl)
      (pss_one (ps_ret (pe_lstS (pa_cons (pe_callB call_lenH (by rfl) nl PySem.boot_len (pa_cons (pv 2) pa_nil)) pa_nil))))))))))), ?_⟩
    have hst : Kqp6Neutral.step st (callC 0 args) = if Kqp6.okPlaces (args.map Int.toNat) = false then (st, [-22]) else (some ⟨Kqp6.places (args.map Int.toNat), Kqp6.zero⟩, [((Kqp6.places (args.map Int.toNat)).length : Int)]) := by
      show (let r := Kqp6.step st (.start (args.map Kqp6Neutral.n)); (r.1, Kqp6Neutral.tell r.2)) = _
      have e : (Kqp6.step st (.start (args.map Kqp6Neutral.n))) = if Kqp6.okPlaces (args.map Kqp6Neutral.n) = false then (st, Kqp6.Ans.num (-22)) else (some ⟨Kqp6.places (args.map Kqp6Neutral.n), Kqp6.zero⟩, .num (Kqp6.places (args.map Kqp6Neutral.n)).length) := by cases st <;> rfl
      rw [e]
      show _ = if Kqp6.okPlaces (args.map Kqp6Neutral.n) = false then _ else _
      split <;> rfl
    rw [hst] at k
    refine ⟨_, rfl, r, _, rfl, hr', _, rfl, ?_⟩
    rw [List.length_map]
    by_cases hw : args.length % 4 = 0 ∧ 4 ≤ args.length ∧ args.length ≤ 12
    · rw [decide_eq_true hw]
      refine iteF ?_
      obtain ⟨k3, hk⟩ : ∃ k3, args.length = 4 * k3 := ⟨args.length / 4, by omega⟩
      have k1 : 1 ≤ k3 := by omega
      have k3' : k3 ≤ 3 := by omega
      have hpl := KM.places_len (args.map Int.toNat)
      rw [List.length_map, hk, Nat.mul_div_cancel_left _ (by decide : 0 < 4)] at hpl
      -- seeds = seeds_of(row)
      refine ⟨_, rfl, r, _, rfl, hr', (by rw [List.length_map]; exact hw.2.2), fun t1 H1 e1 m1 h1 => ?_⟩
      rw [step_get hk k1 k3' hpos] at h1
      -- worths = worths_of(row)
      refine ⟨_, rfl, r, _, k3, rfl, e1 _ _ hr', (by rw [List.length_map]; exact hk), k1, k3', fun t2 ws H2 e2 m2 h2 hws hwt => ?_⟩
      have W2 : WsAt H2 ws (Kqp6.places (args.map Int.toNat)) := by
        refine ⟨by rw [hws, hpl], fun i v x hv hx => ?_⟩
        have hi : i < k3 := by rw [← hws]; exact (List.getElem?_eq_some_iff.mp hv).1
        obtain ⟨y, hy, e⟩ := wth_get hk hi hpos
        rw [hx] at hy
        rw [hwt i v hv, e, Option.some.inj hy]
      generalize hP : Kqp6.places (args.map Int.toNat) = pls at *
      have e12 := e1.trans e2
      obtain ⟨⟨dx, sh, f1⟩, ⟨_, f2⟩, ⟨_, f3⟩⟩ := FieldAt.there hF
      have bad : Kqp6.okPlaces (args.map Int.toNat) = (pls.all okW && (KM.sumS pls == 100)) := by
        unfold Kqp6.okPlaces
        rw [List.length_map, decide_eq_true hw.1, decide_eq_true hw.2.1, decide_eq_true hw.2.2, hP]
        rfl
      -- not all([are_worths(worths_here) for worths_here in worths])
      refine ⟨_, rfl, t2, rfl, ⟨_, SqL.of h2⟩, fun D hD => ?_⟩
      refine lc_by (n := k3) (fun i H' => Same H2 H' ∧ H' D = some (.lst ((pls.take i).map fun x => V.bl (okW x)))) ?_ ?_ ?_
      · exact ⟨Same.new hD, upd_same⟩
      · rintro H3 ⟨e3, h3⟩
        rw [List.take_of_length_le (by omega)] at h3
        refine ⟨⟨_, SqL.of (e3 _ _ h2), by rw [List.length_map, hws]; exact Nat.le_refl _⟩, D, pls.map okW, rfl, SqL.of (by rw [List.map_map]; exact h3), _, rfl, ?_⟩
        have e13 := e12.trans e3
        have hall : (pls.map okW).all id = pls.all okW := by rw [List.all_map]; rfl
        rw [hall]
        cases hb : pls.all okW with
        | false =>
          refine iteT (iteT ⟨by decide, fun t H4 e4 m4 h4 => ?_⟩)
          rw [hb] at bad
          rw [if_pos (by rw [bad]; rfl)] at k
          exact k H4 sl wl t (FieldAt.same (e13.trans e4) hF) (Chg.same (e13.trans e4)) (e13.free m4) h4
        | true =>
          rw [hb] at bad
          refine iteF ?_
          refine ⟨_, rfl, t1, pls.map fun x => (x.seeds : Int), rfl, SqL.of (by rw [List.map_map]; exact e3 _ _ (e2 _ _ h1)), ?_⟩
          rw [sum_ints]
          refine ⟨rfl, _, rfl, ?_⟩
          by_cases hs : KM.sumS pls = 100
          · have hs' : decide (V.int (KM.sumS pls : Int) = V.int 100) = true := by rw [hs]; rfl
            rw [hs']
            refine iteF ?_
            rw [if_neg (by rw [bad, hs]; decide)] at k
            -- field.seeds = seeds; field.worths = worths; field.share = (0, 1)
            have a3 := e13 _ _ f1
            refine ⟨_, rfl, _, rfl, a, C, dx, _, rfl, a3, T.cl, T.n1, (by show 3 < 1000; decide), ?_⟩
            rw [put_seeds]
            refine ⟨_, rfl, _, rfl, a, C, dx, _, rfl, upd_same, T.cl, T.n2, (by show 3 < 1000; decide), ?_⟩
            rw [put_worths, upd_upd]
            refine ⟨by decide, fun q H5 e5 m5 h5 => ⟨_, rfl, a, C, dx, _, rfl, e5 _ _ upd_same, T.cl, T.n3, (by show 3 < 1000; decide), ?_⟩⟩
            rw [put_share]
            have qa : q ≠ a := fun z => by rw [z, upd_same] at m5; cases m5
            have old : ∀ b o, H3 b = some o → b ≠ a → upd H5 a (.ins C dx (flds t1 t2 q)) b = some o := fun b o hb' nb => by
              rw [upd_ne nb]
              refine e5 _ _ ?_
              rw [upd_ne nb]; exact hb'
            have ta : t1 ≠ a := fun z => by rw [z, f1] at m1; cases m1
            have tb : t2 ≠ a := fun z => by rw [z, e1 _ _ f1] at m2; cases m2
            have t13 := e3 _ _ (e2 _ _ h1)
            have t23 := e3 _ _ h2
            have W3 := W2.same e3
            -- return [len(seeds)]
            refine ⟨_, rfl, t1, _, rfl, old _ _ t13 ta, (by show 1 ≤ sizeLine; decide), fun t H6 e6 m6 h6 => ?_⟩
            have nt : H t = Option.none := by
              cases z : H t with
              | none => rfl
              | some o =>
                by_cases za : t = a
                · rw [za, upd_same] at m6; cases m6
                · rw [old _ _ (e13 _ _ z) za] at m6; cases m6
            refine k H6 t1 t2 t ⟨q, ⟨dx, e6 _ _ upd_same⟩, e6 _ _ (old _ _ t13 ta), e6 _ _ ?_, ws, e6 _ _ (old _ _ t23 tb), ?_⟩ ⟨fun b o hb' nb _ _ => e6 _ _ (old _ _ (e13 _ _ hb') nb), .inr m1, .inr (e1.free m2)⟩ nt ?_
            · rw [upd_ne qa]; exact h5
            · refine ⟨W3.len, fun i v x p1 p2 => e6 _ _ (old _ _ (W3.at_ i v x p1 p2) ?_)⟩
              intro z
              have z1 := W3.at_ i v x p1 p2
              rw [z, a3] at z1; cases z1
            · rw [h6, List.length_map]; rfl
          · have hs' : decide (V.int (KM.sumS pls : Int) = V.int 100) = false := decide_eq_false fun z => hs (by have := V.int.inj z; omega)
            rw [hs']
            refine iteT ⟨by decide, fun t H4 e4 m4 h4 => ?_⟩
            rw [if_pos (by rw [bad]; simpa using hs)] at k
            exact k H4 sl wl t (FieldAt.same (e13.trans e4) hF) (Chg.same (e13.trans e4)) (e13.free m4) h4
      · rintro i H3 hi ⟨e3, h3⟩
        have hv : ws[i]? = some ws[i] := List.getElem?_eq_getElem (by omega)
        obtain ⟨x, hx⟩ : ∃ x, pls[i]? = some x := ⟨_, List.getElem?_eq_getElem (by omega)⟩
        have hm : (ws.map V.ref)[i]? = some (V.ref ws[i]) := by rw [List.getElem?_map, hv]; rfl
        refine ⟨⟨_, _, SqL.of (e3 _ _ h2), hm⟩, ?_⟩
        rintro y H4 ⟨rfl, hy⟩
        have ey : V.ref ws[i] = y := Option.some.inj (hm.symm.trans (hy _ (SqL.of (e3 _ _ h2))))
        subst ey
        refine ⟨rfl, ⟨_, rfl, ws[i], _, _, _, rfl, e3 _ _ (W2.at_ i _ x hv hx), by omega, by omega, by omega, ?_⟩⟩
        refine ⟨_, h3, by rw [List.length_map, List.length_take, sizeLine_eq]; omega, fun b o hb => ?_, ?_⟩
        · have nb : b ≠ D := fun z => by rw [z, hD] at hb; cases hb
          rw [upd_ne nb]; exact e3 _ _ hb
        · rw [upd_same, List.take_add_one, hx, List.map_append]
          rfl
    · rw [decide_eq_false hw]
      refine iteT ⟨by decide, fun t H1 e1 m1 h1 => ?_⟩
      have hno : Kqp6.okPlaces (args.map Int.toNat) = false := by
        cases q : Kqp6.okPlaces (args.map Int.toNat) with
        | false => rfl
        | true =>
          exfalso
          unfold Kqp6.okPlaces at q
          simp only [Bool.and_eq_true, decide_eq_true_eq, List.length_map] at q
          exact hw ⟨q.1.1.1.1, q.1.1.1.2, q.1.1.2⟩
      rw [if_pos hno] at k
      exact k H1 sl wl t (FieldAt.same e1 hF) (Chg.same e1) m1 h1
end
end KP

end

section
set_option Elab.async false
set_option linter.all false
set_option maxRecDepth 100000
set_option maxHeartbeats 2000000
set_option exponentiation.threshold 100000
namespace L2
open PySem PySem.Spec PyProof.Rows
theorem CalOk.imp {P : Program} {w : World} {K : PySem.W.Frag} {mg : Str → Option Value} {base : Heap} {k : Nat} {x : Str} {ps : List Str} {sp sp' : Sp} (h : CalOk P w K mg base k x ps sp) (i : ∀ vs H Q E, sp' vs H Q E → sp vs H Q E) : CalOk P w K mg base k x ps sp' := by
  obtain ⟨f, fd, F, h1, h2, h3⟩ := h
  exact ⟨f, fd, F.imp i, h1, h2, h3⟩
theorem CalOk.mono {P : Program} {w : World} {K : PySem.W.Frag} {mg : Str → Option Value} {base : Heap} {j k : Nat} {x : Str} {ps : List Str} {sp : Sp} (h : CalOk P w K mg base j x ps sp) (i : j ≤ k) : CalOk P w K mg base k x ps sp := by
  obtain ⟨f, fd, F, h1, h2, h3⟩ := h
  exact ⟨f, fd, F.mono i, h1, h2, h3⟩
end L2
namespace KP
open PySem PySem.Spec PyProof.Rows L2
open Builtin.Int (intBits)
open KM (Is PlOk ShOk fp sp mp LandOk SOk)
/-- [0] and a new tuple's numbers: a new list -/
theorem do_of_ro {C : Addr} {p n : Nat} {ans : Kqp6.Land → List Int → List Int} (hp : 1 ≤ p) (hn : KM.cnt[p]? = some n)
    (hs : ∀ l args, args.length = n → LandOk l → (∀ x ∈ args, 0 ≤ x) → Kqp6Neutral.step (some l) [(p : Int) :: args] = (some l, ans l args)) : ∀ vs H Q E, sp_do C (p : Int) vs H Q E → sp_ro C n ans vs H Q E := by
  rintro vs H Q E ⟨a, sl, wl, nl, s, args, rfl, hF, S, hsome, hnl, m1, m2, m3, hpos, okc, k⟩
  have hp0 : ¬ (p : Int) = 0 := by omega
  obtain ⟨l, rfl⟩ : ∃ l, s = some l := hsome.resolve_left hp0
  obtain ⟨sh, hL⟩ := hF
  have hc : callC (p : Int) args = [(p : Int) :: args] := if_neg hp0
  have hlen : args.length = n := by
    rw [hc] at okc
    rcases KM.forms okc with ⟨r, e⟩ | ⟨q, a', e, h1, h2, h3⟩
    · exact absurd (List.cons.inj (List.cons.inj e).1).1 (by omega)
    · obtain ⟨e1, e2⟩ := List.cons.inj (List.cons.inj e).1
      have : p = q := by omega
      subst this
      rw [hn] at h3
      rw [e2]; exact (Option.some.inj h3).symm
  have L := S l rfl
  refine ⟨a, sl, wl, sh, nl, l, args, rfl, hL, L, hnl, hlen, hpos, fun H' t e nt ht => ?_⟩
  rw [hc, hs l args hlen L hpos] at k
  exact k H' sl wl t ⟨sh, hL.same e⟩ (Chg.same e) nt ht
abbrev s_tell_kinds : Stmt := top 57
theorem sc_tell_kinds : FnScope ["field", "numbers", "worths"] ["field", "numbers"] (defScope s_tell_kinds) := ⟨rfl, rfl, rfl, by decide +kernel, rfl, by decide +kernel, by decide +kernel⟩
abbrev s_tell_after : Stmt := top 59
theorem sc_tell_after : FnScope ["field", "numbers"] ["field", "numbers"] (defScope s_tell_after) := ⟨rfl, rfl, rfl, by decide +kernel, rfl, by decide +kernel, by decide +kernel⟩
def stepAns (p : Int) : Kqp6.Land → List Int → List Int := fun l args => (Kqp6Neutral.step (some l) [p :: args]).2
section
variable {P : Program} {w : World} {K : PySem.W.Frag} {mg : Str → Option Value} {base : Heap} {C : Addr}
theorem ok_tell_after (F : FunIn K mg "tell_after" s_tell_after ["field", "numbers"]) (T : FC K C) (nl : mg "list" = none) (g2 : GI mg "MOST_GENERATIONS" 2) (g22 : GI mg "NOT_AS_TOLD" (-22)) (c_share_after : CalOk P w K mg base 6 "share_after" ["share", "seeds", "worths", "generations"] sp_share_after) :
    CalOk P w K mg base 7 "tell_after" ["field", "numbers"] (sp_ro C 1 (stepAns 8)) := by
  have nd := sc_tell_after.nd
  refine F.ok sc_tell_after (fun vs H Q E h => ?_) (fun f cdv A outer s H vs Q E hr h => ?_)
  · obtain ⟨a, sl, wl, sh, nl, l, args, rfl, _⟩ := h
    rfl
  · obtain ⟨a, sl, wl, sh, nl', l, args, rfl, hL, L, hn, hlen, hpos, k⟩ := h
    obtain ⟨i, rfl⟩ := List.length_eq_one_iff.mp hlen
    have hi := hpos i (by simp)
    simp only [List.map_cons, List.map_nil] at hn
    refine ⟨_, (pss_cons (ps_if (pt_cmpR op_gt (pe_ix ix_listH (pv 1) pe_int (fun _ _ => rfl)) (pe_gi g2) (nomark _)) (pss_one (ps_ret (pe_lstS (pa_cons (pe_gi g22) pa_nil)))) pss_nil)
      (pss_one (ps_ret (pe_op op_catS (pe_lstS (pa_cons pe_int pa_nil)) (pe_callTy call_listS (by rfl) nl boot_listK (pa_cons (pe_own c_share_after (hr.mono (by decide)) rfl (pa_cons (pe_fld (pv 0) rfl) (pa_cons (pe_fld (pv 0) rfl) (pa_cons (pe_fld (pv 0) rfl) (pa_cons (pe_ix ix_listH (pv 1) pe_int (fun _ _ => rfl)) pa_nil))))) pa_nil)))))), ?_⟩
    refine ⟨_, rfl, _, _, _, _, rfl, rfl, hn, rfl, _, _, rfl, rfl, _, rfl, ?_⟩
    have hst : stepAns 8 l [i] = if 2 < i.toNat then [-22] else [0, (Kqp6.after l i.toNat l.share).num, ((Kqp6.after l i.toNat l.share).den : Int)] := by
      show Kqp6Neutral.tell (if 2 < i.toNat then _ else _) = _
      split <;> rfl
    rw [hst] at k
    by_cases h2 : 2 < i
    · rw [decide_eq_true h2]
      rw [if_pos (by omega)] at k
      exact iteT ⟨by decide, fun t H1 e1 n1 h1 => k H1 t e1 n1 h1⟩
    · rw [decide_eq_false h2]
      rw [if_neg (by omega), gen_after l l.share (by omega)] at k
      refine iteF ?_
      refine ⟨by decide, fun q H1 e1 n1 h1 => ?_⟩
      have L1 := hL.same e1
      obtain ⟨dx, i1⟩ := L1.ins
      obtain ⟨ws, i2, W⟩ := L1.worths
      refine ⟨_, rfl, a, C, dx, _, _, rfl, i1, T.cl, T.n3, flds_share .., _, rfl, a, C, dx, _, _, rfl, i1, T.cl, T.n1, flds_seeds .., _, rfl, a, C, dx, _, _, rfl, i1, T.cl, T.n2, flds_worths .., _, rfl, _, _, _, _, rfl, rfl, e1 _ _ hn, rfl, ?_⟩
      refine ⟨sh, sl, wl, l.share, l.places, ws, i, rfl, L1.share, L1.seeds, i2, W, land_pls L, land_fr L, hi, by omega, fun H2 t e2 h2 => ?_⟩
      refine ⟨t, _, rfl, h2, fun r H3 e3 n3 h3 => ⟨q, r, _, _, rfl, rfl, e3 _ _ (e2 _ _ h1), h3, by show 3 ≤ sizeLine; decide, fun v H4 e4 n4 h4 => k H4 v (((e1.trans e2).trans e3).trans e4) (((e1.trans e2).trans e3).free n4) h4⟩⟩
end
end KP

end

section
set_option Elab.async false
set_option linter.all false
set_option maxRecDepth 100000
set_option maxHeartbeats 2000000
set_option exponentiation.threshold 100000
namespace KP
open PySem PySem.Spec PyProof.Rows L2
open Builtin.Int (intBits)
open KM (Is PlOk ShOk fp sp mp LandOk SOk)
/-- a call that may change the field -/
def sp_mu (C : Addr) (p : Int) (n : Nat) : Sp := fun vs H Q _ => ∃ a sl wl sh nl l args, vs = [.ref a, .ref nl] ∧ LandAt C H a sl wl sh l ∧ LandOk l ∧ H nl = some (.lst (args.map V.int)) ∧ nl ≠ a ∧ nl ≠ sl ∧ nl ≠ wl ∧ args.length = n ∧ (∀ x ∈ args, 0 ≤ x) ∧
  ∀ (H' : Hp) (sl' wl' t : Addr), FieldAt C H' a sl' wl' (Kqp6Neutral.step (some l) [p :: args]).1 → Chg H H' a sl wl sl' wl' → H t = Option.none → H' t = some (.lst ((Kqp6Neutral.step (some l) [p :: args]).2.map V.int)) → Q (.ref t) H'
theorem do_of_mu {C : Addr} {p n : Nat} (hp : 1 ≤ p) (hn : KM.cnt[p]? = some n) : ∀ vs H Q E, sp_do C (p : Int) vs H Q E → sp_mu C (p : Int) n vs H Q E := by
  rintro vs H Q E ⟨a, sl, wl, nl, s, args, rfl, hF, S, hsome, hnl, m1, m2, m3, hpos, okc, k⟩
  have hp0 : ¬ (p : Int) = 0 := by omega
  obtain ⟨l, rfl⟩ : ∃ l, s = some l := hsome.resolve_left hp0
  obtain ⟨sh, hL⟩ := hF
  have hc : callC (p : Int) args = [(p : Int) :: args] := if_neg hp0
  have hlen : args.length = n := by
    rw [hc] at okc
    rcases KM.forms okc with ⟨r, e⟩ | ⟨q, a', e, h1, h2, h3⟩
    · exact absurd (List.cons.inj (List.cons.inj e).1).1 (by omega)
    · obtain ⟨e1, e2⟩ := List.cons.inj (List.cons.inj e).1
      have : p = q := by omega
      subst this
      rw [hn] at h3
      rw [e2]; exact (Option.some.inj h3).symm
  rw [hc] at k
  exact ⟨a, sl, wl, sh, nl, l, args, rfl, hL, S l rfl, hnl, m1, m2, m3, hlen, hpos, k⟩
theorem len2 {α : Type} : ∀ {xs : List α}, xs.length = 2 → ∃ x y, xs = [x, y]
  | [x, y], _ => ⟨x, y, rfl⟩
theorem len3 {α : Type} : ∀ {xs : List α}, xs.length = 3 → ∃ x y z, xs = [x, y, z]
  | [x, y, z], _ => ⟨x, y, z, rfl⟩
theorem len4 {α : Type} : ∀ {xs : List α}, xs.length = 4 → ∃ x y z u, xs = [x, y, z, u]
  | [x, y, z, u], _ => ⟨x, y, z, u, rfl⟩
/-- the share changes -/
theorem LandAt.setShare {C : Addr} {H H1 : Hp} {a sl wl sh t dx : Addr} {l : Kqp6.Land} {f : Kqp6.Frac} (h : LandAt C H1 a sl wl sh l) (hi : H1 a = some (.ins C dx (flds sl wl sh))) (ht : H1 t = some (tupF f)) :
    LandAt C (upd H1 a (.ins C dx (flds sl wl t))) a sl wl t { l with share := f } := by
  have ok : ∀ b o, H1 b = some o → (∀ C' d' fs, o ≠ .ins C' d' fs) → upd H1 a (.ins C dx (flds sl wl t)) b = some o := fun b o hb q => by
    refine (upd_ne ?_).trans hb
    rintro rfl
    rw [hi] at hb
    exact q _ _ _ (Option.some.inj hb).symm
  obtain ⟨ws, w1, w2⟩ := h.worths
  refine ⟨⟨dx, upd_same⟩, ok _ _ h.seeds fun _ _ _ z => (by cases z), ok _ _ ht fun _ _ _ z => (by cases z), ws, ok _ _ w1 fun _ _ _ z => (by cases z), w2.len, fun i v x p q => ok _ _ (w2.at_ i v x p q) fun _ _ _ z => (by cases z)⟩
abbrev s_set_share : Stmt := top 54
theorem sc_set_share : FnScope ["field", "numbers"] ["field", "numbers"] (defScope s_set_share) := ⟨rfl, rfl, rfl, by decide +kernel, rfl, by decide +kernel, by decide +kernel⟩
abbrev s_pass_generation : Stmt := top 58
theorem sc_pass_generation : FnScope ["field", "numbers"] ["field", "numbers"] (defScope s_pass_generation) := ⟨rfl, rfl, rfl, by decide +kernel, rfl, by decide +kernel, by decide +kernel⟩
section
variable {P : Program} {w : World} {K : PySem.W.Frag} {mg : Str → Option Value} {base : Heap} {C : Addr}
theorem ok_pass_generation (F : FunIn K mg "pass_generation" s_pass_generation ["field", "numbers"]) (T : FC K C) (g1 : GI mg "GREATEST_LOWER_AT_NEXT" 100000) (g28 : GI mg "TOO_GREAT" (-28)) (c_share_next : CalOk P w K mg base 5 "share_next" ["share", "seeds", "worths"] sp_share_next) :
    CalOk P w K mg base 6 "pass_generation" ["field", "numbers"] (sp_mu C 7 0) := by
  have nd := sc_pass_generation.nd
  refine F.ok sc_pass_generation (fun vs H Q E h => ?_) (fun f cdv A outer s H vs Q E hr h => ?_)
  · obtain ⟨a, sl, wl, sh, nl, l, args, rfl, _⟩ := h
    rfl
  · obtain ⟨a, sl, wl, sh, nl', l, args, rfl, hL, L, hn, m1, m2, m3, hlen, hpos, k⟩ := h
    obtain rfl := List.eq_nil_of_length_eq_zero hlen
    refine ⟨_, (pss_cons (ps_if (pt_cmpR op_gt (pe_ix ix_tupH (pe_fld (pv 0) rfl) pe_int (fun _ _ => rfl)) (pe_gi g1) (nomark _)) (pss_one (ps_ret (pe_lstS (pa_cons (pe_gi g28) pa_nil)))) pss_nil)
      (pss_cons (ps_fld (pv 0) (pe_own c_share_next (hr.mono (by decide)) rfl (pa_cons (pe_fld (pv 0) rfl) (pa_cons (pe_fld (pv 0) rfl) (pa_cons (pe_fld (pv 0) rfl) pa_nil)))) rfl)
      (pss_one (ps_ret (pe_lstS (pa_cons pe_int pa_nil)))))), ?_⟩
    obtain ⟨dx, i1⟩ := hL.ins
    obtain ⟨ws, i2, W⟩ := hL.worths
    have hst : Kqp6Neutral.step (some l) [[7]] = if 100000 < l.share.den then (some l, [-28]) else (some { l with share := KM.nextOf l.places l.share }, [0]) := by
      show (let r := Kqp6.step (some l) .next; (r.1, Kqp6Neutral.tell r.2)) = _
      show (let r := (if 100000 < l.share.den then (some l, Kqp6.Ans.num (-28)) else (some { l with share := Kqp6.next l l.share }, .num 0)); (r.1, Kqp6Neutral.tell r.2)) = _
      split <;> rfl
    rw [hst] at k
    refine ⟨_, rfl, a, C, dx, _, _, rfl, i1, T.cl, T.n3, flds_share .., _, _, _, _, rfl, rfl, hL.share, rfl, _, _, rfl, rfl, _, rfl, ?_⟩
    by_cases hb : 100000 < l.share.den
    · rw [decide_eq_true (by omega : (100000 : Int) < (l.share.den : Int))]
      rw [if_pos hb] at k
      exact iteT ⟨by decide, fun t H1 e1 n1 h1 => k H1 sl wl t ⟨sh, hL.same e1⟩ (Chg.same e1) n1 h1⟩
    · rw [decide_eq_false (by omega : ¬ (100000 : Int) < (l.share.den : Int))]
      rw [if_neg hb] at k
      refine iteF ?_
      refine ⟨_, rfl, a, C, dx, _, _, rfl, i1, T.cl, T.n3, flds_share .., _, rfl, a, C, dx, _, _, rfl, i1, T.cl, T.n1, flds_seeds .., _, rfl, a, C, dx, _, _, rfl, i1, T.cl, T.n2, flds_worths .., ?_⟩
      refine ⟨sh, sl, wl, l.share, l.places, ws, rfl, hL.share, hL.seeds, i2, W, land_pls L, (land_fr L).mono (by decide), fun H1 t e1 n1 h1 => ?_⟩
      have i3 := e1 _ _ i1
      refine ⟨_, rfl, a, C, dx, _, rfl, i3, T.cl, T.n3, (by show 3 < 1000; decide), ?_⟩
      rw [put_share]
      have L2 := (hL.same e1).setShare (H := H) i3 h1
      have old : ∀ b o, H b = some o → b ≠ a → upd H1 a (.ins C dx (flds sl wl t)) b = some o := fun b o hb' nb => by
        rw [upd_ne nb]; exact e1 _ _ hb'
      refine ⟨by decide, fun r H2 e2 n2 h2 => k H2 sl wl r ⟨t, L2.same e2⟩ ⟨fun b o hb' nb _ _ => e2 _ _ (old b o hb' nb), .inl rfl, .inl rfl⟩ ?_ h2⟩
      cases z : H r with
      | none => rfl
      | some o =>
        by_cases za : r = a
        · rw [za, upd_same] at n2; cases n2
        · rw [old _ _ z za] at n2; cases n2
theorem ok_set_share (F : FunIn K mg "set_share" s_set_share ["field", "numbers"]) (T : FC K C) (g22 : GI mg "NOT_AS_TOLD" (-22)) (c_is_share : CalOk P w K mg base 1 "is_share" ["upper", "lower"] sp_is_share) (c_lowest : CalOk P w K mg base 2 "lowest" ["upper", "lower"] sp_lowest) :
    CalOk P w K mg base 3 "set_share" ["field", "numbers"] (sp_mu C 3 2) := by
  have nd := sc_set_share.nd
  refine F.ok sc_set_share (fun vs H Q E h => ?_) (fun f cdv A outer s H vs Q E hr h => ?_)
  · obtain ⟨a, sl, wl, sh, nl, l, args, rfl, _⟩ := h
    rfl
  · obtain ⟨a, sl, wl, sh, nl', l, args, rfl, hL, L, hn, m1, m2, m3, hlen, hpos, k⟩ := h
    obtain ⟨x, y, rfl⟩ := len2 hlen
    have hx := hpos x (by simp)
    have hy := hpos y (by simp)
    simp only [List.map_cons, List.map_nil] at hn
    refine ⟨_, (pss_cons (ps_if (pt_not (pt_val (pe_own c_is_share (hr.mono (by decide)) rfl (pa_cons (pe_ix ix_listH (pv 1) pe_int (fun _ _ => rfl)) (pa_cons (pe_ix ix_listH (pv 1) pe_int (fun _ _ => rfl)) pa_nil))))) (pss_one (ps_ret (pe_lstS (pa_cons (pe_gi g22) pa_nil)))) pss_nil)
      (pss_cons (ps_fld (pv 0) (pe_own c_lowest (hr.mono (by decide)) rfl (pa_cons (pe_ix ix_listH (pv 1) pe_int (fun _ _ => rfl)) (pa_cons (pe_ix ix_listH (pv 1) pe_int (fun _ _ => rfl)) pa_nil))) rfl)
      (pss_one (ps_ret (pe_lstS (pa_cons pe_int pa_nil)))))), ?_⟩
    obtain ⟨dx, i1⟩ := hL.ins
    have hst : Kqp6Neutral.step (some l) [[3, x, y]] = if Kqp6.okShare x.toNat y.toNat = false then (some l, [-22]) else (some { l with share := Kqp6.frac (x.toNat : Int) y.toNat }, [0]) := by
      show (let r := (if Kqp6.okShare x.toNat y.toNat = false then (some l, Kqp6.Ans.num (-22)) else (some { l with share := Kqp6.frac (x.toNat : Int) y.toNat }, .num 0)); (r.1, Kqp6Neutral.tell r.2)) = _
      split <;> rfl
    rw [hst] at k
    refine ⟨_, rfl, _, _, _, _, rfl, rfl, hn, rfl, _, rfl, _, _, _, _, rfl, rfl, hn, rfl, x, y, rfl, hx, hy, _, rfl, ?_⟩
    cases hb : Kqp6.okShare x.toNat y.toNat with
    | false =>
      rw [if_pos hb] at k
      exact iteT ⟨by decide, fun t H1 e1 n1 h1 => k H1 sl wl t ⟨sh, hL.same e1⟩ (Chg.same e1) n1 h1⟩
    | true =>
      rw [if_neg (by rw [hb]; decide)] at k
      refine iteF ?_
      have hb' := hb
      unfold Kqp6.okShare at hb'
      simp only [Bool.and_eq_true, decide_eq_true_eq] at hb'
      have hy0 : 0 < y := by omega
      have hlog : y.natAbs.log2 < 9000 := log_of_bits hy0 (Nat.le_trans (bits_le (y := 100) (by omega) (by omega) bits100) (by decide))
      refine ⟨_, rfl, _, _, _, _, rfl, rfl, hn, rfl, _, rfl, _, _, _, _, rfl, rfl, hn, rfl, x, y, rfl, hx, hy0, hlog, fun t nt => ?_⟩
      have e1 := Same.new (o := tupF (Kqp6.frac x y.toNat)) nt
      have i3 := e1 _ _ i1
      have h1 : upd H t (tupF (Kqp6.frac x y.toNat)) t = some (tupF (Kqp6.frac (x.toNat : Int) y.toNat)) := by rw [upd_same, show ((x.toNat : Nat) : Int) = x by omega]
      generalize upd H t (tupF (Kqp6.frac x y.toNat)) = H1 at *
      refine ⟨_, rfl, a, C, dx, _, rfl, i3, T.cl, T.n3, (by show 3 < 1000; decide), ?_⟩
      rw [put_share]
      have L2 := (hL.same e1).setShare (H := H) i3 h1
      have old : ∀ b o, H b = some o → b ≠ a → upd H1 a (.ins C dx (flds sl wl t)) b = some o := fun b o hb' nb => by
        rw [upd_ne nb]; exact e1 _ _ hb'
      refine ⟨by decide, fun r H2 e2 n2 h2 => k H2 sl wl r ⟨t, L2.same e2⟩ ⟨fun b o hb' nb _ _ => e2 _ _ (old b o hb' nb), .inl rfl, .inl rfl⟩ ?_ h2⟩
      cases z : H r with
      | none => rfl
      | some o =>
        by_cases za : r = a
        · rw [za, upd_same] at n2; cases n2
        · rw [old _ _ z za] at n2; cases n2
end
end KP

end

section
set_option Elab.async false
set_option linter.all false
set_option maxRecDepth 100000
set_option maxHeartbeats 2000000
set_option exponentiation.threshold 100000
namespace KP
open PySem PySem.Spec PyProof.Rows L2
open Builtin.Int (intBits)
open KM (Is PlOk ShOk fp sp mp LandOk SOk)
theorem ixN_in {n : Nat} {i : Int} (h0 : 0 ≤ i) (h : i < (n : Int)) : ixN n i = some i.toNat := by
  unfold ixN
  rw [if_pos h0, if_pos h]
theorem at_seeds {pls : List Kqp6.Place} {i : Int} {x : Kqp6.Place} (h0 : 0 ≤ i) (h : pls[i.toNat]? = some x) : atI (pls.map fun x => V.int (x.seeds : Int)) i = some (V.int (x.seeds : Int)) :=
  at_of (j := i.toNat) (by omega) (by rw [List.getElem?_map, h]; rfl)
abbrev s_move_seeds : Stmt := top 52
theorem sc_move_seeds : FnScope ["field", "numbers", "giver", "taker", "moved"] ["field", "numbers"] (defScope s_move_seeds) := ⟨rfl, rfl, rfl, by decide +kernel, rfl, by decide +kernel, by decide +kernel⟩
/-- the seeds change -/
theorem LandAt.setSeeds {C : Addr} {H : Hp} {a sl wl sh : Addr} {l : Kqp6.Land} {pls : List Kqp6.Place} (h : LandAt C H a sl wl sh l) (hlen : pls.length = l.places.length) (h1 : 1 ≤ l.places.length)
    (hw : ∀ (i : Nat) x, pls[i]? = some x → ∃ y, l.places[i]? = some y ∧ tupP y = tupP x) : LandAt C (upd H sl (seedsL pls)) a sl wl sh { l with places := pls } := by
  obtain ⟨dx, i1⟩ := h.ins
  obtain ⟨ws, w1, w2⟩ := h.worths
  have ok : ∀ b o, H b = some o → b ≠ sl → upd H sl (seedsL pls) b = some o := fun b o hb n => (upd_ne n).trans hb
  have nt : ∀ b o, H b = some o → (∀ zs, o ≠ .lst zs) → b ≠ sl := fun b o hb q z => by
    rw [z, h.seeds] at hb
    exact q _ (Option.some.inj hb).symm
  have nw : wl ≠ sl := fun z => by
    rw [z, h.seeds] at w1
    have e := HO.lst.inj (Option.some.inj w1)
    cases hp : l.places with
    | nil => rw [hp] at h1; simp at h1
    | cons x r =>
      rw [hp] at e
      cases ws with
      | nil => cases e
      | cons v vs => cases (List.cons.inj e).1
  refine ⟨⟨dx, ok _ _ i1 (nt _ _ i1 fun _ z => (by cases z))⟩, upd_same, ok _ _ h.share (nt _ _ h.share fun _ z => (by cases z)), ws, ok _ _ w1 nw, by rw [w2.len, hlen], fun i v x p q => ?_⟩
  obtain ⟨y, hy, e⟩ := hw i x q
  rw [← e]
  have z := w2.at_ i v y p hy
  exact ok _ _ z (nt _ _ z fun _ z => (by cases z))
section
variable {P : Program} {w : World} {K : PySem.W.Frag} {mg : Str → Option Value} {base : Heap} {C : Addr}
theorem ok_move_seeds (F : FunIn K mg "move_seeds" s_move_seeds ["field", "numbers"]) (T : FC K C) (g2 : GI mg "NO_SUCH_PLACE" (-2)) (g22 : GI mg "NOT_AS_TOLD" (-22)) (g12 : GI mg "TOO_FEW_SEEDS" (-12)) (c_is_place : CalOk P w K mg base 1 "is_place" ["field", "place"] (sp_is_place C)) :
    CalOk P w K mg base 2 "move_seeds" ["field", "numbers"] (sp_mu C 1 3) := by
  have nd := sc_move_seeds.nd
  refine F.ok sc_move_seeds (fun vs H Q E h => ?_) (fun f cdv A outer s H vs Q E hr h => ?_)
  · obtain ⟨a, sl, wl, sh, nl, l, args, rfl, _⟩ := h
    rfl
  · obtain ⟨a, sl, wl, sh, nl', l, args, rfl, hL, L, hn, m1, m2, m3, hlen, hpos, k⟩ := h
    obtain ⟨i, j, n, rfl⟩ := len3 hlen
    have hi := hpos i (by simp)
    have hj := hpos j (by simp)
    have hnn := hpos n (by simp)
    simp only [List.map_cons, List.map_nil] at hn
    refine ⟨_, (pss_cons (ps_set (i := 2) nd rfl (Or.inl rfl) (pe_ix ix_listH (pv 1) pe_int (fun _ _ => rfl)))
      (pss_cons (ps_set (i := 3) nd rfl (Or.inl rfl) (pe_ix ix_listH (pv 1) pe_int (fun _ _ => rfl)))
      (pss_cons (ps_set (i := 4) nd rfl (Or.inl rfl) (pe_ix ix_listH (pv 1) pe_int (fun _ _ => rfl)))
      (pss_cons (ps_if (PW.pt (pw_or (pt_not (pt_val (pe_own c_is_place (hr.mono (by decide)) rfl (pa_cons (pv 0) (pa_cons (pv 2) pa_nil))))) (pw_or1 (pt_not (pt_val (pe_own c_is_place (hr.mono (by decide)) rfl (pa_cons (pv 0) (pa_cons (pv 3) pa_nil)))))))) (pss_one (ps_ret (pe_lstS (pa_cons (pe_gi g2) pa_nil)))) pss_nil)
      (pss_cons (ps_if (PW.pt (pw_or (pt_cmpR op_eq (pv 4) pe_int (nomark _)) (pw_or1 (pt_cmpR op_eq (pv 2) (pv 3) (nomark _))))) (pss_one (ps_ret (pe_lstS (pa_cons (pe_gi g22) pa_nil)))) pss_nil)
      (pss_cons (ps_if (pt_cmpR op_lt (pe_ix ix_listH (pe_fld (pv 0) rfl) (pv 2) (fun _ _ => rfl)) (pv 4) (nomark _)) (pss_one (ps_ret (pe_lstS (pa_cons (pe_gi g12) pa_nil)))) pss_nil)
      (pss_cons (ps_augS (pe_fld (pv 0) rfl) (pv 2) get_list (pv 4) ip_sub set_list)
      (pss_cons (ps_augS (pe_fld (pv 0) rfl) (pv 3) get_list (pv 4) ip_add set_list)
      (pss_one (ps_ret (pe_lstS (pa_cons (pe_ix ix_listH (pe_fld (pv 0) rfl) (pv 3) (fun _ _ => rfl)) pa_nil)))))))))))), ?_⟩
    obtain ⟨dx, i1⟩ := hL.ins
    have hse := hL.seeds
    have fail : ∀ (z : Int), Kqp6Neutral.step (some l) [[1, i, j, n]] = (some l, [z]) → ∀ (t : Addr) (H' : Hp), Same H H' → H t = Option.none → H' t = some (.lst [.int z]) → Q (.ref t) H' := fun z hz t H' e nt ht =>
      k H' sl wl t (by rw [hz]; exact ⟨sh, hL.same e⟩) (Chg.same e) nt (by rw [hz]; exact ht)
    have hst : Kqp6Neutral.step (some l) [[1, i, j, n]] = (let r := Kqp6.step (some l) (.seeds i.toNat j.toNat n.toNat); (r.1, Kqp6Neutral.tell r.2)) := rfl
    refine ⟨_, rfl, _, _, _, _, rfl, rfl, hn, rfl, ?_⟩
    refine ⟨_, rfl, _, _, _, _, rfl, rfl, hn, rfl, ?_⟩
    refine ⟨_, rfl, _, _, _, _, rfl, rfl, hn, rfl, ?_⟩
    refine ⟨_, rfl, _, rfl, a, dx, sl, wl, sh, _, i, rfl, i1, hse, _, rfl, ?_⟩
    rw [List.length_map]
    by_cases hii : i < (l.places.length : Int)
    · rw [decide_eq_true hii]
      refine iteF ?_
      refine ⟨_, rfl, _, rfl, a, dx, sl, wl, sh, _, j, rfl, i1, hse, _, rfl, ?_⟩
      rw [List.length_map]
      obtain ⟨x, hx⟩ : ∃ x, l.places[i.toNat]? = some x := ⟨_, List.getElem?_eq_getElem (by omega)⟩
      by_cases hjj : j < (l.places.length : Int)
      · rw [decide_eq_true hjj]
        refine iteF ?_
        obtain ⟨z, hz⟩ : ∃ z, l.places[j.toNat]? = some z := ⟨_, List.getElem?_eq_getElem (by omega)⟩
        have hst2 : Kqp6Neutral.step (some l) [[1, i, j, n]] = if n.toNat = 0 ∨ i.toNat = j.toNat then (some l, [-22]) else if x.seeds < n.toNat then (some l, [-12]) else
            (some { l with places := (l.places.set i.toNat { x with seeds := x.seeds - n.toNat }).set j.toNat { z with seeds := z.seeds + n.toNat } }, [((z.seeds + n.toNat : Nat) : Int)]) := by
          rw [hst]
          simp only [Kqp6.step, hx, hz]
          split
          · rfl
          · split <;> rfl
        rw [hst2] at fail k
        refine ⟨_, rfl, rfl, _, rfl, ?_⟩
        by_cases hn0 : n = 0
        · rw [decide_eq_true (by rw [hn0])]
          exact iteT (iteT ⟨by decide, fun t H1 e1 n1 h1 => fail (-22) (if_pos (.inl (by omega))) t H1 e1 n1 h1⟩)
        · rw [decide_eq_false (fun q => hn0 (V.int.inj q))]
          refine iteF ⟨_, rfl, _, rfl, rfl, _, rfl, ?_⟩
          by_cases hij : i = j
          · rw [decide_eq_true (by rw [hij])]
            exact iteT ⟨by decide, fun t H1 e1 n1 h1 => fail (-22) (if_pos (.inr (by omega))) t H1 e1 n1 h1⟩
          · rw [decide_eq_false (fun q => hij (V.int.inj q))]
            refine iteF ?_
            have hno : ¬ (n.toNat = 0 ∨ i.toNat = j.toNat) := by omega
            refine ⟨_, rfl, a, C, dx, _, _, rfl, i1, T.cl, T.n1, flds_seeds .., _, rfl, _, _, _, _, rfl, rfl, hse, at_seeds hi hx, _, rfl, _, _, rfl, rfl, _, rfl, ?_⟩
            by_cases hfew : (x.seeds : Int) < n
            · rw [decide_eq_true hfew]
              exact iteT ⟨by decide, fun t H1 e1 n1 h1 => fail (-12) (by rw [if_neg hno, if_pos (by omega)]) t H1 e1 n1 h1⟩
            · rw [decide_eq_false hfew]
              refine iteF ?_
              rw [if_neg hno, if_neg (by omega)] at k
              have hitn : i.toNat < l.places.length := by omega
              have hjtn : j.toNat < l.places.length := by omega
              have hijn : i.toNat ≠ j.toNat := by omega
              refine ⟨_, rfl, a, C, dx, _, _, rfl, i1, T.cl, T.n1, flds_seeds .., _, rfl, sl, _, i, _, rfl, rfl, hse, hi, (by rw [List.getElem?_map, hx]; rfl), _, rfl, _, _, rfl, rfl, sl, _, i, i.toNat, rfl, rfl, hse, ixN_in hi (by rw [List.length_map]; exact hii), ?_⟩
              have a1 : a ≠ sl := fun q => by rw [q, hse] at i1; cases i1
              refine ⟨_, rfl, a, C, dx, _, _, rfl, (upd_ne a1).trans i1, T.cl, T.n1, flds_seeds .., _, rfl, sl, _, j, _, rfl, rfl, upd_same, hj, (by rw [List.getElem?_set_ne hijn, List.getElem?_map, hz]; rfl), _, rfl, _, _, rfl, rfl, sl, _, j, j.toNat, rfl, rfl, upd_same, ixN_in hj (by rw [List.length_set, List.length_map]; exact hjj), ?_⟩
              rw [upd_upd]
              have hfin : HO.lst ((((l.places.map fun x => V.int (x.seeds : Int)).set i.toNat (V.int ((x.seeds : Int) - n))).set j.toNat (V.int ((z.seeds : Int) + n)))) =
                  seedsL ((l.places.set i.toNat { x with seeds := x.seeds - n.toNat }).set j.toNat { z with seeds := z.seeds + n.toNat }) := by
                unfold seedsL
                rw [List.map_set, List.map_set]
                show HO.lst ((List.set _ _ _).set _ _) = HO.lst (((List.map _ _).set i.toNat (V.int ((x.seeds - n.toNat : Nat) : Int))).set j.toNat (V.int ((z.seeds + n.toNat : Nat) : Int)))
                rw [show ((x.seeds - n.toNat : Nat) : Int) = (x.seeds : Int) - n by omega, show ((z.seeds + n.toNat : Nat) : Int) = (z.seeds : Int) + n by omega]
              rw [hfin]
              generalize hpls : (l.places.set i.toNat { x with seeds := x.seeds - n.toNat }).set j.toNat { z with seeds := z.seeds + n.toNat } = pls at *
              have hlp : pls.length = l.places.length := by rw [← hpls, List.length_set, List.length_set]
              have hzp : pls[j.toNat]? = some { z with seeds := z.seeds + n.toNat } := by rw [← hpls]; exact List.getElem?_set_self (by rw [List.length_set]; exact hjtn)
              have L2 := hL.setSeeds hlp L.n1 (fun q y hy => by
                rw [← hpls] at hy
                by_cases q1 : j.toNat = q
                · subst q1
                  rw [List.getElem?_set_self (by rw [List.length_set]; exact hjtn)] at hy
                  exact ⟨z, hz, by rw [← Option.some.inj hy]; rfl⟩
                · rw [List.getElem?_set_ne q1] at hy
                  by_cases q2 : i.toNat = q
                  · subst q2
                    rw [List.getElem?_set_self hitn] at hy
                    exact ⟨x, hx, by rw [← Option.some.inj hy]; rfl⟩
                  · rw [List.getElem?_set_ne q2] at hy
                    exact ⟨y, hy, rfl⟩)
              have old : ∀ b o, H b = some o → b ≠ sl → upd H sl (seedsL pls) b = some o := fun b o hb nb => (upd_ne nb).trans hb
              refine ⟨_, rfl, a, C, dx, _, _, rfl, old _ _ i1 a1, T.cl, T.n1, flds_seeds .., _, rfl, _, _, _, _, rfl, rfl, upd_same, at_seeds hj hzp, (by show 1 ≤ sizeLine; decide), fun t H2 e2 n2 h2 => ?_⟩
              refine k H2 sl wl t ⟨sh, L2.same e2⟩ ⟨fun b o hb _ nb _ => e2 _ _ (old b o hb nb), .inl rfl, .inl rfl⟩ ?_ h2
              cases zz : H t with
              | none => rfl
              | some o =>
                by_cases za : t = sl
                · rw [za, upd_same] at n2; cases n2
                · rw [old _ _ zz za] at n2; cases n2
      · rw [decide_eq_false hjj]
        have hz : l.places[j.toNat]? = none := List.getElem?_eq_none_iff.mpr (by omega)
        exact iteT ⟨by decide, fun t H1 e1 n1 h1 => fail (-2) (by rw [hst]; simp only [Kqp6.step, hx, hz]; rfl) t H1 e1 n1 h1⟩
    · rw [decide_eq_false hii]
      have hx : l.places[i.toNat]? = none := List.getElem?_eq_none_iff.mpr (by omega)
      refine iteT (iteT ⟨by decide, fun t H1 e1 n1 h1 => fail (-2) (by rw [hst]; simp only [Kqp6.step, hx]; rfl) t H1 e1 n1 h1⟩)
end
end KP

end

section
set_option Elab.async false
set_option linter.all false
set_option maxRecDepth 100000
set_option maxHeartbeats 2000000
set_option exponentiation.threshold 100000
namespace KP
open PySem PySem.Spec PyProof.Rows L2
open Builtin.Int (intBits)
open KM (Is PlOk ShOk fp sp mp LandOk SOk)
abbrev s_set_worths : Stmt := top 53
theorem sc_set_worths : FnScope ["field", "numbers", "place", "worths", "before"] ["field", "numbers"] (defScope s_set_worths) := ⟨rfl, rfl, rfl, by decide +kernel, rfl, by decide +kernel, by decide +kernel⟩
theorem cut1 (i a b c : V) : cutV [i, a, b, c] (some 1) none = [a, b, c] := rfl
/-- a place's worths change -/
theorem LandAt.setWorths {C : Addr} {H : Hp} {a sl wl sh t : Addr} {l : Kqp6.Land} {i : Nat} {x y : Kqp6.Place} {ws : List Addr} (h : LandAt C H a sl wl sh l) (hx : l.places[i]? = some x) (hy : y.seeds = x.seeds) (w1 : H wl = some (.lst (ws.map V.ref))) (w2 : WsAt H ws l.places) (ht : H t = some (tupP y)) :
    LandAt C (upd H wl (.lst ((ws.map V.ref).set i (.ref t)))) a sl wl sh { l with places := l.places.set i y } := by
  obtain ⟨dx, i1⟩ := h.ins
  have hi := (List.getElem?_eq_some_iff.mp hx).1
  have nt : ∀ b o, H b = some o → (∀ zs, o ≠ .lst zs) → upd H wl (.lst ((ws.map V.ref).set i (.ref t))) b = some o := fun b o hb q => by
    refine (upd_ne ?_).trans hb
    intro z
    rw [z, w1] at hb
    exact q _ (Option.some.inj hb).symm
  have nw : sl ≠ wl := fun z => by
    have q := h.seeds
    rw [z, w1] at q
    have e := HO.lst.inj (Option.some.inj q)
    cases hp : l.places with
    | nil => rw [hp] at hi; simp at hi
    | cons x r =>
      rw [hp] at e
      cases ws with
      | nil => cases e
      | cons v vs => cases (List.cons.inj e).1
  have hs : seedsL (l.places.set i y) = seedsL l.places := by
    unfold seedsL
    rw [List.map_set]
    congr 1
    refine List.ext_getElem? fun j => ?_
    by_cases q : i = j
    · subst q
      rw [List.getElem?_set_self (by rw [List.length_map]; exact hi), List.getElem?_map, hx, hy]; rfl
    · rw [List.getElem?_set_ne q]
  refine ⟨⟨dx, nt _ _ i1 fun _ z => (by cases z)⟩, ?_, nt _ _ h.share fun _ z => (by cases z), ws.set i t, ?_, by rw [List.length_set, List.length_set, w2.len], fun j v z hv hz => ?_⟩
  · rw [upd_ne nw]
    exact h.seeds.trans (congrArg some hs.symm)
  · rw [upd_same, List.map_set]
  · by_cases q : i = j
    · subst q
      rw [List.getElem?_set_self (by rw [w2.len]; exact hi)] at hv
      rw [List.getElem?_set_self hi] at hz
      rw [← Option.some.inj hv, ← Option.some.inj hz]
      exact nt _ _ ht fun _ z => (by cases z)
    · rw [List.getElem?_set_ne q] at hv hz
      exact nt _ _ (w2.at_ j v z hv hz) fun _ z => (by cases z)
section
variable {P : Program} {w : World} {K : PySem.W.Frag} {mg : Str → Option Value} {base : Heap} {C : Addr}
theorem ok_set_worths (F : FunIn K mg "set_worths" s_set_worths ["field", "numbers"]) (T : FC K C) (nl : mg "list" = none) (nt : mg "tuple" = none) (g2 : GI mg "NO_SUCH_PLACE" (-2)) (g22 : GI mg "NOT_AS_TOLD" (-22)) (c_is_place : CalOk P w K mg base 1 "is_place" ["field", "place"] (sp_is_place C)) (c_are_worths : CalOk P w K mg base 1 "are_worths" ["numbers"] sp_are_worths) :
    CalOk P w K mg base 2 "set_worths" ["field", "numbers"] (sp_mu C 2 4) := by
  have nd := sc_set_worths.nd
  refine F.ok sc_set_worths (fun vs H Q E h => ?_) (fun f cdv A outer s H vs Q E hr h => ?_)
  · obtain ⟨a, sl, wl, sh, nl, l, args, rfl, _⟩ := h
    rfl
  · obtain ⟨a, sl, wl, sh, nl', l, args, rfl, hL, L, hn, m1, m2, m3, hlen, hpos, k⟩ := h
    obtain ⟨i, wa, wb, wc, rfl⟩ := len4 hlen
    have hi := hpos i (by simp)
    have ha := hpos wa (by simp)
    have hb := hpos wb (by simp)
    have hc := hpos wc (by simp)
    simp only [List.map_cons, List.map_nil] at hn
    refine ⟨_, (pss_cons (ps_set (i := 2) nd rfl (Or.inl rfl) (pe_ix ix_listH (pv 1) pe_int (fun _ _ => rfl)))
      (pss_cons (ps_set (i := 3) nd rfl (Or.inl rfl) (pe_callTy call_tupS (by rfl) nt boot_tupleK (pa_cons (pe_slice sl_listH (pv 1) (po_some pe_int) po_none) pa_nil)))
      (pss_cons (ps_if (pt_not (pt_val (pe_own c_is_place (hr.mono (by decide)) rfl (pa_cons (pv 0) (pa_cons (pv 2) pa_nil))))) (pss_one (ps_ret (pe_lstS (pa_cons (pe_gi g2) pa_nil)))) pss_nil)
      (pss_cons (ps_if (pt_not (pt_val (pe_own c_are_worths (hr.mono (by decide)) rfl (pa_cons (pv 3) pa_nil)))) (pss_one (ps_ret (pe_lstS (pa_cons (pe_gi g22) pa_nil)))) pss_nil)
      (pss_cons (ps_set (i := 4) nd rfl (Or.inl rfl) (pe_ix ix_listH (pe_fld (pv 0) rfl) (pv 2) (fun _ _ => rfl)))
      (pss_cons (ps_asg (pv 3) (pg_sub (pe_fld (pv 0) rfl) (pv 2) set_list))
      (pss_one (ps_ret (pe_callTy call_listS (by rfl) nl boot_listK (pa_cons (pv 4) pa_nil)))))))))), ?_⟩
    obtain ⟨dx, i1⟩ := hL.ins
    have hst : Kqp6Neutral.step (some l) [[2, i, wa, wb, wc]] = (let r := Kqp6.step (some l) (.worths i.toNat wa.toNat wb.toNat wc.toNat); (r.1, Kqp6Neutral.tell r.2)) := rfl
    refine ⟨_, rfl, _, _, _, _, rfl, rfl, hn, rfl, ?_⟩
    refine ⟨_, rfl, _, rfl, _, _, rfl, hn, fun q H1 e1 n1 h1 => ⟨q, _, rfl, h1, fun t H2 e2 n2 h2 => ?_⟩⟩
    rw [cut1] at h2
    have e12 := e1.trans e2
    have fail : ∀ (z : Int), Kqp6Neutral.step (some l) [[2, i, wa, wb, wc]] = (some l, [z]) → ∀ (t : Addr) (H' : Hp), Same H2 H' → H2 t = Option.none → H' t = some (.lst [.int z]) → Q (.ref t) H' := fun z hz t H' e nt ht =>
      k H' sl wl t (by rw [hz]; exact ⟨sh, hL.same (e12.trans e)⟩) (Chg.same (e12.trans e)) (e12.free nt) (by rw [hz]; exact ht)
    have L2 := hL.same e12
    have i2 := e12 _ _ i1
    refine ⟨_, rfl, _, rfl, a, dx, sl, wl, sh, _, i, rfl, i2, L2.seeds, _, rfl, ?_⟩
    rw [List.length_map]
    by_cases hii : i < (l.places.length : Int)
    · rw [decide_eq_true hii]
      refine iteF ?_
      obtain ⟨x, hx⟩ : ∃ x, l.places[i.toNat]? = some x := ⟨_, List.getElem?_eq_getElem (by omega)⟩
      have hst2 : Kqp6Neutral.step (some l) [[2, i, wa, wb, wc]] = if Kqp6.okWorths wa.toNat wb.toNat wc.toNat = false then (some l, [-22]) else
          (some { l with places := l.places.set i.toNat { x with first := wa.toNat, mixed := wb.toNat, second := wc.toNat } }, [(x.first : Int), (x.mixed : Int), (x.second : Int)]) := by
        rw [hst]
        simp only [Kqp6.step, hx]
        split <;> rfl
      rw [hst2] at fail k
      refine ⟨_, rfl, t, wa, wb, wc, rfl, h2, ha, hb, hc, _, rfl, ?_⟩
      cases hok : Kqp6.okWorths wa.toNat wb.toNat wc.toNat with
      | false => exact iteT ⟨by decide, fun t H1 e1 n1 h1 => fail (-22) (if_pos hok) t H1 e1 n1 h1⟩
      | true =>
        rw [if_neg (by rw [hok]; decide)] at k
        refine iteF ?_
        obtain ⟨ws, w1, W⟩ := L2.worths
        have hwn : i.toNat < ws.length := by rw [W.len]; omega
        have hv : ws[i.toNat]? = some ws[i.toNat] := List.getElem?_eq_getElem hwn
        have at1 : atI (ws.map V.ref) i = some (V.ref ws[i.toNat]) := at_of (j := i.toNat) (by omega) (by rw [List.getElem?_map, hv]; rfl)
        refine ⟨_, rfl, a, C, dx, _, _, rfl, i2, T.cl, T.n2, flds_worths .., _, rfl, _, _, _, _, rfl, rfl, w1, at1, ?_⟩
        refine ⟨_, rfl, _, rfl, a, C, dx, _, _, rfl, i2, T.cl, T.n2, flds_worths .., _, rfl, wl, _, i, i.toNat, rfl, rfl, w1, ixN_in hi (by rw [List.length_map, W.len]; exact hii), ?_⟩
        have ht : H2 t = some (tupP { x with first := wa.toNat, mixed := wb.toNat, second := wc.toNat }) := by
          rw [h2]
          show _ = some (HO.tup [V.int ((wa.toNat : Nat) : Int), V.int ((wb.toNat : Nat) : Int), V.int ((wc.toNat : Nat) : Int)])
          rw [show ((wa.toNat : Nat) : Int) = wa by omega, show ((wb.toNat : Nat) : Int) = wb by omega, show ((wc.toNat : Nat) : Int) = wc by omega]
        have L3 := L2.setWorths (y := { x with first := wa.toNat, mixed := wb.toNat, second := wc.toNat }) hx rfl w1 W ht
        have old : ∀ b o, H2 b = some o → b ≠ wl → upd H2 wl (.lst ((ws.map V.ref).set i.toNat (.ref t))) b = some o := fun b o hb nb => (upd_ne nb).trans hb
        have hvx := W.at_ _ _ x hv hx
        have nvw : ws[i.toNat] ≠ wl := fun q => by rw [q, w1] at hvx; cases hvx
        refine ⟨_, rfl, ws[i.toNat], _, rfl, old _ _ hvx nvw, fun r H3 e3 n3 h3 => ?_⟩
        refine k H3 sl wl r ⟨sh, L3.same e3⟩ ⟨fun b o hb _ _ nb => e3 _ _ (old b o (e12 _ _ hb) nb), .inl rfl, .inl rfl⟩ ?_ h3
        cases zz : H r with
        | none => rfl
        | some o =>
          by_cases za : r = wl
          · rw [za, upd_same] at n3; cases n3
          · rw [old _ _ (e12 _ _ zz) za] at n3; cases n3
    · rw [decide_eq_false hii]
      have hx : l.places[i.toNat]? = none := List.getElem?_eq_none_iff.mpr (by omega)
      exact iteT ⟨by decide, fun t H1 e1 n1 h1 => fail (-2) (by rw [hst]; simp only [Kqp6.step, hx]; rfl) t H1 e1 n1 h1⟩
theorem ok_tell_kinds (F : FunIn K mg "tell_kinds" s_tell_kinds ["field", "numbers"]) (T : FC K C) (nl : mg "list" = none) (g2 : GI mg "NO_SUCH_PLACE" (-2)) (c_is_place : CalOk P w K mg base 1 "is_place" ["field", "place"] (sp_is_place C))
    (c_first_worth : CalOk P w K mg base 3 "first_worth" ["share", "worths"] (sp_frac Kqp6.one_)) (c_second_worth : CalOk P w K mg base 3 "second_worth" ["share", "worths"] (sp_frac Kqp6.other)) :
    CalOk P w K mg base 4 "tell_kinds" ["field", "numbers"] (sp_ro C 1 (stepAns 6)) := by
  have nd := sc_tell_kinds.nd
  refine F.ok sc_tell_kinds (fun vs H Q E h => ?_) (fun f cdv A outer s H vs Q E hr h => ?_)
  · obtain ⟨a, sl, wl, sh, nl, l, args, rfl, _⟩ := h
    rfl
  · obtain ⟨a, sl, wl, sh, nl', l, args, rfl, hL, L, hn, hlen, hpos, k⟩ := h
    obtain ⟨i, rfl⟩ := List.length_eq_one_iff.mp hlen
    have hi := hpos i (by simp)
    simp only [List.map_cons, List.map_nil] at hn
    refine ⟨_, (pss_cons (ps_if (pt_not (pt_val (pe_own c_is_place (hr.mono (by decide)) rfl (pa_cons (pv 0) (pa_cons (pe_ix ix_listH (pv 1) pe_int (fun _ _ => rfl)) pa_nil))))) (pss_one (ps_ret (pe_lstS (pa_cons (pe_gi g2) pa_nil)))) pss_nil)
      (pss_cons (ps_set (i := 2) nd rfl (Or.inl rfl) (pe_ix ix_listH (pe_fld (pv 0) rfl) (pe_ix ix_listH (pv 1) pe_int (fun _ _ => rfl)) (fun _ _ => rfl)))
      (pss_one (ps_ret (pe_op op_catS (pe_op op_catS (pe_lstS (pa_cons pe_int pa_nil)) (pe_callTy call_listS (by rfl) nl boot_listK (pa_cons (pe_own c_first_worth (hr.mono (by decide)) rfl (pa_cons (pe_fld (pv 0) rfl) (pa_cons (pv 2) pa_nil))) pa_nil))) (pe_callTy call_listS (by rfl) nl boot_listK (pa_cons (pe_own c_second_worth (hr.mono (by decide)) rfl (pa_cons (pe_fld (pv 0) rfl) (pa_cons (pv 2) pa_nil))) pa_nil))))))), ?_⟩
    obtain ⟨dx, i1⟩ := hL.ins
    refine ⟨_, rfl, _, rfl, _, _, _, _, rfl, rfl, hn, rfl, a, dx, sl, wl, sh, _, i, rfl, i1, hL.seeds, _, rfl, ?_⟩
    rw [List.length_map]
    by_cases hii : i < (l.places.length : Int)
    · rw [decide_eq_true hii]
      refine iteF ?_
      obtain ⟨x, hx⟩ : ∃ x, l.places[i.toNat]? = some x := ⟨_, List.getElem?_eq_getElem (by omega)⟩
      obtain ⟨ws, w1, W⟩ := hL.worths
      have hwn : i.toNat < ws.length := by rw [W.len]; omega
      have hv : ws[i.toNat]? = some ws[i.toNat] := List.getElem?_eq_getElem hwn
      have at1 : atI (ws.map V.ref) i = some (V.ref ws[i.toNat]) := at_of (j := i.toNat) (by omega) (by rw [List.getElem?_map, hv]; rfl)
      have hvx := W.at_ _ _ x hv hx
      have X := L.pl x (List.mem_of_getElem? hx)
      have hst : stepAns 6 l [i] = [0, (Kqp6.one_ x l.share).num, ((Kqp6.one_ x l.share).den : Int), (Kqp6.other x l.share).num, ((Kqp6.other x l.share).den : Int)] := by
        show Kqp6Neutral.tell (Kqp6.step (some l) (.kinds i.toNat)).2 = _
        simp only [Kqp6.step, hx]; rfl
      rw [hst] at k
      refine ⟨_, rfl, a, C, dx, _, _, rfl, i1, T.cl, T.n2, flds_worths .., _, rfl, _, _, _, _, rfl, rfl, hn, rfl, _, _, _, _, rfl, rfl, w1, at1, ?_⟩
      refine ⟨by decide, fun q H1 e1 n1 h1 => ?_⟩
      refine ⟨_, rfl, a, C, dx, _, _, rfl, e1 _ _ i1, T.cl, T.n3, flds_share .., _, rfl, sh, ws[i.toNat], l.share, x, rfl, e1 _ _ hL.share, e1 _ _ hvx, X, (land_fr L).mono (by decide), fun t nt => ?_⟩
      have e2 := Same.new (o := tupF (Kqp6.one_ x l.share)) nt
      refine ⟨t, _, rfl, upd_same, fun r H3 e3 n3 h3 => ⟨q, r, _, _, rfl, rfl, e3 _ _ (e2 _ _ h1), h3, by show 3 ≤ sizeLine; decide, fun v H4 e4 n4 h4 => ?_⟩⟩
      have e14 := ((e1.trans e2).trans e3).trans e4
      refine ⟨_, rfl, a, C, dx, _, _, rfl, e14 _ _ i1, T.cl, T.n3, flds_share .., _, rfl, sh, ws[i.toNat], l.share, x, rfl, e14 _ _ hL.share, e14 _ _ hvx, X, (land_fr L).mono (by decide), fun t2 nt2 => ?_⟩
      have e5 := Same.new (o := tupF (Kqp6.other x l.share)) nt2
      refine ⟨t2, _, rfl, upd_same, fun r2 H6 e6 n6 h6 => ⟨v, r2, _, _, rfl, rfl, e6 _ _ (e5 _ _ h4), h6, by show 5 ≤ sizeLine; decide, fun v2 H7 e7 n7 h7 => ?_⟩⟩
      exact k H7 v2 (((e14.trans e5).trans e6).trans e7) (((e14.trans e5).trans e6).free n7) h7
    · rw [decide_eq_false hii]
      have hx : l.places[i.toNat]? = none := List.getElem?_eq_none_iff.mpr (by omega)
      have hst : stepAns 6 l [i] = [-2] := by
        show Kqp6Neutral.tell (Kqp6.step (some l) (.kinds i.toNat)).2 = _
        simp only [Kqp6.step, hx]; rfl
      rw [hst] at k
      exact iteT ⟨by decide, fun t H1 e1 n1 h1 => k H1 t e1 n1 h1⟩
end
end KP

end

section
set_option Elab.async false
set_option linter.all false
set_option maxRecDepth 100000
set_option maxHeartbeats 2000000
set_option exponentiation.threshold 100000
namespace KP
open PySem PySem.Spec PyProof.Rows L2
open Builtin.Int (intBits)
open KM (Is PlOk ShOk fp sp mp LandOk SOk)
theorem step_none {q : Nat} {a : List Int} (h1 : 1 ≤ q) (h2 : q ≤ 19) (h3 : KM.cnt[q]? = some a.length) : Kqp6Neutral.step none [(q : Int) :: a] = (none, [-11]) := by
  match q, h1, h2, h3 with
  | 1, _, _, h3 => obtain ⟨x, y, z, rfl⟩ := len3 (Option.some.inj h3).symm; rfl
  | 2, _, _, h3 => obtain ⟨x, y, z, u, rfl⟩ := len4 (Option.some.inj h3).symm; rfl
  | 3, _, _, h3 => obtain ⟨x, y, rfl⟩ := len2 (Option.some.inj h3).symm; rfl
  | 4, _, _, h3 => obtain rfl := List.eq_nil_of_length_eq_zero (Option.some.inj h3).symm; rfl
  | 5, _, _, h3 => obtain ⟨x, rfl⟩ := List.length_eq_one_iff.mp (Option.some.inj h3).symm; rfl
  | 6, _, _, h3 => obtain ⟨x, rfl⟩ := List.length_eq_one_iff.mp (Option.some.inj h3).symm; rfl
  | 7, _, _, h3 => obtain rfl := List.eq_nil_of_length_eq_zero (Option.some.inj h3).symm; rfl
  | 8, _, _, h3 => obtain ⟨x, rfl⟩ := List.length_eq_one_iff.mp (Option.some.inj h3).symm; rfl
  | 9, _, _, h3 => obtain rfl := List.eq_nil_of_length_eq_zero (Option.some.inj h3).symm; rfl
  | 10, _, _, h3 => obtain ⟨x, y, rfl⟩ := len2 (Option.some.inj h3).symm; rfl
  | 11, _, _, h3 => obtain rfl := List.eq_nil_of_length_eq_zero (Option.some.inj h3).symm; rfl
  | 12, _, _, h3 => obtain rfl := List.eq_nil_of_length_eq_zero (Option.some.inj h3).symm; rfl
  | 13, _, _, h3 => obtain rfl := List.eq_nil_of_length_eq_zero (Option.some.inj h3).symm; rfl
  | 14, _, _, h3 => obtain ⟨x, rfl⟩ := List.length_eq_one_iff.mp (Option.some.inj h3).symm; rfl
  | 15, _, _, h3 => obtain ⟨x, y, rfl⟩ := len2 (Option.some.inj h3).symm; rfl
  | 16, _, _, h3 => obtain rfl := List.eq_nil_of_length_eq_zero (Option.some.inj h3).symm; rfl
  | 17, _, _, h3 => obtain ⟨x, rfl⟩ := List.length_eq_one_iff.mp (Option.some.inj h3).symm; rfl
  | 18, _, _, h3 => obtain ⟨x, rfl⟩ := List.length_eq_one_iff.mp (Option.some.inj h3).symm; rfl
  | 19, _, _, h3 => obtain rfl := List.eq_nil_of_length_eq_zero (Option.some.inj h3).symm; rfl
abbrev s_answer : Stmt := top 74
theorem sc_answer : FnScope ["field", "call", "numbers"] ["field", "call", "numbers"] (defScope s_answer) := ⟨rfl, rfl, rfl, by decide +kernel, rfl, by decide +kernel, by decide +kernel⟩
section
variable {P : Program} {w : World} {K : PySem.W.Frag} {mg : Str → Option Value} {base : Heap} {C : Addr}
theorem ok_answer (F : FunIn K mg "answer" s_answer ["field", "call", "numbers"]) (T : FC K C) (nl : mg "len" = none) (g0 : GI mg "START" 0) (g11 : GI mg "NOT_STARTED" (-11)) {d : Addr} {kvs : List (Int × Addr)} (gd : mg "ANSWERED_BY" = some (.ref d)) (tab : FnTab K d kvs)
    (htab : ∀ p : Nat, p ≤ 19 → ∃ f, kvs.lookup (p : Int) = some f ∧ FnAt P w K mg base 9 f (sp_do C (p : Int))) : CalOk P w K mg base 10 "answer" ["field", "call", "numbers"] (sp_answer C) := by
  have nd := sc_answer.nd
  refine F.ok sc_answer (fun vs H Q E h => ?_) (fun f cdv A outer s H vs Q E hr h => ?_)
  · obtain ⟨a, sl, wl, nl, st, p, args, rfl, _⟩ := h
    rfl
  · obtain ⟨a, sl, wl, r, st, p, args, rfl, hF, S, hr', m1, m2, m3, hpos, okc, k⟩ := h
    refine ⟨_, (pss_cons (ps_if (PW.pt (pw_and (pt_cmpR op_ne (pv 1) (pe_gi g0) (nomark _)) (pw_and1 (pt_cmpR op_eq (pe_callB call_lenH (by rfl) nl PySem.boot_len (pa_cons (pe_fld (pv 0) rfl) pa_nil)) pe_int (nomark _))))) (pss_one (ps_ret (pe_lstS (pa_cons (pe_gi g11) pa_nil)))) pss_nil)
      (pss_one (ps_ret (pe_callE (pe_tab tab (pe_gr gd) (pv 1) (fun _ _ => rfl)) (pa_cons (pv 0) (pa_cons (pv 2) pa_nil)))))), ?_⟩
    have disp : ∀ q : Nat, p = (q : Int) → q ≤ 19 → (p = 0 ∨ ∃ l, st = some l) → tRet (tCallE (cxOf CX0 P w K mg base ["field", "call", "numbers"] "answer" (defScope s_answer) f cdv A outer s H E).nox (tTab d kvs (tC (.ref d)) (tVar 1)) (tCons (tVar 0) (tCons (tVar 2) tNil))) { nx := fun _ H' => Q .non H', rt := Q } (L2.start ["field", "call", "numbers"] [.ref a, .int p, .ref r]) H := by
      rintro q rfl hq hst
      obtain ⟨g, hg, Fg⟩ := htab q hq
      exact ⟨_, rfl, (q : Int), g, rfl, rfl, hg, g, 9, _, rfl, Fg, hr, _, rfl, _, rfl, a, sl, wl, r, st, args, rfl, hF, S, hst, hr', m1, m2, m3, hpos, okc, k⟩
    refine ⟨_, rfl, rfl, _, rfl, ?_⟩
    by_cases hp : p = 0
    · rw [decide_eq_true (by rw [hp])]
      refine iteF (iteF ?_)
      exact disp 0 hp (by decide) (.inl hp)
    · rw [decide_eq_false (fun z => hp (V.int.inj z))]
      refine iteT ?_
      obtain ⟨⟨dx, sh, f1⟩, ⟨xs, f2⟩, _⟩ := FieldAt.there hF
      refine ⟨_, rfl, a, C, dx, _, _, rfl, f1, T.cl, T.n1, flds_seeds .., sl, _, rfl, f2, rfl, _, rfl, ?_⟩
      have hc : callC p args = [p :: args] := if_neg hp
      rw [hc] at okc k
      obtain ⟨q, e, h1, h2, h3⟩ : ∃ q : Nat, p = (q : Int) ∧ 1 ≤ q ∧ q ≤ 19 ∧ KM.cnt[q]? = some args.length := by
        rcases KM.forms okc with ⟨r, e⟩ | ⟨q, a', e, h1, h2, h3⟩
        · exact absurd (List.cons.inj (List.cons.inj e).1).1 hp
        · obtain ⟨e1, e2⟩ := List.cons.inj (List.cons.inj e).1
          exact ⟨q, e1, h1, h2, by rw [e2]; exact h3⟩
      cases st with
      | none =>
        obtain ⟨dx', sh', y1, y2, y3⟩ := id hF
        rw [y2] at f2
        have ex : xs = [] := (HO.lst.inj (Option.some.inj f2)).symm
        rw [decide_eq_true (by rw [ex]; rfl)]
        refine iteT ⟨by decide, fun t H1 e1 n1 h1' => ?_⟩
        rw [e, step_none h1 h2 h3] at k
        exact k H1 sl wl t (FieldAt.same (s := none) e1 hF) (Chg.same e1) n1 h1'
      | some l =>
        obtain ⟨sh', hL⟩ := id hF
        have L := S l rfl
        have q2 := hL.seeds
        rw [f2] at q2
        have ex : xs = l.places.map fun x => V.int (x.seeds : Int) := HO.lst.inj (Option.some.inj q2)
        have hne : ¬ V.int (xs.length : Int) = V.int 0 := fun z => by
          have z1 := V.int.inj z
          rw [ex, List.length_map] at z1
          have := L.n1
          omega
        rw [decide_eq_false hne]
        refine iteF ?_
        rw [← hc] at okc k
        exact disp q e h2 (.inr ⟨l, rfl⟩)
end
end KP

end

section
set_option Elab.async false
set_option linter.all false
set_option maxRecDepth 100000
set_option maxHeartbeats 2000000
set_option exponentiation.threshold 100000
namespace KP
open PySem PySem.Spec PyProof.Rows L2
open Builtin.Int (intBits)
open KM (Is PlOk ShOk fp sp mp LandOk SOk)
local macro_rules | `(tactic| walk_at "kq") => `(tactic| simp [and_assoc, tTest, tOp, tUn, tVar, tC, rNe, rEq, rI, rI0, rU, tSeq, tNext, tAsg, gName, gCons, gNil, tRet, tIfS, scal, L2.start, tCall, tCons, tNil, tTup, tLst, rIxTH, rIxLH, rLenL, atI, ixN, *])
abbrev s_chosen_parts : Stmt := top 11
theorem sc_chosen_parts : FnScope ["share", "worths"] ["share", "worths"] (defScope s_chosen_parts) := ⟨rfl, rfl, rfl, by decide +kernel, rfl, by decide +kernel, by decide +kernel⟩
def sp_chosen : Sp := fun vs H Q _ => ∃ p q u l x, vs = [.ref p, .ref q] ∧ H p = some (.tup [.int u, .int l]) ∧ H q = some (tupP x) ∧ PlOk x ∧ ShOk u l ∧ intBits l ≤ 900 ∧
  ∀ (t : Addr) (H' : Hp), Same H H' → H t = Option.none → H' t = some (.tup [.int (u * fp x u l), .int (mp x u l)]) → Q (.ref t) H'
/-- a fraction out of a share and a place's worths, as a new tuple, the heap told by what stays -/
def sp_fracS (g : Kqp6.Place → Kqp6.Frac → Kqp6.Frac) : Sp := fun vs H Q _ => ∃ p q f x, vs = [.ref p, .ref q] ∧ H p = some (tupF f) ∧ H q = some (tupP x) ∧ PlOk x ∧ FrOk f 900 ∧
  ∀ (t : Addr) (H' : Hp), Same H H' → H t = Option.none → H' t = some (tupF (g x f)) → Q (.ref t) H'
abbrev s_chosen_share : Stmt := top 12
theorem sc_chosen_share : FnScope ["share", "worths", "chosen"] ["share", "worths"] (defScope s_chosen_share) := ⟨rfl, rfl, rfl, by decide +kernel, rfl, by decide +kernel, by decide +kernel⟩
/-- over all places: upper and lower number, times hundred -/
def gr (n d : Kqp6.Place → Int) : List Kqp6.Place → Int → Int → Int × Int
  | [], U, L => (U, L)
  | x :: r, U, L => gr n d r (U * d x + (x.seeds : Int) * n x * L) (L * d x)
theorem gr_run {u l : Int} : ∀ (pls : List Kqp6.Place) (U L : Int), gr (fun x => u * fp x u l) (fun x => mp x u l) pls U L = KM.run u l pls U L
  | [], _, _ => rfl
  | _ :: r, _, _ => gr_run r _ _
theorem gr_grow {d : Kqp6.Place → Nat} : ∀ (pls : List Kqp6.Place) (U L : Int), gr (fun x => (x.mixed : Int)) (fun x => (d x : Int)) pls U L = KM.grow d pls U L
  | [], _, _ => rfl
  | _ :: r, _, _ => gr_grow r _ _
structure GrOk (n d : Kqp6.Place → Int) (pls : List Kqp6.Place) : Prop where
  n3 : pls.length ≤ 3
  s : ∀ x ∈ pls, x.seeds ≤ 1000
  n0 : ∀ x ∈ pls, 0 ≤ n x
  d1 : ∀ x ∈ pls, 0 < d x
  nb : ∀ x ∈ pls, intBits (n x) ≤ 1900
  db : ∀ x ∈ pls, intBits (d x) ≤ 1900
theorem gr_take {n d : Kqp6.Place → Int} : ∀ (pls : List Kqp6.Place) (U L : Int) (i : Nat) (x : Kqp6.Place), pls[i]? = some x →
    gr n d (pls.take (i + 1)) U L = ((gr n d (pls.take i) U L).1 * d x + (x.seeds : Int) * n x * (gr n d (pls.take i) U L).2, (gr n d (pls.take i) U L).2 * d x)
  | [], _, _, _, _, h => by simp at h
  | a :: r, U, L, 0, x, h => by
    have e : a = x := Option.some.inj h
    subst e
    rfl
  | a :: r, U, L, i + 1, x, h => gr_take r _ _ i x h
theorem bits_seeds {k : Nat} (h : k ≤ 1000) : intBits (k : Int) ≤ 10 := intBits_le_iff.mpr (by rw [Int.natAbs_natCast]; show k < 1024; omega)
theorem gr_bits {n d : Kqp6.Place → Int} {pls : List Kqp6.Place} (G : GrOk n d pls) : ∀ i : Nat, i ≤ pls.length →
    intBits (gr n d (pls.take i) 0 1).2 ≤ 1 + 1900 * i ∧ intBits (gr n d (pls.take i) 0 1).1 ≤ 2000 * i ∧ 0 < (gr n d (pls.take i) 0 1).2 ∧ 0 ≤ (gr n d (pls.take i) 0 1).1
  | 0, _ => ⟨by show intBits (1 : Int) ≤ 1; decide +kernel, by show intBits (0 : Int) ≤ 0; decide +kernel, by show (0 : Int) < 1; decide, by show (0 : Int) ≤ 0; decide⟩
  | i + 1, h => by
    obtain ⟨h1, h2, h3, h4⟩ := gr_bits G i (by omega)
    obtain ⟨x, hx⟩ : ∃ x, pls[i]? = some x := ⟨_, List.getElem?_eq_getElem (by omega)⟩
    have m := List.mem_of_getElem? hx
    rw [gr_take pls 0 1 i x hx]
    have bs := bits_seeds (G.s x m)
    refine ⟨Nat.le_trans (intBits_mul_le h1 (G.db x m)) (by omega), Nat.le_trans (intBits_add_le (intBits_mul_le h2 (G.db x m)) (intBits_mul_le (intBits_mul_le bs (G.nb x m)) h1)) ?_, Int.mul_pos h3 (G.d1 x m), ?_⟩
    · omega
    · exact Int.add_nonneg (Int.mul_nonneg h4 (Int.le_of_lt (G.d1 x m))) (Int.mul_nonneg (Int.mul_nonneg (by omega) (G.n0 x m)) (Int.le_of_lt h3))
abbrev s_over_all_places : Stmt := top 13
theorem sc_over_all_places : FnScope ["seeds", "parts", "upper", "lower", "seeds_here", "part"] ["seeds", "parts"] (defScope s_over_all_places) := ⟨rfl, rfl, rfl, by decide +kernel, rfl, by decide +kernel, by decide +kernel⟩
/-- the places' pairs of numbers stand in tuples -/
structure PrAt (n d : Kqp6.Place → Int) (H : Hp) (ws : List Addr) (pls : List Kqp6.Place) : Prop where
  len : ws.length = pls.length
  at_ : ∀ (i : Nat) (w : Addr) (x : Kqp6.Place), ws[i]? = some w → pls[i]? = some x → H w = some (.tup [.int (n x), .int (d x)])
def sp_over : Sp := fun vs H Q _ => ∃ (n d : Kqp6.Place → Int) (a b : Addr) (pls : List Kqp6.Place) (ws : List Addr), vs = [.ref a, .ref b] ∧ H a = some (seedsL pls) ∧ H b = some (.lst (ws.map V.ref)) ∧ PrAt n d H ws pls ∧ GrOk n d pls ∧
  ∀ (H' : Hp) (t : Addr), Same H H' → H t = Option.none → H' t = some (tupF (Kqp6.frac (gr n d pls 0 1).1 ((gr n d pls 0 1).2 * 100).toNat)) → Q (.ref t) H'
section
variable {P : Program} {w : World} {K : PySem.W.Frag} {mg : Str → Option Value} {base : Heap}
theorem ok_chosen_parts (F : FunIn K mg "chosen_parts" s_chosen_parts ["share", "worths"]) (c_first_part : CalOk P w K mg base 2 "first_part" ["share", "worths"] (sp_of fp)) (c_mean_part : CalOk P w K mg base 3 "mean_part" ["share", "worths"] (sp_of mp)) :
    CalOk P w K mg base 4 "chosen_parts" ["share", "worths"] sp_chosen := by
  have nd := sc_chosen_parts.nd
  refine F.ok sc_chosen_parts (fun vs H Q E h => ?_) (fun f cdv A outer s H vs Q E hr h => ?_)
  · obtain ⟨p, q, u, l, x, rfl, _⟩ := h
    rfl
  · obtain ⟨p, q, u, l, x, rfl, hp, hq, X, S, hb, k⟩ := h
    refine ⟨_, (pss_one (ps_ret (pe_tupS (pa_cons (pe_op op_mulB (pe_ix ix_tupH (pv 0) pe_int (fun _ _ => rfl)) (pe_own c_first_part (hr.mono (by decide)) rfl (pa_cons (pv 0) (pa_cons (pv 1) pa_nil)))) (pa_cons (pe_own c_mean_part (hr.mono (by decide)) rfl (pa_cons (pv 0) (pa_cons (pv 1) pa_nil))) pa_nil))))), ?_⟩
    have h1 : IntMulOk u (fp x u l) := mulOk (bits_le S.lo S.hi hb) (bits_fp X S hb) (by decide)
    refine ⟨_, rfl, _, _, _, _, rfl, rfl, hp, rfl, _, rfl, _, rfl, p, q, u, l, x, rfl, hp, hq, X, S, hb, _, _, rfl, rfl, h1, _, rfl, _, rfl, p, q, u, l, x, rfl, hp, hq, X, S, hb, (by show 2 ≤ sizeLine; decide), fun t H1 e1 n1 h1 => k t H1 e1 n1 h1⟩
theorem ok_chosen_share (F : FunIn K mg "chosen_share" s_chosen_share ["share", "worths"]) (c_lowest : CalOk P w K mg base 2 "lowest" ["upper", "lower"] sp_lowest) (c_chosen_parts : CalOk P w K mg base 4 "chosen_parts" ["share", "worths"] sp_chosen) :
    CalOk P w K mg base 5 "chosen_share" ["share", "worths"] (sp_fracS KM.chosen) := by
  have nd := sc_chosen_share.nd
  refine F.ok sc_chosen_share (fun vs H Q E h => ?_) (fun f cdv A outer s H vs Q E hr h => ?_)
  · obtain ⟨p, q, f, x, rfl, _⟩ := h
    rfl
  · obtain ⟨p, q, f, x, rfl, hp, hq, X, Fk, k⟩ := h
    refine ⟨_, (pss_cons (ps_set (i := 2) nd rfl (Or.inl rfl) (pe_own c_chosen_parts (hr.mono (by decide)) rfl (pa_cons (pv 0) (pa_cons (pv 1) pa_nil))))
      (pss_one (ps_ret (pe_own c_lowest (hr.mono (by decide)) rfl (pa_cons (pe_ix ix_tupH (pv 2) pe_int (fun _ _ => rfl)) (pa_cons (pe_ix ix_tupH (pv 2) pe_int (fun _ _ => rfl)) pa_nil)))))), ?_⟩
    refine ⟨_, rfl, _, rfl, p, q, f.num, (f.den : Int), x, rfl, hp, hq, X, Fk.sh, Fk.bits, fun t H1 e1 n1 h1 => ?_⟩
    have hm := KM.mp_pos X Fk.sh
    have hlog := log_of_bits hm (Nat.le_trans (bits_mp X Fk.sh Fk.bits) (by decide))
    refine ⟨_, rfl, _, _, _, _, rfl, rfl, h1, rfl, _, rfl, _, _, _, _, rfl, rfl, h1, rfl, _, _, rfl, KM.ch_ge X Fk.sh, hm, hlog, fun r nr => k r _ (e1.trans (Same.new nr)) (e1.free nr) ?_⟩
    rw [upd_same, ← (KM.is_chosen X Fk.sh Fk.is).is_frac (by omega)]
theorem ok_over_all_places (F : FunIn K mg "over_all_places" s_over_all_places ["seeds", "parts"]) (nz : mg "zip" = none) (gi : GI mg "ALL_SEEDS" 100) (c_lowest : CalOk P w K mg base 2 "lowest" ["upper", "lower"] sp_lowest) :
    CalOk P w K mg base 3 "over_all_places" ["seeds", "parts"] sp_over := by
  have nd := sc_over_all_places.nd
  refine F.ok sc_over_all_places (fun vs H Q E h => ?_) (fun f cdv A outer s H vs Q E hr h => ?_)
  · obtain ⟨n, d, a, b, pls, ws, rfl, _⟩ := h
    rfl
  · obtain ⟨n, d, a, b, pls, ws, rfl, ha, hb, hw, G, k⟩ := h
    refine ⟨_, (pss_cons (ps_set (i := 2) nd rfl (Or.inl rfl) pe_int)
      (pss_cons (ps_set (i := 3) nd rfl (Or.inl rfl) pe_int)
      (pss_cons (ps_for PassesOwn.never rfl (pi_zip rfl nz (pa_cons (pv 0) (pa_cons (pv 1) pa_nil))) (pg_tup rfl (pgs_cons (pg_name (i := 4) nd rfl (Or.inl rfl)) (pgs_cons (pg_name (i := 5) nd rfl (Or.inl rfl)) pgs_nil)))
        (pss_cons (ps_set (i := 2) nd rfl (Or.inl rfl) (pe_op op_add (pe_op op_mulB (pv 2) (pe_ix ix_tupH (pv 5) pe_int (fun _ _ => rfl))) (pe_op op_mulB (pe_op op_mulB (pv 4) (pe_ix ix_tupH (pv 5) pe_int (fun _ _ => rfl))) (pv 3))))
      (pss_one (ps_set (i := 3) nd rfl (Or.inl rfl) (pe_op op_mulB (pv 3) (pe_ix ix_tupH (pv 5) pe_int (fun _ _ => rfl)))))))
      (pss_one (ps_ret (pe_own c_lowest (hr.mono (by decide)) rfl (pa_cons (pv 2) (pa_cons (pe_op op_mulB (pv 3) (pe_gi gi)) pa_nil)))))))), ?_⟩
    have hlen : (pls.map fun x => V.int (x.seeds : Int)).length = (ws.map V.ref).length := by rw [List.length_map, List.length_map, hw.len]
    refine ⟨_, rfl, _, rfl, a, b, _, _, rfl, SqL.of ha, SqL.of hb, for_zip (K := K) (fun i σ H' => ∃ v4 v5 : Option V, σ = [some (.ref a), some (.ref b), some (.int (gr n d (pls.take i) 0 1).1), some (.int (gr n d (pls.take i) 0 1).2), v4, v5] ∧ Same H H') hlen
      ⟨none, none, rfl, Same.refl⟩ (fun i σ H' _ ⟨_, _, _, e⟩ => ⟨SqL.of (e _ _ ha), SqL.of (e _ _ hb)⟩) ?_ ?_⟩
    · rintro i x y σ H' T hx hy ⟨v4, v5, rfl, e⟩ hT
      obtain ⟨z, hz, rfl⟩ : ∃ z, pls[i]? = some z ∧ x = V.int (z.seeds : Int) := by
        rw [List.getElem?_map] at hx
        cases q : pls[i]? with
        | none => rw [q] at hx; cases hx
        | some z => rw [q] at hx; exact ⟨z, rfl, (Option.some.inj hx).symm⟩
      obtain ⟨v, hv, rfl⟩ : ∃ v, ws[i]? = some v ∧ y = V.ref v := by
        rw [List.getElem?_map] at hy
        cases q : ws[i]? with
        | none => rw [q] at hy; cases hy
        | some v => rw [q] at hy; exact ⟨v, rfl, (Option.some.inj hy).symm⟩
      have zm := List.mem_of_getElem? hz
      have e2 : Same H (upd H' T (.tup [.int (z.seeds : Int), .ref v])) := e.trans (Same.new hT)
      refine ⟨T, _, rfl, SqT.of upd_same, rfl, ?_⟩
      have hv2 : (upd H' T (.tup [.int (z.seeds : Int), .ref v])) v = some (.tup [.int (n z), .int (d z)]) := e2 _ _ (hw.at_ i v z hv hz)
      generalize upd H' T (.tup [.int (z.seeds : Int), .ref v]) = H2 at *
      have hil : i < pls.length := (List.getElem?_eq_some_iff.mp hz).1
      have hn3 := G.n3
      obtain ⟨bL, bU, pL, pU⟩ := gr_bits G i (by omega)
      have bL' : intBits (gr n d (pls.take i) 0 1).2 ≤ 6000 := Nat.le_trans bL (by omega)
      have bU' : intBits (gr n d (pls.take i) 0 1).1 ≤ 6000 := Nat.le_trans bU (by omega)
      have bs := bits_seeds (G.s z zm)
      have m1 : IntMulOk (gr n d (pls.take i) 0 1).1 (d z) := mulOk bU' (G.db z zm) (by decide)
      have m2 : IntMulOk (z.seeds : Int) (n z) := mulOk bs (G.nb z zm) (by decide)
      have m3 : IntMulOk ((z.seeds : Int) * n z) (gr n d (pls.take i) 0 1).2 := mulOk (intBits_mul_le bs (G.nb z zm)) bL' (by decide)
      have m4 : IntMulOk (gr n d (pls.take i) 0 1).2 (d z) := mulOk bL' (G.db z zm) (by decide)
      rw [gr_take pls 0 1 i z hz]
      walk_at "kq"
    · rintro σ H' ⟨v4, v5, rfl, e⟩
      rw [List.length_map]
      have hn3 := G.n3
      obtain ⟨bL, bU, pL, pU⟩ := gr_bits G pls.length (Nat.le_refl _)
      rw [List.take_length] at bL bU pL pU ⊢
      have bL' : intBits (gr n d pls 0 1).2 ≤ 6000 := Nat.le_trans bL (by omega)
      have m1 : IntMulOk (gr n d pls 0 1).2 100 := mulOk bL' bits100 (by decide)
      have hd : 0 < (gr n d pls 0 1).2 * 100 := by omega
      have hl := log_of_bits hd (Nat.le_trans (intBits_mul_le bL' bits100) (by decide))
      walk_at "kq"
      exact fun t ht => k _ t (e.trans (Same.new ht)) (e.free ht) upd_same
end
end KP

end

section
set_option Elab.async false
set_option linter.all false
set_option maxRecDepth 100000
set_option maxHeartbeats 2000000
set_option exponentiation.threshold 100000
namespace KP
open PySem PySem.Spec PyProof.Rows L2
open Builtin.Int (intBits)
open KM (Is PlOk ShOk fp sp mp LandOk SOk)
local macro_rules | `(tactic| walk_at "kq") => `(tactic| simp [and_assoc, tTest, tOp, tUn, tVar, tC, rNe, rEq, rI, rI0, rU, tSeq, tNext, tAsg, gName, gCons, gNil, tRet, tIfS, scal, L2.start, tCall, tCons, tNil, tTup, tLst, rIxTH, rIxLH, rLenL, atI, ixN, *])
/-- so many pairs stand in the list -/
def PrsAt (n d : Kqp6.Place → Int) (pls : List Kqp6.Place) (H : Hp) (D : Addr) (i : Nat) : Prop :=
  ∃ vs : List Addr, H D = some (.lst (vs.map V.ref)) ∧ vs.length = i ∧ ∀ (j : Nat) (v : Addr) (x : Kqp6.Place), vs[j]? = some v → pls[j]? = some x → H v = some (.tup [.int (n x), .int (d x)])
theorem PrsAt.nil {n d : Kqp6.Place → Int} {pls : List Kqp6.Place} {H : Hp} {D : Addr} (h : H D = some (.lst [])) : PrsAt n d pls H D 0 := ⟨[], h, rfl, fun j v x q => by simp at q⟩
theorem PrsAt.app {n d : Kqp6.Place → Int} {pls : List Kqp6.Place} {H1 H2 : Hp} {D l : Addr} {i : Nat} {x : Kqp6.Place} (h : PrsAt n d pls H1 D i) (e : Same H1 H2) (hx : pls[i]? = some x) (hl : H2 l = some (.tup [.int (n x), .int (d x)])) (hi : i ≤ 100) :
    ∃ acc, H2 D = some (.lst acc) ∧ acc.length < sizeLine ∧ PrsAt n d pls (upd H2 D (.lst (acc ++ [.ref l]))) D (i + 1) := by
  obtain ⟨vs, h1, h2, h3⟩ := h
  have hD := e _ _ h1
  refine ⟨vs.map V.ref, hD, by rw [List.length_map, h2, sizeLine_eq]; omega, vs ++ [l], by rw [upd_same, List.map_append]; rfl, by rw [List.length_append, h2]; rfl, fun j v y hj hy => ?_⟩
  have key : H2 v = some (.tup [.int (n y), .int (d y)]) := by
    by_cases hji : j < vs.length
    · rw [List.getElem?_append_left hji] at hj
      exact e _ _ (h3 j v y hj hy)
    · have ej : j = vs.length := by
        have := (List.getElem?_eq_some_iff.mp hj).1
        rw [List.length_append, List.length_cons, List.length_nil] at this
        omega
      rw [ej, List.getElem?_append_right (Nat.le_refl _), Nat.sub_self] at hj
      have ev : l = v := Option.some.inj hj
      rw [ej, h2, hx] at hy
      rw [← ev, ← Option.some.inj hy]
      exact hl
  rw [upd_ne (fun z => by rw [z, hD] at key; cases key)]
  exact key
theorem PrsAt.pr {n d : Kqp6.Place → Int} {pls : List Kqp6.Place} {H : Hp} {D : Addr} (h : PrsAt n d pls H D pls.length) : ∃ vs : List Addr, H D = some (.lst (vs.map V.ref)) ∧ PrAt n d H vs pls := by
  obtain ⟨vs, h1, h2, h3⟩ := h
  exact ⟨vs, h1, h2, h3⟩
/-- what was there before stays, though the new list grows -/
theorem same_grow {H H1 H2 : Hp} {D : Addr} {o : HO} (hD : H D = Option.none) (e : Same H H1) (e' : Same H1 H2) : Same H (upd H2 D o) := fun b u hb => by
  have nb : b ≠ D := fun z => by rw [z, hD] at hb; cases hb
  rw [upd_ne nb]; exact e' _ _ (e _ _ hb)
theorem seeds_small {pls : List Kqp6.Place} (hP : PlsOk pls) : ∀ x ∈ pls, x.seeds ≤ 1000 := fun x hx => by
  have := KM.seeds_le hx
  rw [hP.sum] at this; omega
theorem gr_next {pls : List Kqp6.Place} {f : Kqp6.Frac} (hP : PlsOk pls) (Fk : FrOk f 900) : GrOk (fun x => f.num * fp x f.num f.den) (fun x => mp x f.num f.den) pls :=
  ⟨hP.n3, seeds_small hP, fun x hx => KM.ch_ge (hP.pl x hx) Fk.sh, fun x hx => KM.mp_pos (hP.pl x hx) Fk.sh,
    fun x hx => Nat.le_trans (intBits_mul_le Fk.bits1 (bits_fp (hP.pl x hx) Fk.sh Fk.bits)) (by decide), fun x hx => Nat.le_trans (bits_mp (hP.pl x hx) Fk.sh Fk.bits) (by decide)⟩
abbrev s_share_next : Stmt := top 14
theorem sc_share_next : FnScope ["share", "seeds", "worths", "worths_here"] ["share", "seeds", "worths"] (defScope s_share_next) := ⟨rfl, rfl, rfl, by decide +kernel, rfl, by decide +kernel, by decide +kernel⟩
theorem bk_share_next : BlkOk ["share", "seeds", "worths", "worths_here"] (defScope s_share_next) { kind := .function, names := [(".0", .local), ("worths_here", .local), ("chosen_parts", .globalImplicit), ("share", .free)], isGenerator := false, isCoroutine := false } [("worths_here", 3)] :=
  ⟨rfl, by decide +kernel, by decide +kernel, by decide +kernel, by decide +kernel⟩
abbrev s_share_way : Stmt := top 17
theorem sc_share_way : FnScope ["share", "seeds", "worths"] ["share", "seeds", "worths"] (defScope s_share_way) := ⟨rfl, rfl, rfl, by decide +kernel, rfl, by decide +kernel, by decide +kernel⟩
def sp_share_way : Sp := fun vs H Q _ => ∃ p a b f pls ws, vs = [.ref p, .ref a, .ref b] ∧ H p = some (tupF f) ∧ H a = some (seedsL pls) ∧ H b = some (.lst (ws.map V.ref)) ∧ WsAt H ws pls ∧ PlsOk pls ∧ FrOk f 900 ∧
  ∀ H' : Hp, Same H H' → Q (.int (wayOf f (KM.nextOf pls f))) H'
section
variable {P : Program} {w : World} {K : PySem.W.Frag} {mg : Str → Option Value} {base : Heap}
theorem ok_share_next (F : FunIn K mg "share_next" s_share_next ["share", "seeds", "worths"]) (c_over : CalOk P w K mg base 3 "over_all_places" ["seeds", "parts"] sp_over) (c_chosen_parts : CalOk P w K mg base 4 "chosen_parts" ["share", "worths"] sp_chosen) :
    CalOk P w K mg base 5 "share_next" ["share", "seeds", "worths"] sp_share_next := by
  have nd := sc_share_next.nd
  refine F.ok sc_share_next (fun vs H Q E h => ?_) (fun f cdv A outer s H vs Q E hr h => ?_)
  · obtain ⟨p, a, b, f, pls, ws, rfl, _⟩ := h
    rfl
  · obtain ⟨p, a, b, f, pls, ws, rfl, hp, ha, hb, hw, hP, Fk, k⟩ := h
    refine ⟨_, (pss_one (ps_ret (pe_own c_over (hr.mono (by decide)) rfl (pa_cons (pv 1) (pa_cons (pe_lc (own := [("worths_here", 3)]) rfl nd (pi_list (pv 2)) bk_share_next (fun _ _ _ _ _ => (pg_name (i := 3) nd rfl (Or.inl rfl))) (fun _ _ _ _ _ => pts_nil) (fun _ _ _ _ _ => (pe_own c_chosen_parts (hr.mono (by decide)) rfl (pa_cons (pv 0) (pa_cons (pv 3) pa_nil))))) pa_nil))))), ?_⟩
    refine ⟨_, rfl, _, rfl, b, rfl, ⟨_, SqL.of hb⟩, fun D hD => ?_⟩
    refine lc_by (n := pls.length) (fun i H' => Same H H' ∧ PrsAt (fun x => f.num * fp x f.num f.den) (fun x => mp x f.num f.den) pls H' D i) ?_ ?_ ?_
    · exact ⟨Same.new hD, PrsAt.nil upd_same⟩
    · rintro H1 ⟨e1, h1⟩
      obtain ⟨vs, h2, h3⟩ := h1.pr
      refine ⟨⟨_, SqL.of (e1 _ _ hb), by rw [List.length_map, hw.len]; exact Nat.le_refl _⟩, _, _, a, D, pls, vs, rfl, e1 _ _ ha, h2, h3, gr_next hP Fk, fun H2 t e2 n2 ht => k H2 t (e1.trans e2) (e1.free n2) ?_⟩
      rw [gr_run] at ht
      have pL := KM.run_pos Fk.sh pls 0 1 hP.pl (by decide)
      rw [ht, ← (KM.is_next Fk.sh Fk.is hP.pl).is_frac (by omega)]
    · rintro i H1 hi ⟨e1, h1⟩
      obtain ⟨wi, hv⟩ : ∃ wi, ws[i]? = some wi := ⟨_, List.getElem?_eq_getElem (by rw [hw.len]; exact hi)⟩
      obtain ⟨x, hx⟩ : ∃ x, pls[i]? = some x := ⟨_, List.getElem?_eq_getElem hi⟩
      have hm : (ws.map V.ref)[i]? = some (V.ref wi) := by rw [List.getElem?_map, hv]; rfl
      refine ⟨⟨_, _, SqL.of (e1 _ _ hb), hm⟩, ?_⟩
      rintro y H4 ⟨rfl, hy⟩
      have ey : V.ref wi = y := Option.some.inj (hm.symm.trans (hy _ (SqL.of (e1 _ _ hb))))
      subst ey
      have n3 := hP.n3
      refine ⟨rfl, ⟨_, rfl, _, rfl, p, wi, f.num, (f.den : Int), x, rfl, e1 _ _ hp, e1 _ _ (hw.at_ i _ x hv hx), hP.pl x (List.mem_of_getElem? hx), Fk.sh, Fk.bits, fun t H2 e2 n2 ht => ?_⟩⟩
      obtain ⟨acc, q1, q2, q3⟩ := h1.app e2 hx ht (by omega)
      exact ⟨acc, q1, q2, same_grow hD e1 e2, q3⟩
theorem ok_share_way (F : FunIn K mg "share_way" s_share_way ["share", "seeds", "worths"]) (c_direction : CalOk P w K mg base 1 "direction" ["before", "later"] sp_direction) (c_share_next : CalOk P w K mg base 5 "share_next" ["share", "seeds", "worths"] sp_share_next) :
    CalOk P w K mg base 6 "share_way" ["share", "seeds", "worths"] sp_share_way := by
  have nd := sc_share_way.nd
  refine F.ok sc_share_way (fun vs H Q E h => ?_) (fun f cdv A outer s H vs Q E hr h => ?_)
  · obtain ⟨p, a, b, f, pls, ws, rfl, _⟩ := h
    rfl
  · obtain ⟨p, a, b, f, pls, ws, rfl, hp, ha, hb, hw, hP, Fk, k⟩ := h
    refine ⟨_, (pss_one (ps_ret (pe_own c_direction (hr.mono (by decide)) rfl (pa_cons (pv 0) (pa_cons (pe_own c_share_next (hr.mono (by decide)) rfl (pa_cons (pv 0) (pa_cons (pv 1) (pa_cons (pv 2) pa_nil)))) pa_nil))))), ?_⟩
    refine ⟨_, rfl, _, rfl, _, rfl, _, rfl, p, a, b, f, pls, ws, rfl, hp, ha, hb, hw, hP, Fk, fun H1 t e1 n1 h1 => ?_⟩
    have Nk := next_fr hP Fk
    refine ⟨p, t, _, _, _, _, rfl, e1 _ _ hp, h1, Nat.le_trans Fk.bits1 (by decide), Nat.le_trans Fk.bits (by decide), Nat.le_trans Nk.bits1 (by decide), Nat.le_trans Nk.bits (by decide), ?_⟩
    rw [← way_dir Fk.is Nk.is]
    exact k H1 e1
end
/-! growth -/
def sp_growth (d : Kqp6.Place → Nat) : Sp := fun vs H Q _ => ∃ a b pls ws, vs = [.ref a, .ref b] ∧ H a = some (seedsL pls) ∧ H b = some (.lst (ws.map V.ref)) ∧ WsAt H ws pls ∧ PlsOk pls ∧
  ∀ (H' : Hp) (t : Addr), Same H H' → H t = Option.none → H' t = some (tupF (KM.growOf d pls)) → Q (.ref t) H'
theorem bits_w {k : Nat} (h : k ≤ 9) : intBits (k : Int) ≤ 4 := intBits_le_iff.mpr (by rw [Int.natAbs_natCast]; show k < 16; omega)
theorem gr_growth {d : Kqp6.Place → Nat} {pls : List Kqp6.Place} (hP : PlsOk pls) (hd : ∀ x, PlOk x → 1 ≤ d x ∧ d x ≤ 9) : GrOk (fun x => (x.mixed : Int)) (fun x => (d x : Int)) pls :=
  ⟨hP.n3, seeds_small hP, fun x hx => Int.natCast_nonneg _, fun x hx => by have := (hd x (hP.pl x hx)).1; show (0 : Int) < (d x : Int); omega,
    fun x hx => Nat.le_trans (bits_w (hP.pl x hx).m9) (by decide), fun x hx => Nat.le_trans (bits_w (hd x (hP.pl x hx)).2) (by decide)⟩
abbrev s_first_growth : Stmt := top 18
theorem sc_first_growth : FnScope ["seeds", "worths", "worths_here"] ["seeds", "worths"] (defScope s_first_growth) := ⟨rfl, rfl, rfl, by decide +kernel, rfl, by decide +kernel, by decide +kernel⟩
theorem bk_first_growth : BlkOk ["seeds", "worths", "worths_here"] (defScope s_first_growth) { kind := .function, names := [(".0", .local), ("worths_here", .local)], isGenerator := false, isCoroutine := false } [("worths_here", 2)] :=
  ⟨rfl, by decide +kernel, by decide +kernel, by decide +kernel, by decide +kernel⟩
abbrev s_second_growth : Stmt := top 19
theorem sc_second_growth : FnScope ["seeds", "worths", "worths_here"] ["seeds", "worths"] (defScope s_second_growth) := ⟨rfl, rfl, rfl, by decide +kernel, rfl, by decide +kernel, by decide +kernel⟩
theorem bk_second_growth : BlkOk ["seeds", "worths", "worths_here"] (defScope s_second_growth) { kind := .function, names := [(".0", .local), ("worths_here", .local)], isGenerator := false, isCoroutine := false } [("worths_here", 2)] :=
  ⟨rfl, by decide +kernel, by decide +kernel, by decide +kernel, by decide +kernel⟩
abbrev s_is_above_one : Stmt := top 20
theorem sc_is_above_one : FnScope ["fraction"] ["fraction"] (defScope s_is_above_one) := ⟨rfl, rfl, rfl, by decide +kernel, rfl, by decide +kernel, by decide +kernel⟩
def sp_above : Sp := fun vs H Q _ => ∃ p f n d, vs = [.ref p] ∧ H p = some (tupF f) ∧ Is f n d ∧ Q (.bl (Kqp6.lt Kqp6.one f)) H
abbrev s_are_both_kept : Stmt := top 21
theorem sc_are_both_kept : FnScope ["seeds", "worths"] ["seeds", "worths"] (defScope s_are_both_kept) := ⟨rfl, rfl, rfl, by decide +kernel, rfl, by decide +kernel, by decide +kernel⟩
def keptOf (pls : List Kqp6.Place) : Bool := Kqp6.lt Kqp6.one (KM.growOf (fun x => x.second) pls) && Kqp6.lt Kqp6.one (KM.growOf (fun x => x.first) pls)
def sp_kept : Sp := fun vs H Q _ => ∃ a b pls ws, vs = [.ref a, .ref b] ∧ H a = some (seedsL pls) ∧ H b = some (.lst (ws.map V.ref)) ∧ WsAt H ws pls ∧ PlsOk pls ∧ ∀ H' : Hp, Same H H' → Q (.bl (keptOf pls)) H'
section
variable {P : Program} {w : World} {K : PySem.W.Frag} {mg : Str → Option Value} {base : Heap}
theorem ok_first_growth (F : FunIn K mg "first_growth" s_first_growth ["seeds", "worths"]) (c_over : CalOk P w K mg base 3 "over_all_places" ["seeds", "parts"] sp_over) :
    CalOk P w K mg base 4 "first_growth" ["seeds", "worths"] (sp_growth fun x => x.second) := by
  have nd := sc_first_growth.nd
  refine F.ok sc_first_growth (fun vs H Q E h => ?_) (fun f cdv A outer s H vs Q E hr h => ?_)
  · obtain ⟨a, b, pls, ws, rfl, _⟩ := h
    rfl
  · obtain ⟨a, b, pls, ws, rfl, ha, hb, hw, hP, k⟩ := h
    refine ⟨_, (pss_one (ps_ret (pe_own c_over (hr.mono (by decide)) rfl (pa_cons (pv 0) (pa_cons (pe_lc (own := [("worths_here", 2)]) rfl nd (pi_list (pv 1)) bk_first_growth (fun _ _ _ _ _ => (pg_name (i := 2) nd rfl (Or.inl rfl))) (fun _ _ _ _ _ => pts_nil) (fun _ _ _ _ _ => (pe_tupS (pa_cons (pe_ix ix_tupH (pv 2) pe_int (fun _ _ => rfl)) (pa_cons (pe_ix ix_tupH (pv 2) pe_int (fun _ _ => rfl)) pa_nil))))) pa_nil))))), ?_⟩
    refine ⟨_, rfl, _, rfl, b, rfl, ⟨_, SqL.of hb⟩, fun D hD => ?_⟩
    refine lc_by (n := pls.length) (fun i H' => Same H H' ∧ PrsAt (fun x => (x.mixed : Int)) (fun x => (x.second : Int)) pls H' D i) ?_ ?_ ?_
    · exact ⟨Same.new hD, PrsAt.nil upd_same⟩
    · rintro H1 ⟨e1, h1⟩
      obtain ⟨vs, h2, h3⟩ := h1.pr
      refine ⟨⟨_, SqL.of (e1 _ _ hb), by rw [List.length_map, hw.len]; exact Nat.le_refl _⟩, _, _, a, D, pls, vs, rfl, e1 _ _ ha, h2, h3, gr_growth (d := fun x => x.second) hP fun x X => ⟨X.s1, X.s9⟩, fun H2 t e2 n2 ht => k H2 t (e1.trans e2) (e1.free n2) ?_⟩
      have hd : ∀ x ∈ pls, 1 ≤ x.second := fun x hx => (hP.pl x hx).s1
      have pL := KM.grow_pos (d := fun x => x.second) pls 0 1 hd (by decide)
      rw [gr_grow (d := fun x => x.second)] at ht
      rw [ht, ← (KM.is_grow (d := fun x => x.second) hd).is_frac (by omega)]
    · rintro i H1 hi ⟨e1, h1⟩
      obtain ⟨wi, hv⟩ : ∃ wi, ws[i]? = some wi := ⟨_, List.getElem?_eq_getElem (by rw [hw.len]; exact hi)⟩
      obtain ⟨x, hx⟩ : ∃ x, pls[i]? = some x := ⟨_, List.getElem?_eq_getElem hi⟩
      have hm : (ws.map V.ref)[i]? = some (V.ref wi) := by rw [List.getElem?_map, hv]; rfl
      refine ⟨⟨_, _, SqL.of (e1 _ _ hb), hm⟩, ?_⟩
      rintro y H4 ⟨rfl, hy⟩
      have ey : V.ref wi = y := Option.some.inj (hm.symm.trans (hy _ (SqL.of (e1 _ _ hb))))
      subst ey
      have n3 := hP.n3
      have hx1 := e1 _ _ (hw.at_ i _ x hv hx)
      refine ⟨rfl, ⟨_, rfl, _, _, _, _, rfl, rfl, hx1, rfl, _, rfl, _, _, _, _, rfl, rfl, hx1, rfl, (by show 2 ≤ sizeLine; decide), fun t H2 e2 n2 ht => ?_⟩⟩
      obtain ⟨acc, q1, q2, q3⟩ := h1.app e2 hx ht (by omega)
      exact ⟨acc, q1, q2, same_grow hD e1 e2, q3⟩
theorem ok_second_growth (F : FunIn K mg "second_growth" s_second_growth ["seeds", "worths"]) (c_over : CalOk P w K mg base 3 "over_all_places" ["seeds", "parts"] sp_over) :
    CalOk P w K mg base 4 "second_growth" ["seeds", "worths"] (sp_growth fun x => x.first) := by
  have nd := sc_second_growth.nd
  refine F.ok sc_second_growth (fun vs H Q E h => ?_) (fun f cdv A outer s H vs Q E hr h => ?_)
  · obtain ⟨a, b, pls, ws, rfl, _⟩ := h
    rfl
  · obtain ⟨a, b, pls, ws, rfl, ha, hb, hw, hP, k⟩ := h
    refine ⟨_, (pss_one (ps_ret (pe_own c_over (hr.mono (by decide)) rfl (pa_cons (pv 0) (pa_cons (pe_lc (own := [("worths_here", 2)]) rfl nd (pi_list (pv 1)) bk_second_growth (fun _ _ _ _ _ => (pg_name (i := 2) nd rfl (Or.inl rfl))) (fun _ _ _ _ _ => pts_nil) (fun _ _ _ _ _ => (pe_tupS (pa_cons (pe_ix ix_tupH (pv 2) pe_int (fun _ _ => rfl)) (pa_cons (pe_ix ix_tupH (pv 2) pe_int (fun _ _ => rfl)) pa_nil))))) pa_nil))))), ?_⟩
    refine ⟨_, rfl, _, rfl, b, rfl, ⟨_, SqL.of hb⟩, fun D hD => ?_⟩
    refine lc_by (n := pls.length) (fun i H' => Same H H' ∧ PrsAt (fun x => (x.mixed : Int)) (fun x => (x.first : Int)) pls H' D i) ?_ ?_ ?_
    · exact ⟨Same.new hD, PrsAt.nil upd_same⟩
    · rintro H1 ⟨e1, h1⟩
      obtain ⟨vs, h2, h3⟩ := h1.pr
      refine ⟨⟨_, SqL.of (e1 _ _ hb), by rw [List.length_map, hw.len]; exact Nat.le_refl _⟩, _, _, a, D, pls, vs, rfl, e1 _ _ ha, h2, h3, gr_growth (d := fun x => x.first) hP fun x X => ⟨X.f1, X.f9⟩, fun H2 t e2 n2 ht => k H2 t (e1.trans e2) (e1.free n2) ?_⟩
      have hd : ∀ x ∈ pls, 1 ≤ x.first := fun x hx => (hP.pl x hx).f1
      have pL := KM.grow_pos (d := fun x => x.first) pls 0 1 hd (by decide)
      rw [gr_grow (d := fun x => x.first)] at ht
      rw [ht, ← (KM.is_grow (d := fun x => x.first) hd).is_frac (by omega)]
    · rintro i H1 hi ⟨e1, h1⟩
      obtain ⟨wi, hv⟩ : ∃ wi, ws[i]? = some wi := ⟨_, List.getElem?_eq_getElem (by rw [hw.len]; exact hi)⟩
      obtain ⟨x, hx⟩ : ∃ x, pls[i]? = some x := ⟨_, List.getElem?_eq_getElem hi⟩
      have hm : (ws.map V.ref)[i]? = some (V.ref wi) := by rw [List.getElem?_map, hv]; rfl
      refine ⟨⟨_, _, SqL.of (e1 _ _ hb), hm⟩, ?_⟩
      rintro y H4 ⟨rfl, hy⟩
      have ey : V.ref wi = y := Option.some.inj (hm.symm.trans (hy _ (SqL.of (e1 _ _ hb))))
      subst ey
      have n3 := hP.n3
      have hx1 := e1 _ _ (hw.at_ i _ x hv hx)
      refine ⟨rfl, ⟨_, rfl, _, _, _, _, rfl, rfl, hx1, rfl, _, rfl, _, _, _, _, rfl, rfl, hx1, rfl, (by show 2 ≤ sizeLine; decide), fun t H2 e2 n2 ht => ?_⟩⟩
      obtain ⟨acc, q1, q2, q3⟩ := h1.app e2 hx ht (by omega)
      exact ⟨acc, q1, q2, same_grow hD e1 e2, q3⟩
theorem ok_is_above_one (F : FunIn K mg "is_above_one" s_is_above_one ["fraction"]) : CalOk P w K mg base 1 "is_above_one" ["fraction"] sp_above := by
  have nd := sc_is_above_one.nd
  refine F.ok sc_is_above_one (fun vs H Q E h => ?_) (fun f cdv A outer s H vs Q E hr h => ?_)
  · obtain ⟨p, f, n, d, rfl, _⟩ := h
    rfl
  · obtain ⟨p, f, n, d, rfl, hp, hI, k⟩ := h
    refine ⟨_, (pss_one (ps_ret (pe_cmpR op_gt (pe_ix ix_tupH (pv 0) pe_int (fun _ _ => rfl)) (pe_ix ix_tupH (pv 0) pe_int (fun _ _ => rfl)) (nomark _)))), ?_⟩
    rw [KM.kept_one hI.self] at k
    exact ⟨_, rfl, _, _, _, _, rfl, rfl, hp, rfl, _, rfl, _, _, _, _, rfl, rfl, hp, rfl, _, _, rfl, rfl, k⟩
theorem ok_are_both_kept (F : FunIn K mg "are_both_kept" s_are_both_kept ["seeds", "worths"]) (c_is_above_one : CalOk P w K mg base 1 "is_above_one" ["fraction"] sp_above) (c_first_growth : CalOk P w K mg base 4 "first_growth" ["seeds", "worths"] (sp_growth fun x => x.second))
    (c_second_growth : CalOk P w K mg base 4 "second_growth" ["seeds", "worths"] (sp_growth fun x => x.first)) : CalOk P w K mg base 5 "are_both_kept" ["seeds", "worths"] sp_kept := by
  have nd := sc_are_both_kept.nd
  refine F.ok sc_are_both_kept (fun vs H Q E h => ?_) (fun f cdv A outer s H vs Q E hr h => ?_)
  · obtain ⟨a, b, pls, ws, rfl, _⟩ := h
    rfl
  · obtain ⟨a, b, pls, ws, rfl, ha, hb, hw, hP, k⟩ := h
    refine ⟨_, (pss_one (ps_ret (pe_and (pe_own c_is_above_one (hr.mono (by decide)) rfl (pa_cons (pe_own c_first_growth (hr.mono (by decide)) rfl (pa_cons (pv 0) (pa_cons (pv 1) pa_nil))) pa_nil)) (pe_one (pe_own c_is_above_one (hr.mono (by decide)) rfl (pa_cons (pe_own c_second_growth (hr.mono (by decide)) rfl (pa_cons (pv 0) (pa_cons (pv 1) pa_nil))) pa_nil)))))), ?_⟩
    have I1 := KM.is_grow (d := fun x => x.second) (pls := pls) fun x hx => (hP.pl x hx).s1
    have I2 := KM.is_grow (d := fun x => x.first) (pls := pls) fun x hx => (hP.pl x hx).f1
    unfold keptOf at k
    refine ⟨_, rfl, _, rfl, a, b, pls, ws, rfl, ha, hb, hw, hP, fun H1 t e1 n1 h1 => ⟨t, _, _, _, rfl, h1, I1, ?_⟩⟩
    refine ⟨_, rfl, ?_⟩
    cases hc : Kqp6.lt Kqp6.one (KM.growOf (fun x => x.second) pls) with
    | false =>
      rw [hc] at k
      exact iteF (k H1 e1)
    | true =>
      rw [hc] at k
      refine iteT ?_
      refine ⟨_, rfl, _, rfl, a, b, pls, ws, rfl, e1 _ _ ha, e1 _ _ hb, hw.same e1, hP, fun H2 t2 e2 n2 h2 => ⟨t2, _, _, _, rfl, h2, I2, ?_⟩⟩
      exact k H2 (e1.trans e2)
end
end KP

end

section
set_option Elab.async false
set_option linter.all false
set_option maxRecDepth 100000
set_option maxHeartbeats 2000000
set_option exponentiation.threshold 100000
namespace KP
open PySem PySem.Spec PyProof.Rows L2
open Builtin.Int (intBits)
open KM (Is PlOk ShOk fp sp mp LandOk SOk)
local macro_rules | `(tactic| walk_at "kq") => `(tactic| simp [and_assoc, tTest, tOp, tUn, tVar, tC, rNe, rEq, rI, rI0, rU, tSeq, tNext, tAsg, gName, gCons, gNil, tRet, tIfS, scal, L2.start, tCall, tCons, tNil, tTup, tLst, rIxTH, rIxLH, rLenL, atI, ixN, *])
theorem first_at {m : Int} : ∀ {ns : List Int}, m ∈ ns → ∃ j : Nat, ns[j]? = some m ∧ ∀ i, i < j → ns[i]? ≠ some m
  | a :: r, h => by
    by_cases e : a = m
    · exact ⟨0, by rw [e]; rfl, fun i hi => absurd hi (Nat.not_lt_zero _)⟩
    · have h' : m ∈ r := by
        rcases List.mem_cons.mp h with q | q
        · exact absurd q.symm e
        · exact q
      obtain ⟨j, h1, h2⟩ := first_at h'
      refine ⟨j + 1, h1, fun i hi => ?_⟩
      match i, hi with
      | 0, _ => exact fun q => e (Option.some.inj q)
      | i + 1, hi => exact h2 i (by omega)
abbrev s_best_place : Stmt := top 22
theorem sc_best_place : FnScope ["share", "worths", "parts", "worths_here"] ["share", "worths"] (defScope s_best_place) := ⟨rfl, rfl, rfl, by decide +kernel, rfl, by decide +kernel, by decide +kernel⟩
theorem bk_best_place : BlkOk ["share", "worths", "parts", "worths_here"] (defScope s_best_place) { kind := .function, names := [(".0", .local), ("worths_here", .local), ("mean_part", .globalImplicit), ("share", .free)], isGenerator := false, isCoroutine := false } [("worths_here", 3)] :=
  ⟨rfl, by decide +kernel, by decide +kernel, by decide +kernel, by decide +kernel⟩
def sp_best : Sp := fun vs H Q _ => ∃ p b f pls ws, vs = [.ref p, .ref b] ∧ H p = some (tupF f) ∧ H b = some (.lst (ws.map V.ref)) ∧ WsAt H ws pls ∧ PlsOk pls ∧ 1 ≤ pls.length ∧ FrOk f 900 ∧
  ∀ (H' : Hp) (j : Nat) (x : Kqp6.Place), Same H H' → pls[j]? = some x → (∀ (i : Nat) (z : Kqp6.Place), pls[i]? = some z → mp z f.num f.den ≤ mp x f.num f.den) → (∀ (i : Nat) (z : Kqp6.Place), i < j → pls[i]? = some z → mp z f.num f.den < mp x f.num f.den) → Q (.int (j : Int)) H'
abbrev s_power : Stmt := top 23
theorem sc_power : FnScope ["number", "times", "product", "turn"] ["number", "times"] (defScope s_power) := ⟨rfl, rfl, rfl, by decide +kernel, rfl, by decide +kernel, by decide +kernel⟩
def sp_power : Sp := fun vs H Q _ => ∃ (b : Int) (k : Nat), vs = [.int b, .int (k : Int)] ∧ intBits b ≤ 124 ∧ k ≤ 100 ∧ Q (.int (b ^ k)) H
abbrev s_product_of_means : Stmt := top 24
theorem sc_product_of_means : FnScope ["share", "seeds", "worths", "upper", "lower", "seeds_here", "worths_here", "mean"] ["share", "seeds", "worths"] (defScope s_product_of_means) := ⟨rfl, rfl, rfl, by decide +kernel, rfl, by decide +kernel, by decide +kernel⟩
theorem pow_bits {b : Int} {i : Nat} (hb : intBits b ≤ 124) (hi : i ≤ 100) : intBits (b ^ i) ≤ 12401 := Nat.le_trans (intBits_pow_le hb i) (by have := Nat.mul_le_mul_left 124 hi; omega)
def prG (g : Kqp6.Place → Int) : List Kqp6.Place → Int
  | [] => 1
  | x :: r => g x ^ x.seeds * prG g r
theorem prG_take {g : Kqp6.Place → Int} : ∀ (pls : List Kqp6.Place) (i : Nat) (x : Kqp6.Place), pls[i]? = some x → prG g (pls.take (i + 1)) = prG g (pls.take i) * g x ^ x.seeds
  | [], _, _, h => by simp at h
  | a :: r, 0, x, h => by
    have e : a = x := Option.some.inj h
    subst e
    show g a ^ a.seeds * 1 = 1 * g a ^ a.seeds
    rw [Int.mul_one, Int.one_mul]
  | a :: r, i + 1, x, h => by
    show g a ^ a.seeds * prG g (r.take (i + 1)) = g a ^ a.seeds * prG g (r.take i) * g x ^ x.seeds
    rw [prG_take r i x h, Int.mul_assoc]
theorem prG_bits {g : Kqp6.Place → Int} {pls : List Kqp6.Place} (hg : ∀ x ∈ pls, intBits (g x) ≤ 124 ∧ x.seeds ≤ 100) : ∀ i : Nat, i ≤ pls.length → intBits (prG g (pls.take i)) ≤ 12500 * i + 1
  | 0, _ => by show intBits (1 : Int) ≤ 1; decide +kernel
  | i + 1, h => by
    obtain ⟨x, hx⟩ : ∃ x, pls[i]? = some x := ⟨_, List.getElem?_eq_getElem (by omega)⟩
    obtain ⟨h1, h2⟩ := hg x (List.mem_of_getElem? hx)
    rw [prG_take pls i x hx]
    refine Nat.le_trans (intBits_mul_le (prG_bits hg i (by omega)) (intBits_pow_le h1 x.seeds)) ?_
    have := Nat.mul_le_mul_left 124 h2
    omega
theorem is_prG {f : Kqp6.Frac} {u l : Int} (hf : Is f u l) : ∀ pls : List Kqp6.Place, Is (KM.productOf pls f) (prG (fun x => (Kqp6.mean x f).num) pls) (prG (fun x => ((Kqp6.mean x f).den : Int)) pls)
  | [] => KM.is_one
  | x :: r => ((KM.is_mean x hf).self.power x.seeds).mul (is_prG hf r)
/-- a mean's numbers are not too great -/
theorem mean_bits {x : Kqp6.Place} {f : Kqp6.Frac} (X : PlOk x) (Fk : FrOk f 60) : intBits (Kqp6.mean x f).num ≤ 124 ∧ intBits ((Kqp6.mean x f).den : Int) ≤ 124 := by
  have I := KM.is_mean x Fk.is
  have hd : intBits ((Kqp6.mean x f).den : Int) ≤ 60 + 60 := bits_le (by omega) I.den_le (intBits_mul_le Fk.bits Fk.bits)
  have hp := KM.mp_pos X Fk.sh
  have h0 := I.num_nonneg (Int.le_of_lt hp)
  have h1 : (Kqp6.mean x f).num ≤ mp x f.num f.den := by
    have e := I.eq
    have h2 := Int.mul_le_mul_of_nonneg_left I.den_le (Int.le_of_lt hp)
    rw [← e] at h2
    exact Int.le_of_mul_le_mul_right h2 I.dp
  exact ⟨Nat.le_trans (bits_le h0 h1 (bits_mp X Fk.sh Fk.bits)) (by decide), Nat.le_trans hd (by decide)⟩
def sp_product : Sp := fun vs H Q _ => ∃ p a b f pls ws, vs = [.ref p, .ref a, .ref b] ∧ H p = some (tupF f) ∧ H a = some (seedsL pls) ∧ H b = some (.lst (ws.map V.ref)) ∧ WsAt H ws pls ∧ PlsOk pls ∧ FrOk f 60 ∧
  ∀ (H' : Hp) (t : Addr), Same H H' → H t = Option.none → H' t = some (.tup [.int (prG (fun x => (Kqp6.mean x f).num) pls), .int (prG (fun x => ((Kqp6.mean x f).den : Int)) pls)]) → Q (.ref t) H'
abbrev s_product_way : Stmt := top 25
theorem sc_product_way : FnScope ["share", "seeds", "worths", "later"] ["share", "seeds", "worths"] (defScope s_product_way) := ⟨rfl, rfl, rfl, by decide +kernel, rfl, by decide +kernel, by decide +kernel⟩
def sp_product_way : Sp := fun vs H Q _ => ∃ p a b f pls ws, vs = [.ref p, .ref a, .ref b] ∧ H p = some (tupF f) ∧ H a = some (seedsL pls) ∧ H b = some (.lst (ws.map V.ref)) ∧ WsAt H ws pls ∧ PlsOk pls ∧ FrOk f 6 ∧
  ∀ H' : Hp, Same H H' → Q (.int (wayOf (KM.productOf pls f) (KM.productOf pls (KM.nextOf pls f)))) H'
section
variable {P : Program} {w : World} {K : PySem.W.Frag} {mg : Str → Option Value} {base : Heap}
theorem ok_best_place (F : FunIn K mg "best_place" s_best_place ["share", "worths"]) (nm : mg "max" = none) (c_mean_part : CalOk P w K mg base 3 "mean_part" ["share", "worths"] (sp_of mp)) :
    CalOk P w K mg base 4 "best_place" ["share", "worths"] sp_best := by
  have nd := sc_best_place.nd
  refine F.ok sc_best_place (fun vs H Q E h => ?_) (fun f cdv A outer s H vs Q E hr h => ?_)
  · obtain ⟨p, b, f, pls, ws, rfl, _⟩ := h
    rfl
  · obtain ⟨p, b, f, pls, ws, rfl, hp, hb, hw, hP, h1l, Fk, k⟩ := h
    refine ⟨_, (pss_cons (ps_setLc (i := 2) (own := [("worths_here", 3)]) rfl nd rfl rfl (sw_true rfl rfl rfl rfl) (pi_list (pv 1)) bk_best_place (fun _ _ _ _ _ => (pg_name (i := 3) nd rfl (Or.inl rfl))) (fun _ _ _ _ _ => pts_nil) (fun _ _ _ _ _ => (pe_own c_mean_part (hr.mono (by decide)) rfl (pa_cons (pv 0) (pa_cons (pv 3) pa_nil)))))
      (pss_one (ps_ret (pe_bm PySem.F.plainAttrs_list PySem.F.slot_list_index PySem.F.type_list_index mt_index (pv 2) (pa_cons (pe_callB (cr_max rfl) (by rfl) nm boot_maxK (pa_cons (pv 2) pa_nil)) pa_nil))))), ?_⟩
    refine ⟨_, rfl, b, rfl, ⟨_, SqL.of hb⟩, fun D hD => ?_⟩
    refine lc_by (n := pls.length) (fun i H' => Same H H' ∧ H' D = some (.lst ((pls.take i).map fun x => V.int (mp x f.num f.den)))) ?_ ?_ ?_
    · exact ⟨Same.new hD, upd_same⟩
    · rintro H1 ⟨e1, h1⟩
      rw [List.take_length] at h1
      have hD1 : H1 D = some (.lst ((pls.map fun x => mp x f.num f.den).map V.int)) := by rw [h1, List.map_map]; rfl
      refine ⟨⟨_, SqL.of (e1 _ _ hb), by rw [List.length_map, hw.len]; exact Nat.le_refl _⟩, ?_⟩
      refine ⟨_, rfl, .inl ⟨rfl, _, SqL.of hD1⟩, _, rfl, D, _, rfl, SqL.of hD1, by rw [List.length_map]; omega, fun m hm hmx => ?_⟩
      obtain ⟨j, j1, j2⟩ := first_at hm
      obtain ⟨x, hx, ex⟩ : ∃ x, pls[j]? = some x ∧ mp x f.num f.den = m := by
        rw [List.getElem?_map] at j1
        cases q : pls[j]? with
        | none => rw [q] at j1; cases j1
        | some x => rw [q] at j1; exact ⟨x, rfl, Option.some.inj j1⟩
      have up : ∀ (i : Nat) (z : Kqp6.Place), pls[i]? = some z → mp z f.num f.den ≤ mp x f.num f.den := fun i z hz => by
        rw [ex]; exact hmx _ (List.mem_map.mpr ⟨z, List.mem_of_getElem? hz, rfl⟩)
      refine ⟨D, _, _, j, V.int m, rfl, rfl, SqL.of hD1, rfl, List.all_eq_true.mpr fun y hy => ?_, by rw [List.getElem?_map, j1]; rfl, by show (m == m) = true; exact beq_self_eq_true m, fun i z' hi hz' => ?_, k H1 j x e1 hx up fun i z hi hz => ?_⟩
      · obtain ⟨n, _, rfl⟩ := List.mem_map.mp hy
        rfl
      · rw [List.getElem?_map] at hz'
        cases q : (pls.map fun x => mp x f.num f.den)[i]? with
        | none => rw [q] at hz'; cases hz'
        | some n =>
          rw [q] at hz'
          have e : V.int n = z' := Option.some.inj hz'
          rw [← e]
          show (n == m) = false
          refine beq_eq_false_iff_ne.mpr fun z => j2 i hi (by rw [q, z])
      · have h3 := up i z hz
        have h4 := j2 i hi
        rw [List.getElem?_map, hz] at h4
        have h5 : mp z f.num f.den ≠ m := fun z => h4 (by rw [← z]; rfl)
        omega
    · rintro i H1 hi ⟨e1, h1⟩
      obtain ⟨wi, hv⟩ : ∃ wi, ws[i]? = some wi := ⟨_, List.getElem?_eq_getElem (by rw [hw.len]; exact hi)⟩
      obtain ⟨x, hx⟩ : ∃ x, pls[i]? = some x := ⟨_, List.getElem?_eq_getElem hi⟩
      have hm : (ws.map V.ref)[i]? = some (V.ref wi) := by rw [List.getElem?_map, hv]; rfl
      refine ⟨⟨_, _, SqL.of (e1 _ _ hb), hm⟩, ?_⟩
      rintro y H4 ⟨rfl, hy⟩
      have ey : V.ref wi = y := Option.some.inj (hm.symm.trans (hy _ (SqL.of (e1 _ _ hb))))
      subst ey
      have n3 := hP.n3
      refine ⟨rfl, ⟨_, rfl, _, rfl, p, wi, f.num, (f.den : Int), x, rfl, e1 _ _ hp, e1 _ _ (hw.at_ i _ x hv hx), hP.pl x (List.mem_of_getElem? hx), Fk.sh, Fk.bits, ?_⟩⟩
      refine ⟨_, h1, by rw [List.length_map, List.length_take, sizeLine_eq]; omega, same_grow hD e1 Same.refl, ?_⟩
      rw [upd_same, List.take_add_one, hx, List.map_append]
      rfl
theorem ok_power (F : FunIn K mg "power" s_power ["number", "times"]) (nr : mg "range" = none) : CalOk P w K mg base 1 "power" ["number", "times"] sp_power := by
  have nd := sc_power.nd
  refine F.ok sc_power (fun vs H Q E h => ?_) (fun f cdv A outer s H vs Q E hr h => ?_)
  · obtain ⟨b, n, rfl, _⟩ := h
    rfl
  · obtain ⟨b, n, rfl, hb, hn, k⟩ := h
    refine ⟨_, (pss_cons (ps_set (i := 2) nd rfl (Or.inl rfl) pe_int)
      (pss_cons (ps_for PassesOwn.never rfl (pi_range1 rfl nr (pa_cons (pv 1) pa_nil)) (pg_name (i := 3) nd rfl (Or.inl rfl))
        (pss_one (ps_set (i := 2) nd rfl (Or.inl rfl) (pe_op op_mulB (pv 2) (pv 0)))))
      (pss_one (ps_ret (pv 2))))), ?_⟩
    refine ⟨_, rfl, (n : Int), rfl, by omega, by omega, for_range (fun i σ H' => ∃ v : Option V, σ = [some (.int b), some (.int (n : Int)), some (.int (b ^ i)), v] ∧ H' = H) ⟨none, by rw [Int.pow_zero]; rfl, rfl⟩ ?_ ?_⟩
    · rintro i σ H' hi ⟨v, rfl, rfl⟩
      have hi' : i < n := by omega
      have m1 : IntMulOk (b ^ i) b := mulOk (pow_bits hb (by omega)) hb (by decide)
      refine ⟨_, rfl, _, rfl, _, _, rfl, rfl, m1, ⟨some (.int (0 + (i : Int))), ?_, rfl⟩⟩
      rw [Int.pow_succ]; rfl
    · rintro σ H' ⟨v, rfl, rfl⟩
      exact ⟨_, rfl, k⟩
theorem ok_product_of_means (F : FunIn K mg "product_of_means" s_product_of_means ["share", "seeds", "worths"]) (nz : mg "zip" = none) (c_power : CalOk P w K mg base 1 "power" ["number", "times"] sp_power) (c_mean_worth : CalOk P w K mg base 4 "mean_worth" ["share", "worths"] (sp_frac Kqp6.mean)) :
    CalOk P w K mg base 5 "product_of_means" ["share", "seeds", "worths"] sp_product := by
  have nd := sc_product_of_means.nd
  refine F.ok sc_product_of_means (fun vs H Q E h => ?_) (fun f cdv A outer s H vs Q E hr h => ?_)
  · obtain ⟨p, a, b, f, pls, ws, rfl, _⟩ := h
    rfl
  · obtain ⟨p, a, b, f, pls, ws, rfl, hp, ha, hb, hw, hP, Fk, k⟩ := h
    refine ⟨_, (pss_cons (ps_set (i := 3) nd rfl (Or.inl rfl) pe_int)
      (pss_cons (ps_set (i := 4) nd rfl (Or.inl rfl) pe_int)
      (pss_cons (ps_for PassesOwn.never rfl (pi_zip rfl nz (pa_cons (pv 1) (pa_cons (pv 2) pa_nil))) (pg_tup rfl (pgs_cons (pg_name (i := 5) nd rfl (Or.inl rfl)) (pgs_cons (pg_name (i := 6) nd rfl (Or.inl rfl)) pgs_nil)))
        (pss_cons (ps_set (i := 7) nd rfl (Or.inl rfl) (pe_own c_mean_worth (hr.mono (by decide)) rfl (pa_cons (pv 0) (pa_cons (pv 6) pa_nil))))
      (pss_cons (ps_set (i := 3) nd rfl (Or.inl rfl) (pe_op op_mulB (pv 3) (pe_own c_power (hr.mono (by decide)) rfl (pa_cons (pe_ix ix_tupH (pv 7) pe_int (fun _ _ => rfl)) (pa_cons (pv 5) pa_nil)))))
      (pss_one (ps_set (i := 4) nd rfl (Or.inl rfl) (pe_op op_mulB (pv 4) (pe_own c_power (hr.mono (by decide)) rfl (pa_cons (pe_ix ix_tupH (pv 7) pe_int (fun _ _ => rfl)) (pa_cons (pv 5) pa_nil)))))))))
      (pss_one (ps_ret (pe_tupS (pa_cons (pv 3) (pa_cons (pv 4) pa_nil)))))))), ?_⟩
    have hlen : (pls.map fun x => V.int (x.seeds : Int)).length = (ws.map V.ref).length := by rw [List.length_map, List.length_map, hw.len]
    have hs100 : ∀ x ∈ pls, x.seeds ≤ 100 := fun x hx => by
      have := KM.seeds_le hx
      rw [hP.sum] at this; exact this
    have gN : ∀ x ∈ pls, intBits (Kqp6.mean x f).num ≤ 124 ∧ x.seeds ≤ 100 := fun x hx => ⟨(mean_bits (hP.pl x hx) Fk).1, hs100 x hx⟩
    have gD : ∀ x ∈ pls, intBits ((Kqp6.mean x f).den : Int) ≤ 124 ∧ x.seeds ≤ 100 := fun x hx => ⟨(mean_bits (hP.pl x hx) Fk).2, hs100 x hx⟩
    refine ⟨_, rfl, _, rfl, a, b, _, _, rfl, SqL.of ha, SqL.of hb, for_zip (K := K) (fun i σ H' => ∃ v5 v6 v7 : Option V, σ = [some (.ref p), some (.ref a), some (.ref b), some (.int (prG (fun x => (Kqp6.mean x f).num) (pls.take i))), some (.int (prG (fun x => ((Kqp6.mean x f).den : Int)) (pls.take i))), v5, v6, v7] ∧ Same H H') hlen
      ⟨none, none, none, rfl, Same.refl⟩ (fun i σ H' _ ⟨_, _, _, _, e⟩ => ⟨SqL.of (e _ _ ha), SqL.of (e _ _ hb)⟩) ?_ ?_⟩
    · rintro i x y σ H' T hx hy ⟨v5, v6, v7, rfl, e⟩ hT
      obtain ⟨z, hz, rfl⟩ : ∃ z, pls[i]? = some z ∧ x = V.int (z.seeds : Int) := by
        rw [List.getElem?_map] at hx
        cases q : pls[i]? with
        | none => rw [q] at hx; cases hx
        | some z => rw [q] at hx; exact ⟨z, rfl, (Option.some.inj hx).symm⟩
      obtain ⟨v, hv, rfl⟩ : ∃ v, ws[i]? = some v ∧ y = V.ref v := by
        rw [List.getElem?_map] at hy
        cases q : ws[i]? with
        | none => rw [q] at hy; cases hy
        | some v => rw [q] at hy; exact ⟨v, rfl, (Option.some.inj hy).symm⟩
      have zm := List.mem_of_getElem? hz
      have e2 : Same H (upd H' T (.tup [.int (z.seeds : Int), .ref v])) := e.trans (Same.new hT)
      refine ⟨T, _, rfl, SqT.of upd_same, rfl, _, _, rfl, _, _, rfl, rfl, ?_⟩
      generalize upd H' T (.tup [.int (z.seeds : Int), .ref v]) = H2 at *
      have hil : i < pls.length := (List.getElem?_eq_some_iff.mp hz).1
      have hn3 := hP.n3
      have bN : intBits (prG (fun x => (Kqp6.mean x f).num) (pls.take i)) ≤ 40000 := Nat.le_trans (prG_bits gN i (by omega)) (by omega)
      have bD : intBits (prG (fun x => ((Kqp6.mean x f).den : Int)) (pls.take i)) ≤ 40000 := Nat.le_trans (prG_bits gD i (by omega)) (by omega)
      have h124 := Nat.mul_le_mul_left 124 (hs100 z zm)
      have m1 : IntMulOk (prG (fun x => (Kqp6.mean x f).num) (pls.take i)) ((Kqp6.mean z f).num ^ z.seeds) := mulOk bN (pow_bits (gN z zm).1 (hs100 z zm)) (by decide)
      have m2 : IntMulOk (prG (fun x => ((Kqp6.mean x f).den : Int)) (pls.take i)) (((Kqp6.mean z f).den : Int) ^ z.seeds) := mulOk bD (pow_bits (gD z zm).1 (hs100 z zm)) (by decide)
      refine ⟨_, rfl, _, rfl, p, v, f, z, rfl, e2 _ _ hp, e2 _ _ (hw.at_ i v z hv hz), hP.pl z zm, Fk.mono (by decide), fun t ht => ?_⟩
      have e3 := e2.trans (Same.new (o := tupF (Kqp6.mean z f)) ht)
      have h3 : upd H2 t (tupF (Kqp6.mean z f)) t = some (tupF (Kqp6.mean z f)) := upd_same
      generalize upd H2 t (tupF (Kqp6.mean z f)) = H3 at *
      refine ⟨_, rfl, _, rfl, _, _, _, _, rfl, rfl, h3, rfl, _, rfl, _, z.seeds, rfl, (gN z zm).1, hs100 z zm, _, _, rfl, rfl, m1, ?_⟩
      refine ⟨_, rfl, _, rfl, _, _, _, _, rfl, rfl, h3, rfl, _, rfl, _, z.seeds, rfl, (gD z zm).1, hs100 z zm, _, _, rfl, rfl, m2, ?_⟩
      refine ⟨some (.int (z.seeds : Int)), some (.ref v), some (.ref t), ?_, e3⟩
      rw [prG_take pls i z hz, prG_take pls i z hz]
      rfl
    · rintro σ H' ⟨v5, v6, v7, rfl, e⟩
      rw [List.length_map, List.take_length]
      exact ⟨_, rfl, _, rfl, (by show 2 ≤ sizeLine; decide), fun t H1 e1 n1 h1 => k H1 t (e.trans e1) (e.free n1) h1⟩
theorem ok_product_way (F : FunIn K mg "product_way" s_product_way ["share", "seeds", "worths"]) (c_direction : CalOk P w K mg base 1 "direction" ["before", "later"] sp_direction) (c_product : CalOk P w K mg base 5 "product_of_means" ["share", "seeds", "worths"] sp_product)
    (c_share_next : CalOk P w K mg base 5 "share_next" ["share", "seeds", "worths"] sp_share_next) : CalOk P w K mg base 6 "product_way" ["share", "seeds", "worths"] sp_product_way := by
  have nd := sc_product_way.nd
  refine F.ok sc_product_way (fun vs H Q E h => ?_) (fun f cdv A outer s H vs Q E hr h => ?_)
  · obtain ⟨p, a, b, f, pls, ws, rfl, _⟩ := h
    rfl
  · obtain ⟨p, a, b, f, pls, ws, rfl, hp, ha, hb, hw, hP, Fk, k⟩ := h
    refine ⟨_, (pss_cons (ps_set (i := 3) nd rfl (Or.inl rfl) (pe_own c_share_next (hr.mono (by decide)) rfl (pa_cons (pv 0) (pa_cons (pv 1) (pa_cons (pv 2) pa_nil)))))
      (pss_one (ps_ret (pe_own c_direction (hr.mono (by decide)) rfl (pa_cons (pe_own c_product (hr.mono (by decide)) rfl (pa_cons (pv 0) (pa_cons (pv 1) (pa_cons (pv 2) pa_nil)))) (pa_cons (pe_own c_product (hr.mono (by decide)) rfl (pa_cons (pv 3) (pa_cons (pv 1) (pa_cons (pv 2) pa_nil)))) pa_nil)))))), ?_⟩
    have Nk := (next_fr hP Fk).mono (n := 60) (by decide)
    have F6 := Fk.mono (n := 60) (by decide)
    have bits : ∀ (g : Kqp6.Place → Int), (∀ x ∈ pls, intBits (g x) ≤ 124) → intBits (prG g pls) ≤ 60000 := fun g hg => by
      have h := prG_bits (g := g) (pls := pls) (fun x hx => ⟨hg x hx, by have := KM.seeds_le hx; rw [hP.sum] at this; exact this⟩) pls.length (Nat.le_refl _)
      have n3 := hP.n3
      rw [List.take_length] at h
      exact Nat.le_trans h (by omega)
    refine ⟨_, rfl, _, rfl, _, rfl, p, a, b, f, pls, ws, rfl, hp, ha, hb, hw, hP, Fk.mono (by decide), fun H1 t e1 n1 h1 => ?_⟩
    refine ⟨_, rfl, _, rfl, _, rfl, p, a, b, f, pls, ws, rfl, e1 _ _ hp, e1 _ _ ha, e1 _ _ hb, hw.same e1, hP, F6, fun H2 t2 e2 n2 h2 => ?_⟩
    have e12 := e1.trans e2
    refine ⟨_, rfl, _, rfl, _, rfl, t, a, b, _, pls, ws, rfl, e2 _ _ h1, e12 _ _ ha, e12 _ _ hb, hw.same e12, hP, Nk, fun H3 t3 e3 n3 h3 => ?_⟩
    refine ⟨t2, t3, _, _, _, _, rfl, e3 _ _ h2, h3, bits _ fun x hx => (mean_bits (hP.pl x hx) F6).1, bits _ fun x hx => (mean_bits (hP.pl x hx) F6).2, bits _ fun x hx => (mean_bits (hP.pl x hx) Nk).1, bits _ fun x hx => (mean_bits (hP.pl x hx) Nk).2, ?_⟩
    rw [← way_dir (is_prG Fk.is pls) (is_prG Nk.is pls)]
    exact k H3 (e12.trans e3)
end
end KP

end

section
set_option Elab.async false
set_option linter.all false
set_option maxRecDepth 100000
set_option maxHeartbeats 2000000
set_option exponentiation.threshold 100000
namespace KP
open PySem PySem.Spec PyProof.Rows L2
open Builtin.Int (intBits)
open KM (Is PlOk ShOk fp sp mp LandOk SOk)
abbrev s_tell_way : Stmt := top 60
theorem sc_tell_way : FnScope ["field", "numbers"] ["field", "numbers"] (defScope s_tell_way) := ⟨rfl, rfl, rfl, by decide +kernel, rfl, by decide +kernel, by decide +kernel⟩
abbrev s_tell_way_at : Stmt := top 61
theorem sc_tell_way_at : FnScope ["field", "numbers"] ["field", "numbers"] (defScope s_tell_way_at) := ⟨rfl, rfl, rfl, by decide +kernel, rfl, by decide +kernel, by decide +kernel⟩
abbrev s_tell_enters : Stmt := top 62
theorem sc_tell_enters : FnScope ["field", "numbers"] ["field", "numbers"] (defScope s_tell_enters) := ⟨rfl, rfl, rfl, by decide +kernel, rfl, by decide +kernel, by decide +kernel⟩
abbrev s_tell_enters_other : Stmt := top 63
theorem sc_tell_enters_other : FnScope ["field", "numbers"] ["field", "numbers"] (defScope s_tell_enters_other) := ⟨rfl, rfl, rfl, by decide +kernel, rfl, by decide +kernel, by decide +kernel⟩
abbrev s_tell_both : Stmt := top 64
theorem sc_tell_both : FnScope ["field", "numbers"] ["field", "numbers"] (defScope s_tell_both) := ⟨rfl, rfl, rfl, by decide +kernel, rfl, by decide +kernel, by decide +kernel⟩
abbrev s_tell_at_place : Stmt := top 65
theorem sc_tell_at_place : FnScope ["field", "numbers"] ["field", "numbers"] (defScope s_tell_at_place) := ⟨rfl, rfl, rfl, by decide +kernel, rfl, by decide +kernel, by decide +kernel⟩
abbrev s_tell_more : Stmt := top 66
theorem sc_tell_more : FnScope ["field", "numbers"] ["field", "numbers"] (defScope s_tell_more) := ⟨rfl, rfl, rfl, by decide +kernel, rfl, by decide +kernel, by decide +kernel⟩
abbrev s_tell_place : Stmt := top 69
theorem sc_tell_place : FnScope ["field", "numbers"] ["field", "numbers"] (defScope s_tell_place) := ⟨rfl, rfl, rfl, by decide +kernel, rfl, by decide +kernel, by decide +kernel⟩
abbrev s_tell_state : Stmt := top 70
theorem sc_tell_state : FnScope ["field", "numbers"] ["field", "numbers"] (defScope s_tell_state) := ⟨rfl, rfl, rfl, by decide +kernel, rfl, by decide +kernel, by decide +kernel⟩
/-- a share as it is told: x by y -/
theorem told_fr {x y : Int} {m : Nat} (hx : 0 ≤ x) (hy : 0 < y) (h : x ≤ y) (hb : intBits y ≤ m) : FrOk (Kqp6.frac x y.toNat) m := FrOk.of_is (Is.frac (k := y.toNat) hy (by omega)) hx h hb
theorem okShare_true {x y : Int} (hx : 0 ≤ x) (hb : Kqp6.okShare x.toNat y.toNat = true) : 0 < y ∧ y ≤ 100 ∧ x ≤ y := by
  unfold Kqp6.okShare at hb
  simp only [Bool.and_eq_true, decide_eq_true_eq] at hb
  omega
section
variable {P : Program} {w : World} {K : PySem.W.Frag} {mg : Str → Option Value} {base : Heap} {C : Addr}
theorem ok_tell_way (F : FunIn K mg "tell_way" s_tell_way ["field", "numbers"]) (T : FC K C) (c_share_way : CalOk P w K mg base 6 "share_way" ["share", "seeds", "worths"] sp_share_way) :
    CalOk P w K mg base 7 "tell_way" ["field", "numbers"] (sp_ro C 0 (stepAns 9)) := by
  have nd := sc_tell_way.nd
  refine F.ok sc_tell_way (fun vs H Q E h => ?_) (fun f cdv A outer s H vs Q E hr h => ?_)
  · obtain ⟨a, sl, wl, sh, nl, l, args, rfl, _⟩ := h
    rfl
  · obtain ⟨a, sl, wl, sh, nl', l, args, rfl, hL, L, hn, hlen, hpos, k⟩ := h
    obtain rfl := List.eq_nil_of_length_eq_zero hlen
    refine ⟨_, (pss_one (ps_ret (pe_lstS (pa_cons pe_int (pa_cons (pe_own c_share_way (hr.mono (by decide)) rfl (pa_cons (pe_fld (pv 0) rfl) (pa_cons (pe_fld (pv 0) rfl) (pa_cons (pe_fld (pv 0) rfl) pa_nil)))) pa_nil))))), ?_⟩
    obtain ⟨dx, i1⟩ := hL.ins
    obtain ⟨ws, i2, W⟩ := hL.worths
    refine ⟨_, rfl, a, C, dx, _, _, rfl, i1, T.cl, T.n3, flds_share .., _, rfl, a, C, dx, _, _, rfl, i1, T.cl, T.n1, flds_seeds .., _, rfl, a, C, dx, _, _, rfl, i1, T.cl, T.n2, flds_worths .., ?_⟩
    refine ⟨sh, sl, wl, l.share, l.places, ws, rfl, hL.share, hL.seeds, i2, W, land_pls L, (land_fr L).mono (by decide), fun H1 e1 => ?_⟩
    refine ⟨by show 2 ≤ sizeLine; decide, fun r H2 e2 n2 h2 => k H2 r (e1.trans e2) (e1.free n2) ?_⟩
    rw [h2]
    rfl
theorem ok_tell_way_at (F : FunIn K mg "tell_way_at" s_tell_way_at ["field", "numbers"]) (T : FC K C) (g22 : GI mg "NOT_AS_TOLD" (-22)) (c_is_share : CalOk P w K mg base 1 "is_share" ["upper", "lower"] sp_is_share) (c_lowest : CalOk P w K mg base 2 "lowest" ["upper", "lower"] sp_lowest)
    (c_share_way : CalOk P w K mg base 6 "share_way" ["share", "seeds", "worths"] sp_share_way) : CalOk P w K mg base 7 "tell_way_at" ["field", "numbers"] (sp_ro C 2 (stepAns 10)) := by
  have nd := sc_tell_way_at.nd
  refine F.ok sc_tell_way_at (fun vs H Q E h => ?_) (fun f cdv A outer s H vs Q E hr h => ?_)
  · obtain ⟨a, sl, wl, sh, nl, l, args, rfl, _⟩ := h
    rfl
  · obtain ⟨a, sl, wl, sh, nl', l, args, rfl, hL, L, hn, hlen, hpos, k⟩ := h
    obtain ⟨x, y, rfl⟩ := len2 hlen
    have hx := hpos x (by simp)
    have hy := hpos y (by simp)
    simp only [List.map_cons, List.map_nil] at hn
    refine ⟨_, (pss_cons (ps_if (pt_not (pt_val (pe_own c_is_share (hr.mono (by decide)) rfl (pa_cons (pe_ix ix_listH (pv 1) pe_int (fun _ _ => rfl)) (pa_cons (pe_ix ix_listH (pv 1) pe_int (fun _ _ => rfl)) pa_nil))))) (pss_one (ps_ret (pe_lstS (pa_cons (pe_gi g22) pa_nil)))) pss_nil)
      (pss_one (ps_ret (pe_lstS (pa_cons pe_int (pa_cons (pe_own c_share_way (hr.mono (by decide)) rfl (pa_cons (pe_own c_lowest (hr.mono (by decide)) rfl (pa_cons (pe_ix ix_listH (pv 1) pe_int (fun _ _ => rfl)) (pa_cons (pe_ix ix_listH (pv 1) pe_int (fun _ _ => rfl)) pa_nil))) (pa_cons (pe_fld (pv 0) rfl) (pa_cons (pe_fld (pv 0) rfl) pa_nil)))) pa_nil)))))), ?_⟩
    have hst : stepAns 10 l [x, y] = if Kqp6.okShare x.toNat y.toNat = false then [-22] else [0, Kqp6.way l (Kqp6.frac (x.toNat : Int) y.toNat)] := by
      show Kqp6Neutral.tell (if Kqp6.okShare x.toNat y.toNat = false then _ else _) = _
      split <;> rfl
    rw [hst] at k
    refine ⟨_, rfl, _, _, _, _, rfl, rfl, hn, rfl, _, rfl, _, _, _, _, rfl, rfl, hn, rfl, x, y, rfl, hx, hy, _, rfl, ?_⟩
    cases hb : Kqp6.okShare x.toNat y.toNat with
    | false =>
      rw [if_pos hb] at k
      exact iteT ⟨by decide, fun t H1 e1 n1 h1 => k H1 t e1 n1 h1⟩
    | true =>
      rw [if_neg (by rw [hb]; decide)] at k
      refine iteF ?_
      obtain ⟨hy0, hy1, hxy⟩ := okShare_true hx hb
      have b7 : intBits y ≤ 7 := bits_le (y := 100) (by omega) (by omega) bits100
      have hlog : y.natAbs.log2 < 9000 := log_of_bits hy0 (Nat.le_trans b7 (by decide))
      refine ⟨_, rfl, _, _, _, _, rfl, rfl, hn, rfl, _, rfl, _, _, _, _, rfl, rfl, hn, rfl, x, y, rfl, hx, hy0, hlog, fun t nt => ?_⟩
      have e1 := Same.new (o := tupF (Kqp6.frac x y.toNat)) nt
      have h1 : upd H t (tupF (Kqp6.frac x y.toNat)) t = some (tupF (Kqp6.frac x y.toNat)) := upd_same
      generalize upd H t (tupF (Kqp6.frac x y.toNat)) = H1 at *
      have L1 := hL.same e1
      obtain ⟨dx, i1⟩ := L1.ins
      obtain ⟨ws, i2, W⟩ := L1.worths
      refine ⟨_, rfl, a, C, dx, _, _, rfl, i1, T.cl, T.n1, flds_seeds .., _, rfl, a, C, dx, _, _, rfl, i1, T.cl, T.n2, flds_worths .., ?_⟩
      refine ⟨t, sl, wl, _, l.places, ws, rfl, h1, L1.seeds, i2, W, land_pls L, told_fr hx hy0 hxy (Nat.le_trans b7 (by decide)), fun H2 e2 => ?_⟩
      refine ⟨by show 2 ≤ sizeLine; decide, fun r H3 e3 n3 h3 => k H3 r ((e1.trans e2).trans e3) ((e1.trans e2).free n3) ?_⟩
      rw [h3, show ((x.toNat : Nat) : Int) = x by omega]
      rfl
theorem ok_tell_enters (F : FunIn K mg "tell_enters" s_tell_enters ["field", "numbers"]) (T : FC K C) (nl : mg "list" = none) (c_first_growth : CalOk P w K mg base 4 "first_growth" ["seeds", "worths"] (sp_growth fun x => x.second)) :
    CalOk P w K mg base 5 "tell_enters" ["field", "numbers"] (sp_ro C 0 (stepAns 11)) := by
  have nd := sc_tell_enters.nd
  refine F.ok sc_tell_enters (fun vs H Q E h => ?_) (fun f cdv A outer s H vs Q E hr h => ?_)
  · obtain ⟨a, sl, wl, sh, nl, l, args, rfl, _⟩ := h
    rfl
  · obtain ⟨a, sl, wl, sh, nl', l, args, rfl, hL, L, hn, hlen, hpos, k⟩ := h
    obtain rfl := List.eq_nil_of_length_eq_zero hlen
    refine ⟨_, (pss_one (ps_ret (pe_op op_catS (pe_lstS (pa_cons pe_int pa_nil)) (pe_callTy call_listS (by rfl) nl boot_listK (pa_cons (pe_own c_first_growth (hr.mono (by decide)) rfl (pa_cons (pe_fld (pv 0) rfl) (pa_cons (pe_fld (pv 0) rfl) pa_nil))) pa_nil))))), ?_⟩
    refine ⟨by decide, fun q H1 e1 n1 h1 => ?_⟩
    have L1 := hL.same e1
    obtain ⟨dx, i1⟩ := L1.ins
    obtain ⟨ws, i2, W⟩ := L1.worths
    refine ⟨_, rfl, a, C, dx, _, _, rfl, i1, T.cl, T.n1, flds_seeds .., _, rfl, a, C, dx, _, _, rfl, i1, T.cl, T.n2, flds_worths .., ?_⟩
    refine ⟨sl, wl, l.places, ws, rfl, L1.seeds, i2, W, land_pls L, fun H2 t e2 n2 h2 => ?_⟩
    refine ⟨t, _, rfl, h2, fun r H3 e3 n3 h3 => ⟨q, r, _, _, rfl, rfl, e3 _ _ (e2 _ _ h1), h3, by show 3 ≤ sizeLine; decide, fun v H4 e4 n4 h4 => k H4 v (((e1.trans e2).trans e3).trans e4) (((e1.trans e2).trans e3).free n4) h4⟩⟩
theorem ok_tell_enters_other (F : FunIn K mg "tell_enters_other" s_tell_enters_other ["field", "numbers"]) (T : FC K C) (nl : mg "list" = none) (c_second_growth : CalOk P w K mg base 4 "second_growth" ["seeds", "worths"] (sp_growth fun x => x.first)) :
    CalOk P w K mg base 5 "tell_enters_other" ["field", "numbers"] (sp_ro C 0 (stepAns 12)) := by
  have nd := sc_tell_enters_other.nd
  refine F.ok sc_tell_enters_other (fun vs H Q E h => ?_) (fun f cdv A outer s H vs Q E hr h => ?_)
  · obtain ⟨a, sl, wl, sh, nl, l, args, rfl, _⟩ := h
    rfl
  · obtain ⟨a, sl, wl, sh, nl', l, args, rfl, hL, L, hn, hlen, hpos, k⟩ := h
    obtain rfl := List.eq_nil_of_length_eq_zero hlen
    refine ⟨_, (pss_one (ps_ret (pe_op op_catS (pe_lstS (pa_cons pe_int pa_nil)) (pe_callTy call_listS (by rfl) nl boot_listK (pa_cons (pe_own c_second_growth (hr.mono (by decide)) rfl (pa_cons (pe_fld (pv 0) rfl) (pa_cons (pe_fld (pv 0) rfl) pa_nil))) pa_nil))))), ?_⟩
    refine ⟨by decide, fun q H1 e1 n1 h1 => ?_⟩
    have L1 := hL.same e1
    obtain ⟨dx, i1⟩ := L1.ins
    obtain ⟨ws, i2, W⟩ := L1.worths
    refine ⟨_, rfl, a, C, dx, _, _, rfl, i1, T.cl, T.n1, flds_seeds .., _, rfl, a, C, dx, _, _, rfl, i1, T.cl, T.n2, flds_worths .., ?_⟩
    refine ⟨sl, wl, l.places, ws, rfl, L1.seeds, i2, W, land_pls L, fun H2 t e2 n2 h2 => ?_⟩
    refine ⟨t, _, rfl, h2, fun r H3 e3 n3 h3 => ⟨q, r, _, _, rfl, rfl, e3 _ _ (e2 _ _ h1), h3, by show 3 ≤ sizeLine; decide, fun v H4 e4 n4 h4 => k H4 v (((e1.trans e2).trans e3).trans e4) (((e1.trans e2).trans e3).free n4) h4⟩⟩
theorem ok_tell_both (F : FunIn K mg "tell_both" s_tell_both ["field", "numbers"]) (T : FC K C) (c_kept : CalOk P w K mg base 5 "are_both_kept" ["seeds", "worths"] sp_kept) :
    CalOk P w K mg base 6 "tell_both" ["field", "numbers"] (sp_ro C 0 (stepAns 13)) := by
  have nd := sc_tell_both.nd
  refine F.ok sc_tell_both (fun vs H Q E h => ?_) (fun f cdv A outer s H vs Q E hr h => ?_)
  · obtain ⟨a, sl, wl, sh, nl, l, args, rfl, _⟩ := h
    rfl
  · obtain ⟨a, sl, wl, sh, nl', l, args, rfl, hL, L, hn, hlen, hpos, k⟩ := h
    obtain rfl := List.eq_nil_of_length_eq_zero hlen
    refine ⟨_, (pss_cons (ps_if (pt_val (pe_own c_kept (hr.mono (by decide)) rfl (pa_cons (pe_fld (pv 0) rfl) (pa_cons (pe_fld (pv 0) rfl) pa_nil)))) (pss_one (ps_ret (pe_lstS (pa_cons pe_int pa_nil)))) pss_nil)
      (pss_one (ps_ret (pe_lstS (pa_cons pe_int pa_nil))))), ?_⟩
    have hst : stepAns 13 l [] = [if keptOf l.places = true then 1 else 0] := rfl
    rw [hst] at k
    obtain ⟨dx, i1⟩ := hL.ins
    obtain ⟨ws, i2, W⟩ := hL.worths
    refine ⟨_, rfl, a, C, dx, _, _, rfl, i1, T.cl, T.n1, flds_seeds .., _, rfl, a, C, dx, _, _, rfl, i1, T.cl, T.n2, flds_worths .., ?_⟩
    refine ⟨sl, wl, l.places, ws, rfl, hL.seeds, i2, W, land_pls L, fun H1 e1 => ⟨_, rfl, ?_⟩⟩
    cases hb : keptOf l.places with
    | true =>
      rw [hb] at k
      exact iteT ⟨by decide, fun t H2 e2 n2 h2 => k H2 t (e1.trans e2) (e1.free n2) h2⟩
    | false =>
      rw [hb] at k
      exact iteF ⟨by decide, fun t H2 e2 n2 h2 => k H2 t (e1.trans e2) (e1.free n2) h2⟩
theorem ok_tell_at_place (F : FunIn K mg "tell_at_place" s_tell_at_place ["field", "numbers"]) (T : FC K C) (nl : mg "list" = none) (g2 : GI mg "NO_SUCH_PLACE" (-2)) (c_is_place : CalOk P w K mg base 1 "is_place" ["field", "place"] (sp_is_place C))
    (c_chosen_share : CalOk P w K mg base 5 "chosen_share" ["share", "worths"] (sp_fracS KM.chosen)) : CalOk P w K mg base 6 "tell_at_place" ["field", "numbers"] (sp_ro C 1 (stepAns 14)) := by
  have nd := sc_tell_at_place.nd
  refine F.ok sc_tell_at_place (fun vs H Q E h => ?_) (fun f cdv A outer s H vs Q E hr h => ?_)
  · obtain ⟨a, sl, wl, sh, nl, l, args, rfl, _⟩ := h
    rfl
  · obtain ⟨a, sl, wl, sh, nl', l, args, rfl, hL, L, hn, hlen, hpos, k⟩ := h
    obtain ⟨i, rfl⟩ := List.length_eq_one_iff.mp hlen
    have hi := hpos i (by simp)
    simp only [List.map_cons, List.map_nil] at hn
    refine ⟨_, (pss_cons (ps_if (pt_not (pt_val (pe_own c_is_place (hr.mono (by decide)) rfl (pa_cons (pv 0) (pa_cons (pe_ix ix_listH (pv 1) pe_int (fun _ _ => rfl)) pa_nil))))) (pss_one (ps_ret (pe_lstS (pa_cons (pe_gi g2) pa_nil)))) pss_nil)
      (pss_one (ps_ret (pe_op op_catS (pe_lstS (pa_cons pe_int pa_nil)) (pe_callTy call_listS (by rfl) nl boot_listK (pa_cons (pe_own c_chosen_share (hr.mono (by decide)) rfl (pa_cons (pe_fld (pv 0) rfl) (pa_cons (pe_ix ix_listH (pe_fld (pv 0) rfl) (pe_ix ix_listH (pv 1) pe_int (fun _ _ => rfl)) (fun _ _ => rfl)) pa_nil))) pa_nil)))))), ?_⟩
    obtain ⟨dx, i1⟩ := hL.ins
    refine ⟨_, rfl, _, rfl, _, _, _, _, rfl, rfl, hn, rfl, a, dx, sl, wl, sh, _, i, rfl, i1, hL.seeds, _, rfl, ?_⟩
    rw [List.length_map]
    by_cases hlt : i < (l.places.length : Int)
    · rw [decide_eq_true hlt]
      refine iteF ?_
      obtain ⟨x, hx⟩ : ∃ x, l.places[i.toNat]? = some x := ⟨_, List.getElem?_eq_getElem (by omega)⟩
      refine ⟨by decide, fun q H1 e1 n1 h1 => ?_⟩
      have L1 := hL.same e1
      obtain ⟨dx1, j1⟩ := L1.ins
      obtain ⟨ws, j2, W⟩ := L1.worths
      obtain ⟨wi, hv⟩ : ∃ wi, ws[i.toNat]? = some wi := ⟨_, List.getElem?_eq_getElem (by rw [W.len]; omega)⟩
      refine ⟨_, rfl, a, C, dx1, _, _, rfl, j1, T.cl, T.n3, flds_share .., _, rfl, a, C, dx1, _, _, rfl, j1, T.cl, T.n2, flds_worths .., _, rfl, _, _, _, _, rfl, rfl, e1 _ _ hn, rfl, _, _, _, _, rfl, rfl, j2, at_of (j := i.toNat) (v := V.ref wi) (by omega) (by rw [List.getElem?_map, hv]; rfl), ?_⟩
      refine ⟨sh, wi, l.share, x, rfl, L1.share, W.at_ _ _ _ hv hx, L.pl x (List.mem_of_getElem? hx), (land_fr L).mono (by decide), fun t H2 e2 n2 h2 => ?_⟩
      refine ⟨t, _, rfl, h2, fun r H3 e3 n3 h3 => ⟨q, r, _, _, rfl, rfl, e3 _ _ (e2 _ _ h1), h3, by show 3 ≤ sizeLine; decide, fun v H4 e4 n4 h4 => k H4 v (((e1.trans e2).trans e3).trans e4) (((e1.trans e2).trans e3).free n4) ?_⟩⟩
      rw [h4]
      simp [stepAns, Kqp6Neutral.step, Kqp6Neutral.callOf, Kqp6.step, Kqp6Neutral.n, Kqp6Neutral.tell, Kqp6.tell, hx, KM.chosen]
    · rw [decide_eq_false hlt]
      refine iteT ⟨by decide, fun p H1 e1 n1 h1 => k _ p e1 n1 ?_⟩
      have hx : l.places[i.toNat]? = none := List.getElem?_eq_none_iff.mpr (by omega)
      rw [h1]
      simp [stepAns, Kqp6Neutral.step, Kqp6Neutral.callOf, Kqp6.step, Kqp6Neutral.n, Kqp6Neutral.tell, hx]
theorem ok_tell_more (F : FunIn K mg "tell_more" s_tell_more ["field", "numbers"]) (T : FC K C) (g22 : GI mg "NOT_AS_TOLD" (-22)) (g10 : GI mg "GREATEST_LOWER_AT_MORE" 10) (c_is_share : CalOk P w K mg base 1 "is_share" ["upper", "lower"] sp_is_share) (c_lowest : CalOk P w K mg base 2 "lowest" ["upper", "lower"] sp_lowest)
    (c_product_way : CalOk P w K mg base 6 "product_way" ["share", "seeds", "worths"] sp_product_way) : CalOk P w K mg base 7 "tell_more" ["field", "numbers"] (sp_ro C 2 (stepAns 15)) := by
  have nd := sc_tell_more.nd
  refine F.ok sc_tell_more (fun vs H Q E h => ?_) (fun f cdv A outer s H vs Q E hr h => ?_)
  · obtain ⟨a, sl, wl, sh, nl, l, args, rfl, _⟩ := h
    rfl
  · obtain ⟨a, sl, wl, sh, nl', l, args, rfl, hL, L, hn, hlen, hpos, k⟩ := h
    obtain ⟨x, y, rfl⟩ := len2 hlen
    have hx := hpos x (by simp)
    have hy := hpos y (by simp)
    simp only [List.map_cons, List.map_nil] at hn
    refine ⟨_, (pss_cons (ps_if (PW.pt (pw_or (pt_not (pt_val (pe_own c_is_share (hr.mono (by decide)) rfl (pa_cons (pe_ix ix_listH (pv 1) pe_int (fun _ _ => rfl)) (pa_cons (pe_ix ix_listH (pv 1) pe_int (fun _ _ => rfl)) pa_nil))))) (pw_or1 (pt_cmpR op_gt (pe_ix ix_listH (pv 1) pe_int (fun _ _ => rfl)) (pe_gi g10) (nomark _))))) (pss_one (ps_ret (pe_lstS (pa_cons (pe_gi g22) pa_nil)))) pss_nil)
      (pss_one (ps_ret (pe_lstS (pa_cons pe_int (pa_cons (pe_own c_product_way (hr.mono (by decide)) rfl (pa_cons (pe_own c_lowest (hr.mono (by decide)) rfl (pa_cons (pe_ix ix_listH (pv 1) pe_int (fun _ _ => rfl)) (pa_cons (pe_ix ix_listH (pv 1) pe_int (fun _ _ => rfl)) pa_nil))) (pa_cons (pe_fld (pv 0) rfl) (pa_cons (pe_fld (pv 0) rfl) pa_nil)))) pa_nil)))))), ?_⟩
    have hst : stepAns 15 l [x, y] = if Kqp6.okShare x.toNat y.toNat = false ∨ 10 < y.toNat then [-22] else [0, Kqp6.rises l (Kqp6.frac (x.toNat : Int) y.toNat)] := by
      show Kqp6Neutral.tell (if Kqp6.okShare x.toNat y.toNat = false ∨ 10 < y.toNat then _ else _) = _
      split <;> rfl
    rw [hst] at k
    refine ⟨_, rfl, _, _, _, _, rfl, rfl, hn, rfl, _, rfl, _, _, _, _, rfl, rfl, hn, rfl, x, y, rfl, hx, hy, _, rfl, ?_⟩
    cases hb : Kqp6.okShare x.toNat y.toNat with
    | false =>
      rw [if_pos (.inl hb)] at k
      exact iteT (iteT ⟨by decide, fun t H1 e1 n1 h1 => k H1 t e1 n1 h1⟩)
    | true =>
      refine iteF ?_
      refine ⟨_, rfl, _, _, _, _, rfl, rfl, hn, rfl, _, _, rfl, rfl, _, rfl, ?_⟩
      by_cases h10 : 10 < y
      · rw [decide_eq_true h10]
        rw [if_pos (.inr (by omega))] at k
        exact iteT ⟨by decide, fun t H1 e1 n1 h1 => k H1 t e1 n1 h1⟩
      · rw [decide_eq_false h10]
        rw [if_neg (fun z => z.elim (fun z => by rw [hb] at z; cases z) (fun z => by omega))] at k
        refine iteF ?_
        obtain ⟨hy0, hy1, hxy⟩ := okShare_true hx hb
        have b4 : intBits y ≤ 4 := bits_le (y := 10) (by omega) (by omega) (by decide +kernel)
        have hlog : y.natAbs.log2 < 9000 := log_of_bits hy0 (Nat.le_trans b4 (by decide))
        refine ⟨_, rfl, _, _, _, _, rfl, rfl, hn, rfl, _, rfl, _, _, _, _, rfl, rfl, hn, rfl, x, y, rfl, hx, hy0, hlog, fun t nt => ?_⟩
        have e1 := Same.new (o := tupF (Kqp6.frac x y.toNat)) nt
        have h1 : upd H t (tupF (Kqp6.frac x y.toNat)) t = some (tupF (Kqp6.frac x y.toNat)) := upd_same
        generalize upd H t (tupF (Kqp6.frac x y.toNat)) = H1 at *
        have L1 := hL.same e1
        obtain ⟨dx, i1⟩ := L1.ins
        obtain ⟨ws, i2, W⟩ := L1.worths
        refine ⟨_, rfl, a, C, dx, _, _, rfl, i1, T.cl, T.n1, flds_seeds .., _, rfl, a, C, dx, _, _, rfl, i1, T.cl, T.n2, flds_worths .., ?_⟩
        refine ⟨t, sl, wl, _, l.places, ws, rfl, h1, L1.seeds, i2, W, land_pls L, told_fr hx hy0 hxy (Nat.le_trans b4 (by decide)), fun H2 e2 => ?_⟩
        refine ⟨by show 2 ≤ sizeLine; decide, fun r H3 e3 n3 h3 => k H3 r ((e1.trans e2).trans e3) ((e1.trans e2).free n3) ?_⟩
        rw [h3, show ((x.toNat : Nat) : Int) = x by omega]
        rfl
theorem ok_tell_place (F : FunIn K mg "tell_place" s_tell_place ["field", "numbers"]) (T : FC K C) (nl : mg "list" = none) (g2 : GI mg "NO_SUCH_PLACE" (-2)) (c_is_place : CalOk P w K mg base 1 "is_place" ["field", "place"] (sp_is_place C)) :
    CalOk P w K mg base 2 "tell_place" ["field", "numbers"] (sp_ro C 1 (stepAns 18)) := by
  have nd := sc_tell_place.nd
  refine F.ok sc_tell_place (fun vs H Q E h => ?_) (fun f cdv A outer s H vs Q E hr h => ?_)
  · obtain ⟨a, sl, wl, sh, nl, l, args, rfl, _⟩ := h
    rfl
  · obtain ⟨a, sl, wl, sh, nl', l, args, rfl, hL, L, hn, hlen, hpos, k⟩ := h
    obtain ⟨i, rfl⟩ := List.length_eq_one_iff.mp hlen
    have hi := hpos i (by simp)
    simp only [List.map_cons, List.map_nil] at hn
    refine ⟨_, (pss_cons (ps_if (pt_not (pt_val (pe_own c_is_place (hr.mono (by decide)) rfl (pa_cons (pv 0) (pa_cons (pe_ix ix_listH (pv 1) pe_int (fun _ _ => rfl)) pa_nil))))) (pss_one (ps_ret (pe_lstS (pa_cons (pe_gi g2) pa_nil)))) pss_nil)
      (pss_one (ps_ret (pe_op op_catS (pe_lstS (pa_cons (pe_ix ix_listH (pe_fld (pv 0) rfl) (pe_ix ix_listH (pv 1) pe_int (fun _ _ => rfl)) (fun _ _ => rfl)) pa_nil)) (pe_callTy call_listS (by rfl) nl boot_listK (pa_cons (pe_ix ix_listH (pe_fld (pv 0) rfl) (pe_ix ix_listH (pv 1) pe_int (fun _ _ => rfl)) (fun _ _ => rfl)) pa_nil)))))), ?_⟩
    obtain ⟨dx, i1⟩ := hL.ins
    refine ⟨_, rfl, _, rfl, _, _, _, _, rfl, rfl, hn, rfl, a, dx, sl, wl, sh, _, i, rfl, i1, hL.seeds, _, rfl, ?_⟩
    rw [List.length_map]
    by_cases hlt : i < (l.places.length : Int)
    · rw [decide_eq_true hlt]
      refine iteF ?_
      obtain ⟨x, hx⟩ : ∃ x, l.places[i.toNat]? = some x := ⟨_, List.getElem?_eq_getElem (by omega)⟩
      refine ⟨_, rfl, a, C, dx, _, _, rfl, i1, T.cl, T.n1, flds_seeds .., _, rfl, _, _, _, _, rfl, rfl, hn, rfl, _, _, _, _, rfl, rfl, hL.seeds, at_of (j := i.toNat) (v := V.int (x.seeds : Int)) (by omega) (by rw [List.getElem?_map, hx]; rfl), ?_⟩
      refine ⟨by show 1 ≤ sizeLine; decide, fun q H1 e1 n1 h1 => ?_⟩
      have L1 := hL.same e1
      obtain ⟨dx1, j1⟩ := L1.ins
      obtain ⟨ws, j2, W⟩ := L1.worths
      obtain ⟨wi, hv⟩ : ∃ wi, ws[i.toNat]? = some wi := ⟨_, List.getElem?_eq_getElem (by rw [W.len]; omega)⟩
      refine ⟨_, rfl, a, C, dx1, _, _, rfl, j1, T.cl, T.n2, flds_worths .., _, rfl, _, _, _, _, rfl, rfl, e1 _ _ hn, rfl, _, _, _, _, rfl, rfl, j2, at_of (j := i.toNat) (v := V.ref wi) (by omega) (by rw [List.getElem?_map, hv]; rfl), ?_⟩
      refine ⟨wi, _, rfl, W.at_ _ _ _ hv hx, fun r H3 e3 n3 h3 => ⟨q, r, _, _, rfl, rfl, e3 _ _ h1, h3, by show 4 ≤ sizeLine; decide, fun v H4 e4 n4 h4 => k H4 v ((e1.trans e3).trans e4) ((e1.trans e3).free n4) ?_⟩⟩
      rw [h4]
      simp [stepAns, Kqp6Neutral.step, Kqp6Neutral.callOf, Kqp6.step, Kqp6Neutral.n, Kqp6Neutral.tell, hx]
    · rw [decide_eq_false hlt]
      refine iteT ⟨by decide, fun p H1 e1 n1 h1 => k _ p e1 n1 ?_⟩
      have hx : l.places[i.toNat]? = none := List.getElem?_eq_none_iff.mpr (by omega)
      rw [h1]
      simp [stepAns, Kqp6Neutral.step, Kqp6Neutral.callOf, Kqp6.step, Kqp6Neutral.n, Kqp6Neutral.tell, hx]
theorem ok_tell_state (F : FunIn K mg "tell_state" s_tell_state ["field", "numbers"]) (T : FC K C) (nl : mg "len" = none) (ns : mg "sum" = none) : CalOk P w K mg base 1 "tell_state" ["field", "numbers"] (sp_ro C 0 (stepAns 19)) := by
  have nd := sc_tell_state.nd
  refine F.ok sc_tell_state (fun vs H Q E h => ?_) (fun f cdv A outer s H vs Q E hr h => ?_)
  · obtain ⟨a, sl, wl, sh, nl, l, args, rfl, _⟩ := h
    rfl
  · obtain ⟨a, sl, wl, sh, nl', l, args, rfl, hL, L, hn, hlen, hpos, k⟩ := h
    obtain rfl := List.eq_nil_of_length_eq_zero hlen
    refine ⟨_, (pss_one (ps_ret (pe_lstS (pa_cons (pe_callB call_lenH (by rfl) nl PySem.boot_len (pa_cons (pe_fld (pv 0) rfl) pa_nil)) (pa_cons (pe_callB (cr_sum rfl) (by rfl) ns boot_sumK (pa_cons (pe_fld (pv 0) rfl) pa_nil)) pa_nil))))), ?_⟩
    obtain ⟨dx, i1⟩ := hL.ins
    have hs : H sl = some (.lst ((l.places.map fun x => (x.seeds : Int)).map V.int)) := by rw [List.map_map]; exact hL.seeds
    refine ⟨_, rfl, a, C, dx, _, _, rfl, i1, T.cl, T.n1, flds_seeds .., sl, _, rfl, hL.seeds, _, rfl, a, C, dx, _, _, rfl, i1, T.cl, T.n1, flds_seeds .., sl, _, rfl, SqL.of hs, ?_⟩
    rw [sum_ints, List.length_map]
    exact ⟨by show 2 ≤ sizeLine; decide, fun r H2 e2 n2 h2 => k H2 r e2 n2 h2⟩
end
end KP

end

section
set_option Elab.async false
set_option linter.all false
set_option maxRecDepth 100000
set_option maxHeartbeats 2000000
set_option exponentiation.threshold 100000
namespace L2
open PySem PySem.Spec PyProof.Rows
section
variable {X : Cx} {e : Expr} {f : Str} {pos : Pos} {ta : TE}
/-- a field of an object of a known class: nothing of the module in the reading -/
def tFldH (C : Addr) (ta : TE) (f : Str) : TE := fun σ H Q => ta σ H fun x H1 => ∃ a dx fs v, x = .ref a ∧ H1 a = some (.ins C dx fs) ∧ fs.lookup f = some v ∧ Q v H1
theorem pe_fldH {C : Addr} (c : Cls X.K C) (n : NoAttr X.K C f) (he : PE X e ta) (hb : attributeBase e f X.env (eval e X.env) = eval e X.env) : PE X (.Attribute e f pos) (tFldH C ta f) := by
  intro pins s σ H Q I h
  refine attr_of hb (thn (he pins s σ H _ I h) fun u s1 ⟨x, H1, I1, rx, a, dx, fs, v, ex, ea, l, q⟩ => ?_)
  subst ex
  obtain rfl : u = Value.ref a := rx
  exact getattr_ok I1 ea c n l fun u' s2 I2 ru => ⟨v, H1, I2, ru, q⟩
end
end L2
namespace KP
open PySem PySem.Spec PyProof.Rows L2
open Builtin.Int (intBits)
open KM (Is PlOk ShOk fp sp mp LandOk SOk)
abbrev s_tell_best : Stmt := top 67
theorem sc_tell_best : FnScope ["field", "numbers"] ["field", "numbers"] (defScope s_tell_best) := ⟨rfl, rfl, rfl, by decide +kernel, rfl, by decide +kernel, by decide +kernel⟩
abbrev s_tell_near : Stmt := top 68
theorem sc_tell_near : FnScope ["field", "numbers", "parts", "ways", "upper"] ["field", "numbers"] (defScope s_tell_near) := ⟨rfl, rfl, rfl, by decide +kernel, rfl, by decide +kernel, by decide +kernel⟩
theorem bk_tell_near : BlkOk ["field", "numbers", "parts", "ways", "upper"] (defScope s_tell_near) { kind := .function, names := [(".0", .local), ("upper", .local), ("share_way", .globalImplicit), ("lowest", .globalImplicit), ("field", .free), ("parts", .free)], isGenerator := false, isCoroutine := false } [("upper", 4)] :=
  ⟨rfl, by decide +kernel, by decide +kernel, by decide +kernel, by decide +kernel⟩
theorem le_mean {x z : Kqp6.Place} {f : Kqp6.Frac} {u l : Int} (hf : Is f u l) : Kqp6.le (Kqp6.mean z f) (Kqp6.mean x f) = decide (mp z u l ≤ mp x u l) := by
  rw [(KM.is_mean z hf).le (KM.is_mean x hf)]
  congr 1
  apply propext
  exact Int.mul_le_mul_right (Int.mul_pos hf.dp hf.dp)
theorem best_is {l : Kqp6.Land} {j : Nat} {x : Kqp6.Place} (L : LandOk l) (hx : l.places[j]? = some x) (h1 : ∀ (i : Nat) (z : Kqp6.Place), l.places[i]? = some z → mp z l.share.num l.share.den ≤ mp x l.share.num l.share.den)
    (h2 : ∀ (i : Nat) (z : Kqp6.Place), i < j → l.places[i]? = some z → mp z l.share.num l.share.den < mp x l.share.num l.share.den) : stepAns 16 l [] = [(j : Int)] := by
  have hj : j < l.places.length := (List.getElem?_eq_some_iff.mp hx).1
  have get : ∀ i, i < l.places.length → ∃ z, l.places[i]? = some z := fun i hi => ⟨_, List.getElem?_eq_getElem hi⟩
  have hm : ∀ (i : Nat) (z : Kqp6.Place), l.places[i]? = some z → Kqp6.mean z l.share = (match l.places[i]? with | some y => Kqp6.mean y l.share | none => Kqp6.zero) := fun i z hz => by rw [hz]
  have e := KM.best_eq (l := l) hj (fun i => match l.places[i]? with | some y => Kqp6.mean y l.share | none => Kqp6.zero) hm
    (fun i hi => by
      obtain ⟨z, hz⟩ := get i hi
      simp only [hz, hx]
      rw [le_mean L.is]
      exact decide_eq_true (h1 i z hz))
    (fun i hi => by
      obtain ⟨z, hz⟩ := get i (by omega)
      refine ⟨j, hj, ?_⟩
      simp only [hz, hx]
      rw [le_mean L.is]
      have := h2 i z hi hz
      exact decide_eq_false (by omega))
  show [(((_ : Nat) : Nat) : Int)] = _
  exact congrArg (fun n : Nat => [(n : Int)]) e
section
variable {P : Program} {w : World} {K : PySem.W.Frag} {mg : Str → Option Value} {base : Heap} {C : Addr}
theorem ok_tell_best (F : FunIn K mg "tell_best" s_tell_best ["field", "numbers"]) (T : FC K C) (c_best_place : CalOk P w K mg base 4 "best_place" ["share", "worths"] sp_best) :
    CalOk P w K mg base 5 "tell_best" ["field", "numbers"] (sp_ro C 0 (stepAns 16)) := by
  have nd := sc_tell_best.nd
  refine F.ok sc_tell_best (fun vs H Q E h => ?_) (fun f cdv A outer s H vs Q E hr h => ?_)
  · obtain ⟨a, sl, wl, sh, nl, l, args, rfl, _⟩ := h
    rfl
  · obtain ⟨a, sl, wl, sh, nl', l, args, rfl, hL, L, hn, hlen, hpos, k⟩ := h
    obtain rfl := List.eq_nil_of_length_eq_zero hlen
    refine ⟨_, (pss_one (ps_ret (pe_lstS (pa_cons (pe_own c_best_place (hr.mono (by decide)) rfl (pa_cons (pe_fld (pv 0) rfl) (pa_cons (pe_fld (pv 0) rfl) pa_nil))) pa_nil)))), ?_⟩
    obtain ⟨dx, i1⟩ := hL.ins
    obtain ⟨ws, i2, W⟩ := hL.worths
    refine ⟨_, rfl, a, C, dx, _, _, rfl, i1, T.cl, T.n3, flds_share .., _, rfl, a, C, dx, _, _, rfl, i1, T.cl, T.n2, flds_worths .., ?_⟩
    refine ⟨sh, wl, l.share, l.places, ws, rfl, hL.share, i2, W, land_pls L, L.n1, (land_fr L).mono (by decide), fun H1 j x e1 hx h1 h2 => ?_⟩
    rw [best_is L hx h1 h2] at k
    exact ⟨by show 1 ≤ sizeLine; decide, fun r H2 e2 n2 h3 => k H2 r (e1.trans e2) (e1.free n2) h3⟩
theorem ok_tell_near (F : FunIn K mg "tell_near" s_tell_near ["field", "numbers"]) (T : FC K C) (nl : mg "len" = none) (nr : mg "range" = none) (g22 : GI mg "NOT_AS_TOLD" (-22)) (g2 : GI mg "LEAST_PARTS" 2) (g30 : GI mg "MOST_PARTS" 30) (c_lowest : CalOk P w K mg base 2 "lowest" ["upper", "lower"] sp_lowest)
    (c_share_way : CalOk P w K mg base 6 "share_way" ["share", "seeds", "worths"] sp_share_way) : CalOk P w K mg base 7 "tell_near" ["field", "numbers"] (sp_ro C 1 (stepAns 17)) := by
  have nd := sc_tell_near.nd
  refine F.ok sc_tell_near (fun vs H Q E h => ?_) (fun f cdv A outer s H vs Q E hr h => ?_)
  · obtain ⟨a, sl, wl, sh, nl, l, args, rfl, _⟩ := h
    rfl
  · obtain ⟨a, sl, wl, sh, nl', l, args, rfl, hL, L, hn, hlen, hpos, k⟩ := h
    obtain ⟨n, rfl⟩ := List.length_eq_one_iff.mp hlen
    have hn0 := hpos n (by simp)
    simp only [List.map_cons, List.map_nil] at hn
    refine ⟨_, (pss_cons (ps_set (i := 2) nd rfl (Or.inr rfl) (pe_ix ix_listH (pv 1) pe_int (fun _ _ => rfl)))
      (pss_cons (ps_if (pt_not (pt_chain op_le op_le (pe_gi g2) (pv 2) (pe_gi g30))) (pss_one (ps_ret (pe_lstS (pa_cons (pe_gi g22) pa_nil)))) pss_nil)
      (pss_cons (ps_setLc (i := 3) (own := [("upper", 4)]) rfl nd rfl rfl (sw_true rfl rfl rfl rfl) (pi_range2 rfl nr (pa_cons pe_int (pa_cons (pv 2) pa_nil))) bk_tell_near (fun _ _ _ _ _ => (pg_name (i := 4) nd rfl (Or.inl rfl))) (fun _ _ _ _ _ => pts_nil) (fun _ _ _ _ _ => (pe_own c_share_way (hr.mono (by decide)) rfl (pa_cons (pe_own c_lowest (hr.mono (by decide)) rfl (pa_cons (pv 4) (pa_cons (pv 2) pa_nil))) (pa_cons (pe_fldH T.cl T.n1 (pv 0) rfl) (pa_cons (pe_fldH T.cl T.n2 (pv 0) rfl) pa_nil))))))
      (pss_one (ps_ret (pe_op op_catS (pe_lstS (pa_cons (pe_callB call_lenH (by rfl) nl PySem.boot_len (pa_cons (pv 3) pa_nil)) pa_nil)) (pv 3))))))), ?_⟩
    have hst : stepAns 17 l [n] = if n.toNat < 2 ∨ 30 < n.toNat then [-22] else ((n.toNat - 1 : Nat) : Int) :: Kqp6.ways l n.toNat := by
      show Kqp6Neutral.tell (if n.toNat < 2 ∨ 30 < n.toNat then _ else _) = _
      split <;> rfl
    rw [hst] at k
    refine ⟨_, rfl, _, _, _, _, rfl, rfl, hn, rfl, ?_⟩
    refine ⟨_, rfl, _, _, rfl, rfl, _, rfl, ?_⟩
    by_cases h2 : 2 ≤ n
    · rw [decide_eq_true h2]
      refine iteT ?_
      refine ⟨_, _, rfl, rfl, _, rfl, ?_⟩
      by_cases h30 : n ≤ 30
      · rw [decide_eq_true h30]
        refine iteF ?_
        rw [if_neg (by omega)] at k
        refine ⟨_, rfl, 1, n, rfl, ⟨by omega, by omega, by omega, by omega⟩, fun D hD => ?_⟩
        refine lc_by (n := (n - 1).toNat) (fun i H' => Same H H' ∧ H' D = some (.lst (((List.range i).map fun j => Kqp6.way l (Kqp6.frac ((j + 1 : Nat) : Int) n.toNat)).map V.int))) ?_ ?_ ?_
        · exact ⟨Same.new hD, upd_same⟩
        · rintro H1 ⟨e1, h1⟩
          refine ⟨Nat.le_refl _, ?_⟩
          refine ⟨_, rfl, D, _, rfl, h1, by show 1 ≤ sizeLine; decide, fun q H2 e2 n2 h3 => ⟨_, rfl, q, D, _, _, rfl, rfl, h3, e2 _ _ h1, ?_, fun r H3 e3 n3 h4 => k H3 r ((e1.trans e2).trans e3) ((e1.trans e2).free n3) ?_⟩⟩
          · rw [List.length_map, List.length_map, List.length_range, sizeLine_eq, List.length_cons, List.length_nil]; omega
          · rw [h4, List.length_map, List.length_map, List.length_range]
            have e : (n - 1).toNat = n.toNat - 1 := by omega
            rw [e]
            rfl
        · rintro i H1 hi ⟨e1, h1⟩
          refine ⟨hi, ?_⟩
          rintro x H2 ⟨hx1, hx2⟩
          subst hx2
          have hx3 := hx1.symm
          subst hx3
          have b5 : intBits n ≤ 5 := bits_le (y := 30) (by omega) (by omega) (by decide +kernel)
          have hlog : n.natAbs.log2 < 9000 := log_of_bits (by omega) (Nat.le_trans b5 (by decide))
          refine ⟨rfl, ⟨_, rfl, _, rfl, 1 + (i : Int), n, rfl, by omega, by omega, hlog, fun t nt => ?_⟩⟩
          have e2 := Same.new (o := tupF (Kqp6.frac (1 + (i : Int)) n.toNat)) nt
          have h2' : upd H1 t (tupF (Kqp6.frac (1 + (i : Int)) n.toNat)) t = some (tupF (Kqp6.frac (1 + (i : Int)) n.toNat)) := upd_same
          generalize upd H1 t (tupF (Kqp6.frac (1 + (i : Int)) n.toNat)) = H2 at *
          have L1 := hL.same (e1.trans e2)
          obtain ⟨dx, i1⟩ := L1.ins
          obtain ⟨ws, i2, W⟩ := L1.worths
          refine ⟨_, rfl, a, dx, _, _, rfl, i1, flds_seeds .., _, rfl, a, dx, _, _, rfl, i1, flds_worths .., ?_⟩
          refine ⟨t, sl, wl, _, l.places, ws, rfl, h2', L1.seeds, i2, W, land_pls L, told_fr (by omega) (by omega) (by omega) (Nat.le_trans b5 (by decide)), fun H3 e3 => ?_⟩
          refine ⟨_, e3 _ _ (e2 _ _ h1), by rw [List.length_map, List.length_map, List.length_range, sizeLine_eq]; omega, same_grow hD e1 (e2.trans e3), ?_⟩
          rw [upd_same, List.range_succ, List.map_append, List.map_append, show (1 + (i : Int)) = ((i + 1 : Nat) : Int) by omega]
          rfl
      · rw [decide_eq_false h30]
        rw [if_pos (by omega)] at k
        exact iteT ⟨by decide, fun t H1 e1 n1 h1 => k H1 t e1 n1 h1⟩
    · rw [decide_eq_false h2]
      rw [if_pos (by omega)] at k
      exact iteF ⟨_, rfl, iteT ⟨by decide, fun t H1 e1 n1 h1 => k H1 t e1 n1 h1⟩⟩
end
end KP

end

section
set_option Elab.async false
set_option linter.all false
set_option maxRecDepth 100000
set_option maxHeartbeats 2000000
namespace L2
open PySem PySem.Spec PyProof.Rows
/-! what the top has written, one name behind another -/
section
variable {K : PySem.W.Frag} {h : Heap} {mg : Str → Option Value} {Goal : Prop}
theorem with_fun {x : Str} {st : Stmt} {ps : List Str} {f : Addr} {oc : Value} {od an : Option Addr} {osl : Array (Option Value)} {kV doc pm cdv ct : Value} (X : K.In h) (G : h.Ns mainGlobals mg) (a : PySem.W.nsIn K mainGlobals x = some (some (.ref f)))
    (l : K.lookup f = some ⟨oc, od, .func (PySem.W.fnOf x x (defArgs st) (defBody st) (defScope st) .none kV doc pm an cdv ct), osl⟩) (c : PySem.W.codeIn K cdv x = true) (k : PySem.W.keepIn K (.ref f) = true)
    (b : ∀ (kV doc pm : Value) (an : Option Addr) (cdv ct : Value) (us : List Value), us.length = ps.length → bindArgs (PySem.W.fnOf x x (defArgs st) (defBody st) (defScope st) .none kV doc pm an cdv ct) ⟨us, []⟩ = pure (ps.zip us))
    (rest : FunIn K mg x st ps → mg x = some (.ref f) → Goal) : Goal := rest (FunIn.mk (PySem.W.mg_of X G a) l c k b) (PySem.W.mg_of X G a)
theorem with_int {x : Str} {i : Int} {t : Tok} (X : K.In h) (G : h.Ns mainGlobals mg) (a : PySem.W.nsIn K mainGlobals x = some (some (.int i t))) (rest : GI mg x i → Goal) : Goal := rest ⟨t, PySem.W.mg_of X G a⟩
theorem with_none {x : Str} (X : K.In h) (G : h.Ns mainGlobals mg) (a : PySem.W.nsIn K mainGlobals x = some none) (rest : mg x = none → Goal) : Goal := rest (PySem.W.mg_none_of X G a)
def kvsOf (es : List DictEntry) : List (Int × Addr) := es.filterMap fun e => match e.key, e.val with
  | .int i _, .ref a => some (i, a)
  | _, _ => none
theorem with_tab {x : Str} {d : Addr} {es : Array DictEntry} {ep : Nat} (X : K.In h) (G : h.Ns mainGlobals mg) (a : PySem.W.nsIn K mainGlobals x = some (some (.ref d))) (l : K.lookup d = some ⟨.type "dict", none, .dict es ep, #[]⟩)
    (t : tabOk es.toList (kvsOf es.toList) = true) (n : ((kvsOf es.toList).map (·.1)).Nodup) (rest : mg x = some (.ref d) → FnTab K d (kvsOf es.toList) → Goal) : Goal :=
  rest (PySem.W.mg_of X G a) ⟨_, es, ep, l, ⟨rfl, rfl, rfl⟩, rfl, t, n⟩
def tupOk : List Value → List Nat → Bool
  | [], [] => true
  | .int i _ :: r, n :: m => i == (n : Int) && tupOk r m
  | _, _ => false
theorem tupOk_vals : ∀ {us : List Value} {ns : List Nat}, tupOk us ns = true → Vals (ns.map fun n : Nat => V.int (n : Int)) us
  | [], [], _ => .nil
  | .int i t :: r, n :: m, h => by
    simp only [tupOk, Bool.and_eq_true] at h
    exact .cons ⟨t, by rw [eq_of_beq h.1]⟩ (tupOk_vals h.2)
  | [], _ :: _, h => by cases h
  | .none :: _, [], h => by cases h
  | v :: r, [], h => by cases v <;> cases h
  | .none :: _, _ :: _, h => by cases h
  | .bool _ :: _, _ :: _, h => by cases h
  | .float _ _ :: _, _ :: _, h => by cases h
  | .str _ _ :: _, _ :: _, h => by cases h
  | .bytes _ _ :: _, _ :: _, h => by cases h
  | .ref _ :: _, _ :: _, h => by cases h
  | .type _ :: _, _ :: _, h => by cases h
  | .builtin _ :: _, _ :: _, h => by cases h
theorem with_tup {x : Str} {d : Addr} {its : Array Value} {n : Nat} {od : Option Addr} {sl : Array (Option Value)} {ns : List Nat} (X : K.In h) (G : h.Ns mainGlobals mg) (a : PySem.W.nsIn K mainGlobals x = some (some (.ref d))) (l : K.lookup d = some ⟨.type "tuple", od, .seq its n, sl⟩)
    (t : tupOk its.toList ns = true) (z : its.size ≤ sizeLine) (rest : mg x = some (.ref d) → (∀ H, SqT K H d (ns.map fun n : Nat => V.int (n : Int))) → Goal) : Goal :=
  rest (PySem.W.mg_of X G a) fun H => .inr ⟨_, its, n, l, rfl, rfl, z, tupOk_vals t⟩
theorem with_meth {C f : Addr} {x qual : Str} {st : Stmt} {oc : Value} {od an : Option Addr} {osl : Array (Option Value)} {kV doc pm cdv ct : Value} (a : PySem.W.findIn K (.ref C) x = some (some (.ref f))) (i : PySem.W.isFn K (.ref f) = true)
    (l : K.lookup f = some ⟨oc, od, .func (PySem.W.fnOf x qual (defArgs st) (defBody st) (defScope st) .none kV doc pm an cdv ct), osl⟩) (c : PySem.W.codeIn K cdv qual = true) (k : PySem.W.keepIn K (.ref f) = true)
    (rest : PySem.W.findIn K (.ref C) x = some (some (.ref f)) → PySem.W.isFn K (.ref f) = true → Fun K x qual st f (PySem.W.fnOf x qual (defArgs st) (defBody st) (defScope st) .none kV doc pm an cdv ct) → Goal) : Goal := rest a i (fun_mk l c k)
end
end L2

end

section
set_option Elab.async false
set_option linter.all false
set_option maxRecDepth 100000
set_option maxHeartbeats 0
namespace KH
open PySem PySem.W PyProof.Rows
/-! what the top leaves behind, written out -/
abbrev vs (x : String) (t : Nat) : Value := .str (Str.ofString x) t
abbrev vi (i : Int) (t : Nat) : Value := .int i t
abbrev vr (a : Nat) : Value := .ref a
abbrev de (P : Params) (x : String) (t : Nat) (v : Value) : DictEntry := { hash := PyData.keyHash P (Str.ofString x), key := .str (Str.ofString x) t, val := v }
abbrev fo (x q : String) (st : Stmt) (pm cd : Value) : Data :=
  .func { name := Str.ofString x, qualname := Str.ofString q, params := L2.defArgs st, body := .stmts (L2.defBody st), scope := L2.defScope st, globals := 3, closure := [], defaults := .none, kwdefaults := .none, pyModule := pm, code := cd }
/-- the objects that the calls reach -/
noncomputable def KF : Params → Frag := fun P => (nat_lit 2, { cls := Value.none, data := Data.dict #[] }) ::
  (nat_lit 3, { cls := Value.type "dict", data := Data.dict #[(de P "__name__" 165 (vs "kindshares.places" 395)),
  (de P "__doc__" 166 (Value.none)),
  (de P "__package__" 167 (Value.none)),
  (de P "__loader__" 168 (Value.builtin "__main__.__loader__#opaque")),
  (de P "__spec__" 169 (Value.none)),
  (de P "__annotations__" 170 (vr 6)),
  (de P "__builtins__" 171 (vr 4)),
  (de P "__file__" 173 (vs "/claim/cut.py" 172)),
  (de P "__cached__" 174 (Value.none)),
  (de P "ALL_SEEDS" 190 (vi 100 189)),
  (de P "common_divisor" 199 (vr 21)),
  (de P "lowest" 208 (vr 28)),
  (de P "lack" 215 (vr 35)),
  (de P "first_part" 223 (vr 42)),
  (de P "second_part" 231 (vr 49)),
  (de P "mean_part" 239 (vr 56)),
  (de P "first_worth" 247 (vr 63)),
  (de P "second_worth" 255 (vr 70)),
  (de P "mean_worth" 263 (vr 77)),
  (de P "chosen_parts" 271 (vr 84)),
  (de P "chosen_share" 280 (vr 91)),
  (de P "over_all_places" 292 (vr 98)),
  (de P "share_next" 298 (vr 103)),
  (de P "share_after" 309 (vr 110)),
  (de P "direction" 318 (vr 117)),
  (de P "share_way" 327 (vr 124)),
  (de P "first_growth" 333 (vr 129)),
  (de P "second_growth" 339 (vr 134)),
  (de P "is_above_one" 346 (vr 141)),
  (de P "are_both_kept" 354 (vr 148)),
  (de P "best_place" 360 (vr 153)),
  (de P "power" 370 (vr 160)),
  (de P "product_of_means" 384 (vr 167)),
  (de P "product_way" 394 (vr 174)),
  (de P "NO_SUCH_PLACE" 399 (Value.int (-2) 398)),
  (de P "NOT_STARTED" 402 (Value.int (-11) 401)),
  (de P "TOO_FEW_SEEDS" 405 (Value.int (-12) 404)),
  (de P "NOT_AS_TOLD" 408 (Value.int (-22) 407)),
  (de P "TOO_GREAT" 411 (Value.int (-28) 410)),
  (de P "MOST_PLACES" 413 (vi 3 412)),
  (de P "NUMBERS_OF_A_PLACE" 415 (vi 4 414)),
  (de P "LEAST_WORTH" 417 (vi 1 416)),
  (de P "GREATEST_WORTH" 419 (vi 9 418)),
  (de P "GREATEST_LOWER_TOLD" 421 (vi 100 420)),
  (de P "GREATEST_LOWER_AT_MORE" 423 (vi 10 422)),
  (de P "GREATEST_LOWER_AT_NEXT" 425 (vi 100000 424)),
  (de P "MOST_GENERATIONS" 427 (vi 2 426)),
  (de P "LEAST_PARTS" 429 (vi 2 428)),
  (de P "MOST_PARTS" 431 (vi 30 430)),
  (de P "START" 433 (vi 0 432)),
  (de P "HOW_MANY_NUMBERS" 454 (vr 175)),
  (de P "Field" 484 (vr 192)),
  (de P "is_place" 492 (vr 203)),
  (de P "are_worths" 499 (vr 210)),
  (de P "is_share" 507 (vr 217)),
  (de P "are_whole_places" 514 (vr 224)),
  (de P "seeds_of" 521 (vr 231)),
  (de P "worths_of" 527 (vr 236)),
  (de P "start" 533 (vr 241)),
  (de P "move_seeds" 544 (vr 248)),
  (de P "set_worths" 555 (vr 255)),
  (de P "set_share" 563 (vr 262)),
  (de P "tell_share" 571 (vr 269)),
  (de P "tell_mean" 579 (vr 276)),
  (de P "tell_kinds" 588 (vr 283)),
  (de P "pass_generation" 596 (vr 290)),
  (de P "tell_after" 604 (vr 297)),
  (de P "tell_way" 612 (vr 304)),
  (de P "tell_way_at" 620 (vr 311)),
  (de P "tell_enters" 628 (vr 318)),
  (de P "tell_enters_other" 636 (vr 325)),
  (de P "tell_both" 644 (vr 332)),
  (de P "tell_at_place" 652 (vr 339)),
  (de P "tell_more" 660 (vr 346)),
  (de P "tell_best" 668 (vr 353)),
  (de P "tell_near" 674 (vr 358)),
  (de P "tell_place" 682 (vr 365)),
  (de P "tell_state" 690 (vr 372)),
  (de P "ANSWERED_BY" 731 (vr 373)),
  (de P "numbers_begin" 739 (vr 381)),
  (de P "numbers_end" 747 (vr 388)),
  (de P "answer" 756 (vr 395)),
  (de P "answers" 768 (vr 402))] 83 }) ::
  (nat_lit 15, { cls := Value.type "tuple", data := Data.seq #[] }) ::
  (nat_lit 17, { cls := Value.type "tuple", data := Data.seq #[(vs "one" 194), (vs "other" 195), (vs "rest" 196)] }) ::
  (nat_lit 18, { cls := Value.type "tuple", data := Data.seq #[] }) ::
  (nat_lit 20, { cls := Value.type "code", data := Data.fields #[(vs "common_divisor" 191), (vs "common_divisor" 192), (vs "/claim/cut.py" 193), (vi 3 0), (vi 2 0), (vi 0 0), (vi 0 0), (vi 3 0), (vr 15), Value.bool true, (vi 181 0), (vr 16), Value.none, (vr 17), (vr 18), (vr 19), (vi 197 0), (vi 3 0), (vs "/claim/cut.py" 198)] }) ::
  (nat_lit 21, { cls := Value.type "function", data := fo "common_divisor" "common_divisor" (KP.top 2) (vs "kindshares.shares" 187) (vr 20) }) ::
  (nat_lit 22, { cls := Value.type "tuple", data := Data.seq #[] }) ::
  (nat_lit 24, { cls := Value.type "tuple", data := Data.seq #[(vs "upper" 203), (vs "lower" 204), (vs "divisor" 205)] }) ::
  (nat_lit 25, { cls := Value.type "tuple", data := Data.seq #[] }) ::
  (nat_lit 27, { cls := Value.type "code", data := Data.fields #[(vs "lowest" 200), (vs "lowest" 201), (vs "/claim/cut.py" 202), (vi 9 0), (vi 2 0), (vi 0 0), (vi 0 0), (vi 3 0), (vr 22), Value.bool true, (vi 181 0), (vr 23), Value.none, (vr 24), (vr 25), (vr 26), (vi 206 0), (vi 9 0), (vs "/claim/cut.py" 207)] }) ::
  (nat_lit 28, { cls := Value.type "function", data := fo "lowest" "lowest" (KP.top 3) (vs "kindshares.shares" 187) (vr 27) }) ::
  (nat_lit 29, { cls := Value.type "tuple", data := Data.seq #[] }) ::
  (nat_lit 31, { cls := Value.type "tuple", data := Data.seq #[(vs "share" 212)] }) ::
  (nat_lit 32, { cls := Value.type "tuple", data := Data.seq #[] }) ::
  (nat_lit 34, { cls := Value.type "code", data := Data.fields #[(vs "lack" 209), (vs "lack" 210), (vs "/claim/cut.py" 211), (vi 12 0), (vi 1 0), (vi 0 0), (vi 0 0), (vi 3 0), (vr 29), Value.bool true, (vi 181 0), (vr 30), Value.none, (vr 31), (vr 32), (vr 33), (vi 213 0), (vi 12 0), (vs "/claim/cut.py" 214)] }) ::
  (nat_lit 35, { cls := Value.type "function", data := fo "lack" "lack" (KP.top 4) (vs "kindshares.shares" 187) (vr 34) }) ::
  (nat_lit 36, { cls := Value.type "tuple", data := Data.seq #[] }) ::
  (nat_lit 38, { cls := Value.type "tuple", data := Data.seq #[(vs "share" 219), (vs "worths" 220)] }) ::
  (nat_lit 39, { cls := Value.type "tuple", data := Data.seq #[] }) ::
  (nat_lit 41, { cls := Value.type "code", data := Data.fields #[(vs "first_part" 216), (vs "first_part" 217), (vs "/claim/cut.py" 218), (vi 14 0), (vi 2 0), (vi 0 0), (vi 0 0), (vi 3 0), (vr 36), Value.bool true, (vi 181 0), (vr 37), Value.none, (vr 38), (vr 39), (vr 40), (vi 221 0), (vi 14 0), (vs "/claim/cut.py" 222)] }) ::
  (nat_lit 42, { cls := Value.type "function", data := fo "first_part" "first_part" (KP.top 5) (vs "kindshares.shares" 187) (vr 41) }) ::
  (nat_lit 43, { cls := Value.type "tuple", data := Data.seq #[] }) ::
  (nat_lit 45, { cls := Value.type "tuple", data := Data.seq #[(vs "share" 227), (vs "worths" 228)] }) ::
  (nat_lit 46, { cls := Value.type "tuple", data := Data.seq #[] }) ::
  (nat_lit 48, { cls := Value.type "code", data := Data.fields #[(vs "second_part" 224), (vs "second_part" 225), (vs "/claim/cut.py" 226), (vi 16 0), (vi 2 0), (vi 0 0), (vi 0 0), (vi 3 0), (vr 43), Value.bool true, (vi 181 0), (vr 44), Value.none, (vr 45), (vr 46), (vr 47), (vi 229 0), (vi 16 0), (vs "/claim/cut.py" 230)] }) ::
  (nat_lit 49, { cls := Value.type "function", data := fo "second_part" "second_part" (KP.top 6) (vs "kindshares.shares" 187) (vr 48) }) ::
  (nat_lit 50, { cls := Value.type "tuple", data := Data.seq #[] }) ::
  (nat_lit 52, { cls := Value.type "tuple", data := Data.seq #[(vs "share" 235), (vs "worths" 236)] }) ::
  (nat_lit 53, { cls := Value.type "tuple", data := Data.seq #[] }) ::
  (nat_lit 55, { cls := Value.type "code", data := Data.fields #[(vs "mean_part" 232), (vs "mean_part" 233), (vs "/claim/cut.py" 234), (vi 18 0), (vi 2 0), (vi 0 0), (vi 0 0), (vi 3 0), (vr 50), Value.bool true, (vi 181 0), (vr 51), Value.none, (vr 52), (vr 53), (vr 54), (vi 237 0), (vi 18 0), (vs "/claim/cut.py" 238)] }) ::
  (nat_lit 56, { cls := Value.type "function", data := fo "mean_part" "mean_part" (KP.top 7) (vs "kindshares.shares" 187) (vr 55) }) ::
  (nat_lit 57, { cls := Value.type "tuple", data := Data.seq #[] }) ::
  (nat_lit 59, { cls := Value.type "tuple", data := Data.seq #[(vs "share" 243), (vs "worths" 244)] }) ::
  (nat_lit 60, { cls := Value.type "tuple", data := Data.seq #[] }) ::
  (nat_lit 62, { cls := Value.type "code", data := Data.fields #[(vs "first_worth" 240), (vs "first_worth" 241), (vs "/claim/cut.py" 242), (vi 20 0), (vi 2 0), (vi 0 0), (vi 0 0), (vi 3 0), (vr 57), Value.bool true, (vi 181 0), (vr 58), Value.none, (vr 59), (vr 60), (vr 61), (vi 245 0), (vi 20 0), (vs "/claim/cut.py" 246)] }) ::
  (nat_lit 63, { cls := Value.type "function", data := fo "first_worth" "first_worth" (KP.top 8) (vs "kindshares.shares" 187) (vr 62) }) ::
  (nat_lit 64, { cls := Value.type "tuple", data := Data.seq #[] }) ::
  (nat_lit 66, { cls := Value.type "tuple", data := Data.seq #[(vs "share" 251), (vs "worths" 252)] }) ::
  (nat_lit 67, { cls := Value.type "tuple", data := Data.seq #[] }) ::
  (nat_lit 69, { cls := Value.type "code", data := Data.fields #[(vs "second_worth" 248), (vs "second_worth" 249), (vs "/claim/cut.py" 250), (vi 22 0), (vi 2 0), (vi 0 0), (vi 0 0), (vi 3 0), (vr 64), Value.bool true, (vi 181 0), (vr 65), Value.none, (vr 66), (vr 67), (vr 68), (vi 253 0), (vi 22 0), (vs "/claim/cut.py" 254)] }) ::
  (nat_lit 70, { cls := Value.type "function", data := fo "second_worth" "second_worth" (KP.top 9) (vs "kindshares.shares" 187) (vr 69) }) ::
  (nat_lit 71, { cls := Value.type "tuple", data := Data.seq #[] }) ::
  (nat_lit 73, { cls := Value.type "tuple", data := Data.seq #[(vs "share" 259), (vs "worths" 260)] }) ::
  (nat_lit 74, { cls := Value.type "tuple", data := Data.seq #[] }) ::
  (nat_lit 76, { cls := Value.type "code", data := Data.fields #[(vs "mean_worth" 256), (vs "mean_worth" 257), (vs "/claim/cut.py" 258), (vi 24 0), (vi 2 0), (vi 0 0), (vi 0 0), (vi 3 0), (vr 71), Value.bool true, (vi 181 0), (vr 72), Value.none, (vr 73), (vr 74), (vr 75), (vi 261 0), (vi 24 0), (vs "/claim/cut.py" 262)] }) ::
  (nat_lit 77, { cls := Value.type "function", data := fo "mean_worth" "mean_worth" (KP.top 10) (vs "kindshares.shares" 187) (vr 76) }) ::
  (nat_lit 78, { cls := Value.type "tuple", data := Data.seq #[] }) ::
  (nat_lit 80, { cls := Value.type "tuple", data := Data.seq #[(vs "share" 267), (vs "worths" 268)] }) ::
  (nat_lit 81, { cls := Value.type "tuple", data := Data.seq #[] }) ::
  (nat_lit 83, { cls := Value.type "code", data := Data.fields #[(vs "chosen_parts" 264), (vs "chosen_parts" 265), (vs "/claim/cut.py" 266), (vi 26 0), (vi 2 0), (vi 0 0), (vi 0 0), (vi 3 0), (vr 78), Value.bool true, (vi 181 0), (vr 79), Value.none, (vr 80), (vr 81), (vr 82), (vi 269 0), (vi 26 0), (vs "/claim/cut.py" 270)] }) ::
  (nat_lit 84, { cls := Value.type "function", data := fo "chosen_parts" "chosen_parts" (KP.top 11) (vs "kindshares.shares" 187) (vr 83) }) ::
  (nat_lit 85, { cls := Value.type "tuple", data := Data.seq #[] }) ::
  (nat_lit 87, { cls := Value.type "tuple", data := Data.seq #[(vs "share" 275), (vs "worths" 276), (vs "chosen" 277)] }) ::
  (nat_lit 88, { cls := Value.type "tuple", data := Data.seq #[] }) ::
  (nat_lit 90, { cls := Value.type "code", data := Data.fields #[(vs "chosen_share" 272), (vs "chosen_share" 273), (vs "/claim/cut.py" 274), (vi 28 0), (vi 2 0), (vi 0 0), (vi 0 0), (vi 3 0), (vr 85), Value.bool true, (vi 181 0), (vr 86), Value.none, (vr 87), (vr 88), (vr 89), (vi 278 0), (vi 28 0), (vs "/claim/cut.py" 279)] }) ::
  (nat_lit 91, { cls := Value.type "function", data := fo "chosen_share" "chosen_share" (KP.top 12) (vs "kindshares.shares" 187) (vr 90) }) ::
  (nat_lit 92, { cls := Value.type "tuple", data := Data.seq #[] }) ::
  (nat_lit 94, { cls := Value.type "tuple", data := Data.seq #[(vs "seeds" 284), (vs "parts" 285), (vs "upper" 286), (vs "lower" 287), (vs "seeds_here" 288), (vs "part" 289)] }) ::
  (nat_lit 95, { cls := Value.type "tuple", data := Data.seq #[] }) ::
  (nat_lit 97, { cls := Value.type "code", data := Data.fields #[(vs "over_all_places" 281), (vs "over_all_places" 282), (vs "/claim/cut.py" 283), (vi 31 0), (vi 2 0), (vi 0 0), (vi 0 0), (vi 3 0), (vr 92), Value.bool true, (vi 181 0), (vr 93), Value.none, (vr 94), (vr 95), (vr 96), (vi 290 0), (vi 31 0), (vs "/claim/cut.py" 291)] }) ::
  (nat_lit 98, { cls := Value.type "function", data := fo "over_all_places" "over_all_places" (KP.top 13) (vs "kindshares.shares" 187) (vr 97) }) ::
  (nat_lit 99, { cls := Value.type "tuple", data := Data.seq #[] }) ::
  (nat_lit 102, { cls := Value.type "code", data := Data.fields #[(vs "share_next" 293), (vs "share_next" 294), (vs "/claim/cut.py" 295), (vi 38 0), (vi 3 0), (vi 0 0), (vi 0 0), (vi 3 0), (vr 99), Value.bool true, (vi 181 0), (vr 100), Value.none, Value.none, Value.none, (vr 101), (vi 296 0), (vi 38 0), (vs "/claim/cut.py" 297)] }) ::
  (nat_lit 103, { cls := Value.type "function", data := fo "share_next" "share_next" (KP.top 14) (vs "kindshares.shares" 187) (vr 102) }) ::
  (nat_lit 104, { cls := Value.type "tuple", data := Data.seq #[] }) ::
  (nat_lit 106, { cls := Value.type "tuple", data := Data.seq #[(vs "share" 302), (vs "seeds" 303), (vs "worths" 304), (vs "generations" 305), (vs "generation" 306)] }) ::
  (nat_lit 107, { cls := Value.type "tuple", data := Data.seq #[] }) ::
  (nat_lit 109, { cls := Value.type "code", data := Data.fields #[(vs "share_after" 299), (vs "share_after" 300), (vs "/claim/cut.py" 301), (vi 40 0), (vi 4 0), (vi 0 0), (vi 0 0), (vi 3 0), (vr 104), Value.bool true, (vi 181 0), (vr 105), Value.none, (vr 106), (vr 107), (vr 108), (vi 307 0), (vi 40 0), (vs "/claim/cut.py" 308)] }) ::
  (nat_lit 110, { cls := Value.type "function", data := fo "share_after" "share_after" (KP.top 15) (vs "kindshares.shares" 187) (vr 109) }) ::
  (nat_lit 111, { cls := Value.type "tuple", data := Data.seq #[] }) ::
  (nat_lit 113, { cls := Value.type "tuple", data := Data.seq #[(vs "before" 313), (vs "later" 314), (vs "gain" 315)] }) ::
  (nat_lit 114, { cls := Value.type "tuple", data := Data.seq #[] }) ::
  (nat_lit 116, { cls := Value.type "code", data := Data.fields #[(vs "direction" 310), (vs "direction" 311), (vs "/claim/cut.py" 312), (vi 44 0), (vi 2 0), (vi 0 0), (vi 0 0), (vi 3 0), (vr 111), Value.bool true, (vi 181 0), (vr 112), Value.none, (vr 113), (vr 114), (vr 115), (vi 316 0), (vi 44 0), (vs "/claim/cut.py" 317)] }) ::
  (nat_lit 117, { cls := Value.type "function", data := fo "direction" "direction" (KP.top 16) (vs "kindshares.shares" 187) (vr 116) }) ::
  (nat_lit 118, { cls := Value.type "tuple", data := Data.seq #[] }) ::
  (nat_lit 120, { cls := Value.type "tuple", data := Data.seq #[(vs "share" 322), (vs "seeds" 323), (vs "worths" 324)] }) ::
  (nat_lit 121, { cls := Value.type "tuple", data := Data.seq #[] }) ::
  (nat_lit 123, { cls := Value.type "code", data := Data.fields #[(vs "share_way" 319), (vs "share_way" 320), (vs "/claim/cut.py" 321), (vi 51 0), (vi 3 0), (vi 0 0), (vi 0 0), (vi 3 0), (vr 118), Value.bool true, (vi 181 0), (vr 119), Value.none, (vr 120), (vr 121), (vr 122), (vi 325 0), (vi 51 0), (vs "/claim/cut.py" 326)] }) ::
  (nat_lit 124, { cls := Value.type "function", data := fo "share_way" "share_way" (KP.top 17) (vs "kindshares.shares" 187) (vr 123) }) ::
  (nat_lit 125, { cls := Value.type "tuple", data := Data.seq #[] }) ::
  (nat_lit 128, { cls := Value.type "code", data := Data.fields #[(vs "first_growth" 328), (vs "first_growth" 329), (vs "/claim/cut.py" 330), (vi 53 0), (vi 2 0), (vi 0 0), (vi 0 0), (vi 3 0), (vr 125), Value.bool true, (vi 181 0), (vr 126), Value.none, Value.none, Value.none, (vr 127), (vi 331 0), (vi 53 0), (vs "/claim/cut.py" 332)] }) ::
  (nat_lit 129, { cls := Value.type "function", data := fo "first_growth" "first_growth" (KP.top 18) (vs "kindshares.shares" 187) (vr 128) }) ::
  (nat_lit 130, { cls := Value.type "tuple", data := Data.seq #[] }) ::
  (nat_lit 133, { cls := Value.type "code", data := Data.fields #[(vs "second_growth" 334), (vs "second_growth" 335), (vs "/claim/cut.py" 336), (vi 55 0), (vi 2 0), (vi 0 0), (vi 0 0), (vi 3 0), (vr 130), Value.bool true, (vi 181 0), (vr 131), Value.none, Value.none, Value.none, (vr 132), (vi 337 0), (vi 55 0), (vs "/claim/cut.py" 338)] }) ::
  (nat_lit 134, { cls := Value.type "function", data := fo "second_growth" "second_growth" (KP.top 19) (vs "kindshares.shares" 187) (vr 133) }) ::
  (nat_lit 135, { cls := Value.type "tuple", data := Data.seq #[] }) ::
  (nat_lit 137, { cls := Value.type "tuple", data := Data.seq #[(vs "fraction" 343)] }) ::
  (nat_lit 138, { cls := Value.type "tuple", data := Data.seq #[] }) ::
  (nat_lit 140, { cls := Value.type "code", data := Data.fields #[(vs "is_above_one" 340), (vs "is_above_one" 341), (vs "/claim/cut.py" 342), (vi 57 0), (vi 1 0), (vi 0 0), (vi 0 0), (vi 3 0), (vr 135), Value.bool true, (vi 181 0), (vr 136), Value.none, (vr 137), (vr 138), (vr 139), (vi 344 0), (vi 57 0), (vs "/claim/cut.py" 345)] }) ::
  (nat_lit 141, { cls := Value.type "function", data := fo "is_above_one" "is_above_one" (KP.top 20) (vs "kindshares.shares" 187) (vr 140) }) ::
  (nat_lit 142, { cls := Value.type "tuple", data := Data.seq #[] }) ::
  (nat_lit 144, { cls := Value.type "tuple", data := Data.seq #[(vs "seeds" 350), (vs "worths" 351)] }) ::
  (nat_lit 145, { cls := Value.type "tuple", data := Data.seq #[] }) ::
  (nat_lit 147, { cls := Value.type "code", data := Data.fields #[(vs "are_both_kept" 347), (vs "are_both_kept" 348), (vs "/claim/cut.py" 349), (vi 59 0), (vi 2 0), (vi 0 0), (vi 0 0), (vi 3 0), (vr 142), Value.bool true, (vi 181 0), (vr 143), Value.none, (vr 144), (vr 145), (vr 146), (vi 352 0), (vi 59 0), (vs "/claim/cut.py" 353)] }) ::
  (nat_lit 148, { cls := Value.type "function", data := fo "are_both_kept" "are_both_kept" (KP.top 21) (vs "kindshares.shares" 187) (vr 147) }) ::
  (nat_lit 149, { cls := Value.type "tuple", data := Data.seq #[] }) ::
  (nat_lit 152, { cls := Value.type "code", data := Data.fields #[(vs "best_place" 355), (vs "best_place" 356), (vs "/claim/cut.py" 357), (vi 61 0), (vi 2 0), (vi 0 0), (vi 0 0), (vi 3 0), (vr 149), Value.bool true, (vi 181 0), (vr 150), Value.none, Value.none, Value.none, (vr 151), (vi 358 0), (vi 61 0), (vs "/claim/cut.py" 359)] }) ::
  (nat_lit 153, { cls := Value.type "function", data := fo "best_place" "best_place" (KP.top 22) (vs "kindshares.shares" 187) (vr 152) }) ::
  (nat_lit 154, { cls := Value.type "tuple", data := Data.seq #[] }) ::
  (nat_lit 156, { cls := Value.type "tuple", data := Data.seq #[(vs "number" 364), (vs "times" 365), (vs "product" 366), (vs "turn" 367)] }) ::
  (nat_lit 157, { cls := Value.type "tuple", data := Data.seq #[] }) ::
  (nat_lit 159, { cls := Value.type "code", data := Data.fields #[(vs "power" 361), (vs "power" 362), (vs "/claim/cut.py" 363), (vi 64 0), (vi 2 0), (vi 0 0), (vi 0 0), (vi 3 0), (vr 154), Value.bool true, (vi 181 0), (vr 155), Value.none, (vr 156), (vr 157), (vr 158), (vi 368 0), (vi 64 0), (vs "/claim/cut.py" 369)] }) ::
  (nat_lit 160, { cls := Value.type "function", data := fo "power" "power" (KP.top 23) (vs "kindshares.shares" 187) (vr 159) }) ::
  (nat_lit 161, { cls := Value.type "tuple", data := Data.seq #[] }) ::
  (nat_lit 163, { cls := Value.type "tuple", data := Data.seq #[(vs "share" 374), (vs "seeds" 375), (vs "worths" 376), (vs "upper" 377), (vs "lower" 378), (vs "seeds_here" 379), (vs "worths_here" 380), (vs "mean" 381)] }) ::
  (nat_lit 164, { cls := Value.type "tuple", data := Data.seq #[] }) ::
  (nat_lit 166, { cls := Value.type "code", data := Data.fields #[(vs "product_of_means" 371), (vs "product_of_means" 372), (vs "/claim/cut.py" 373), (vi 69 0), (vi 3 0), (vi 0 0), (vi 0 0), (vi 3 0), (vr 161), Value.bool true, (vi 181 0), (vr 162), Value.none, (vr 163), (vr 164), (vr 165), (vi 382 0), (vi 69 0), (vs "/claim/cut.py" 383)] }) ::
  (nat_lit 167, { cls := Value.type "function", data := fo "product_of_means" "product_of_means" (KP.top 24) (vs "kindshares.shares" 187) (vr 166) }) ::
  (nat_lit 168, { cls := Value.type "tuple", data := Data.seq #[] }) ::
  (nat_lit 170, { cls := Value.type "tuple", data := Data.seq #[(vs "share" 388), (vs "seeds" 389), (vs "worths" 390), (vs "later" 391)] }) ::
  (nat_lit 171, { cls := Value.type "tuple", data := Data.seq #[] }) ::
  (nat_lit 173, { cls := Value.type "code", data := Data.fields #[(vs "product_way" 385), (vs "product_way" 386), (vs "/claim/cut.py" 387), (vi 77 0), (vi 3 0), (vi 0 0), (vi 0 0), (vi 3 0), (vr 168), Value.bool true, (vi 181 0), (vr 169), Value.none, (vr 170), (vr 171), (vr 172), (vi 392 0), (vi 77 0), (vs "/claim/cut.py" 393)] }) ::
  (nat_lit 174, { cls := Value.type "function", data := fo "product_way" "product_way" (KP.top 25) (vs "kindshares.shares" 187) (vr 173) }) ::
  (nat_lit 175, { cls := Value.type "tuple", data := Data.seq #[(vi 0 434), (vi 3 435), (vi 4 436), (vi 2 437), (vi 0 438), (vi 1 439), (vi 1 440), (vi 0 441), (vi 1 442), (vi 0 443), (vi 2 444), (vi 0 445), (vi 0 446), (vi 0 447), (vi 1 448), (vi 2 449), (vi 0 450), (vi 1 451), (vi 1 452), (vi 0 453)] }) ::
  (nat_lit 183, { cls := Value.type "tuple", data := Data.seq #[] }) ::
  (nat_lit 185, { cls := Value.type "tuple", data := Data.seq #[(vs "self" 470)] }) ::
  (nat_lit 186, { cls := Value.type "tuple", data := Data.seq #[] }) ::
  (nat_lit 188, { cls := Value.type "code", data := Data.fields #[(vs "__init__" 467), (vs "Field.__init__" 468), (vs "/claim/cut.py" 469), (vi 100 0), (vi 1 0), (vi 0 0), (vi 0 0), (vi 3 0), (vr 183), Value.bool true, (vi 181 0), (vr 184), Value.none, (vr 185), (vr 186), (vr 187), (vi 471 0), (vi 100 0), (vs "/claim/cut.py" 472)] }) ::
  (nat_lit 189, { cls := Value.type "function", data := fo "__init__" "Field.__init__" (L2.inClass (KP.top 44) 0) (vs "kindshares.places" 395) (vr 188) }) ::
  (nat_lit 190, { cls := Value.type "tuple", data := Data.seq #[(vs "seeds" 474), (vs "share" 475), (vs "worths" 476)] }) ::
  (nat_lit 191, { cls := Value.type "dict", data := Data.dict #[(de P "__module__" 462 (vs "kindshares.places" 395)),
  (de P "__firstlineno__" 466 (vi 98 465)),
  (de P "__init__" 473 (vr 189)),
  (de P "__static_attributes__" 477 (vr 190)),
  (de P "__dict__" 479 (vr 193)),
  (de P "__weakref__" 481 (vr 194)),
  (de P "__doc__" 482 (Value.none))] 4 }) ::
  (nat_lit 192, { cls := Value.type "type", data := Data.cls { name := Str.ofString "Field", bases := [Value.type "object"], mro := [(vr 192), Value.type "object"], ns := 191, qualname := Str.ofString "Field" }, slots := #[none, none, some (vs "Field" 455), some (vs "Field" 463), some (Value.builtin "object.__new__"), some (Value.bool true)] }) ::
  (nat_lit 193, { cls := Value.type "getset_descriptor", data := Data.fields #[(vs "__dict__" 478), (vr 192), Value.builtin "function.__dict__", Value.builtin "function.__dict__#set"] }) ::
  (nat_lit 194, { cls := Value.type "getset_descriptor", data := Data.fields #[(vs "__weakref__" 480), (vr 192), Value.builtin "ExceptionGroup.__weakref__", Value.none] }) ::
  (nat_lit 197, { cls := Value.type "tuple", data := Data.seq #[] }) ::
  (nat_lit 199, { cls := Value.type "tuple", data := Data.seq #[(vs "field" 488), (vs "place" 489)] }) ::
  (nat_lit 200, { cls := Value.type "tuple", data := Data.seq #[] }) ::
  (nat_lit 202, { cls := Value.type "code", data := Data.fields #[(vs "is_place" 485), (vs "is_place" 486), (vs "/claim/cut.py" 487), (vi 104 0), (vi 2 0), (vi 0 0), (vi 0 0), (vi 3 0), (vr 197), Value.bool true, (vi 181 0), (vr 198), Value.none, (vr 199), (vr 200), (vr 201), (vi 490 0), (vi 104 0), (vs "/claim/cut.py" 491)] }) ::
  (nat_lit 203, { cls := Value.type "function", data := fo "is_place" "is_place" (KP.top 45) (vs "kindshares.places" 395) (vr 202) }) ::
  (nat_lit 204, { cls := Value.type "tuple", data := Data.seq #[] }) ::
  (nat_lit 206, { cls := Value.type "tuple", data := Data.seq #[(vs "numbers" 496)] }) ::
  (nat_lit 207, { cls := Value.type "tuple", data := Data.seq #[] }) ::
  (nat_lit 209, { cls := Value.type "code", data := Data.fields #[(vs "are_worths" 493), (vs "are_worths" 494), (vs "/claim/cut.py" 495), (vi 106 0), (vi 1 0), (vi 0 0), (vi 0 0), (vi 3 0), (vr 204), Value.bool true, (vi 181 0), (vr 205), Value.none, (vr 206), (vr 207), (vr 208), (vi 497 0), (vi 106 0), (vs "/claim/cut.py" 498)] }) ::
  (nat_lit 210, { cls := Value.type "function", data := fo "are_worths" "are_worths" (KP.top 46) (vs "kindshares.places" 395) (vr 209) }) ::
  (nat_lit 211, { cls := Value.type "tuple", data := Data.seq #[] }) ::
  (nat_lit 213, { cls := Value.type "tuple", data := Data.seq #[(vs "upper" 503), (vs "lower" 504)] }) ::
  (nat_lit 214, { cls := Value.type "tuple", data := Data.seq #[] }) ::
  (nat_lit 216, { cls := Value.type "code", data := Data.fields #[(vs "is_share" 500), (vs "is_share" 501), (vs "/claim/cut.py" 502), (vi 108 0), (vi 2 0), (vi 0 0), (vi 0 0), (vi 3 0), (vr 211), Value.bool true, (vi 181 0), (vr 212), Value.none, (vr 213), (vr 214), (vr 215), (vi 505 0), (vi 108 0), (vs "/claim/cut.py" 506)] }) ::
  (nat_lit 217, { cls := Value.type "function", data := fo "is_share" "is_share" (KP.top 47) (vs "kindshares.places" 395) (vr 216) }) ::
  (nat_lit 218, { cls := Value.type "tuple", data := Data.seq #[] }) ::
  (nat_lit 220, { cls := Value.type "tuple", data := Data.seq #[(vs "row" 511)] }) ::
  (nat_lit 221, { cls := Value.type "tuple", data := Data.seq #[] }) ::
  (nat_lit 223, { cls := Value.type "code", data := Data.fields #[(vs "are_whole_places" 508), (vs "are_whole_places" 509), (vs "/claim/cut.py" 510), (vi 110 0), (vi 1 0), (vi 0 0), (vi 0 0), (vi 3 0), (vr 218), Value.bool true, (vi 181 0), (vr 219), Value.none, (vr 220), (vr 221), (vr 222), (vi 512 0), (vi 110 0), (vs "/claim/cut.py" 513)] }) ::
  (nat_lit 224, { cls := Value.type "function", data := fo "are_whole_places" "are_whole_places" (KP.top 48) (vs "kindshares.places" 395) (vr 223) }) ::
  (nat_lit 225, { cls := Value.type "tuple", data := Data.seq #[] }) ::
  (nat_lit 227, { cls := Value.type "tuple", data := Data.seq #[(vs "row" 518)] }) ::
  (nat_lit 228, { cls := Value.type "tuple", data := Data.seq #[] }) ::
  (nat_lit 230, { cls := Value.type "code", data := Data.fields #[(vs "seeds_of" 515), (vs "seeds_of" 516), (vs "/claim/cut.py" 517), (vi 112 0), (vi 1 0), (vi 0 0), (vi 0 0), (vi 3 0), (vr 225), Value.bool true, (vi 181 0), (vr 226), Value.none, (vr 227), (vr 228), (vr 229), (vi 519 0), (vi 112 0), (vs "/claim/cut.py" 520)] }) ::
  (nat_lit 231, { cls := Value.type "function", data := fo "seeds_of" "seeds_of" (KP.top 49) (vs "kindshares.places" 395) (vr 230) }) ::
  (nat_lit 232, { cls := Value.type "tuple", data := Data.seq #[] }) ::
  (nat_lit 235, { cls := Value.type "code", data := Data.fields #[(vs "worths_of" 522), (vs "worths_of" 523), (vs "/claim/cut.py" 524), (vi 114 0), (vi 1 0), (vi 0 0), (vi 0 0), (vi 3 0), (vr 232), Value.bool true, (vi 181 0), (vr 233), Value.none, Value.none, Value.none, (vr 234), (vi 525 0), (vi 114 0), (vs "/claim/cut.py" 526)] }) ::
  (nat_lit 236, { cls := Value.type "function", data := fo "worths_of" "worths_of" (KP.top 50) (vs "kindshares.places" 395) (vr 235) }) ::
  (nat_lit 237, { cls := Value.type "tuple", data := Data.seq #[] }) ::
  (nat_lit 240, { cls := Value.type "code", data := Data.fields #[(vs "start" 528), (vs "start" 529), (vs "/claim/cut.py" 530), (vi 116 0), (vi 2 0), (vi 0 0), (vi 0 0), (vi 3 0), (vr 237), Value.bool true, (vi 181 0), (vr 238), Value.none, Value.none, Value.none, (vr 239), (vi 531 0), (vi 116 0), (vs "/claim/cut.py" 532)] }) ::
  (nat_lit 241, { cls := Value.type "function", data := fo "start" "start" (KP.top 51) (vs "kindshares.places" 395) (vr 240) }) ::
  (nat_lit 242, { cls := Value.type "tuple", data := Data.seq #[] }) ::
  (nat_lit 244, { cls := Value.type "tuple", data := Data.seq #[(vs "field" 537), (vs "numbers" 538), (vs "giver" 539), (vs "taker" 540), (vs "moved" 541)] }) ::
  (nat_lit 245, { cls := Value.type "tuple", data := Data.seq #[] }) ::
  (nat_lit 247, { cls := Value.type "code", data := Data.fields #[(vs "move_seeds" 534), (vs "move_seeds" 535), (vs "/claim/cut.py" 536), (vi 127 0), (vi 2 0), (vi 0 0), (vi 0 0), (vi 3 0), (vr 242), Value.bool true, (vi 181 0), (vr 243), Value.none, (vr 244), (vr 245), (vr 246), (vi 542 0), (vi 127 0), (vs "/claim/cut.py" 543)] }) ::
  (nat_lit 248, { cls := Value.type "function", data := fo "move_seeds" "move_seeds" (KP.top 52) (vs "kindshares.places" 395) (vr 247) }) ::
  (nat_lit 249, { cls := Value.type "tuple", data := Data.seq #[] }) ::
  (nat_lit 251, { cls := Value.type "tuple", data := Data.seq #[(vs "field" 548), (vs "numbers" 549), (vs "place" 550), (vs "worths" 551), (vs "before" 552)] }) ::
  (nat_lit 252, { cls := Value.type "tuple", data := Data.seq #[] }) ::
  (nat_lit 254, { cls := Value.type "code", data := Data.fields #[(vs "set_worths" 545), (vs "set_worths" 546), (vs "/claim/cut.py" 547), (vi 140 0), (vi 2 0), (vi 0 0), (vi 0 0), (vi 3 0), (vr 249), Value.bool true, (vi 181 0), (vr 250), Value.none, (vr 251), (vr 252), (vr 253), (vi 553 0), (vi 140 0), (vs "/claim/cut.py" 554)] }) ::
  (nat_lit 255, { cls := Value.type "function", data := fo "set_worths" "set_worths" (KP.top 53) (vs "kindshares.places" 395) (vr 254) }) ::
  (nat_lit 256, { cls := Value.type "tuple", data := Data.seq #[] }) ::
  (nat_lit 258, { cls := Value.type "tuple", data := Data.seq #[(vs "field" 559), (vs "numbers" 560)] }) ::
  (nat_lit 259, { cls := Value.type "tuple", data := Data.seq #[] }) ::
  (nat_lit 261, { cls := Value.type "code", data := Data.fields #[(vs "set_share" 556), (vs "set_share" 557), (vs "/claim/cut.py" 558), (vi 150 0), (vi 2 0), (vi 0 0), (vi 0 0), (vi 3 0), (vr 256), Value.bool true, (vi 181 0), (vr 257), Value.none, (vr 258), (vr 259), (vr 260), (vi 561 0), (vi 150 0), (vs "/claim/cut.py" 562)] }) ::
  (nat_lit 262, { cls := Value.type "function", data := fo "set_share" "set_share" (KP.top 54) (vs "kindshares.places" 395) (vr 261) }) ::
  (nat_lit 263, { cls := Value.type "tuple", data := Data.seq #[] }) ::
  (nat_lit 265, { cls := Value.type "tuple", data := Data.seq #[(vs "field" 567), (vs "numbers" 568)] }) ::
  (nat_lit 266, { cls := Value.type "tuple", data := Data.seq #[] }) ::
  (nat_lit 268, { cls := Value.type "code", data := Data.fields #[(vs "tell_share" 564), (vs "tell_share" 565), (vs "/claim/cut.py" 566), (vi 155 0), (vi 2 0), (vi 0 0), (vi 0 0), (vi 3 0), (vr 263), Value.bool true, (vi 181 0), (vr 264), Value.none, (vr 265), (vr 266), (vr 267), (vi 569 0), (vi 155 0), (vs "/claim/cut.py" 570)] }) ::
  (nat_lit 269, { cls := Value.type "function", data := fo "tell_share" "tell_share" (KP.top 55) (vs "kindshares.places" 395) (vr 268) }) ::
  (nat_lit 270, { cls := Value.type "tuple", data := Data.seq #[] }) ::
  (nat_lit 272, { cls := Value.type "tuple", data := Data.seq #[(vs "field" 575), (vs "numbers" 576)] }) ::
  (nat_lit 273, { cls := Value.type "tuple", data := Data.seq #[] }) ::
  (nat_lit 275, { cls := Value.type "code", data := Data.fields #[(vs "tell_mean" 572), (vs "tell_mean" 573), (vs "/claim/cut.py" 574), (vi 157 0), (vi 2 0), (vi 0 0), (vi 0 0), (vi 3 0), (vr 270), Value.bool true, (vi 181 0), (vr 271), Value.none, (vr 272), (vr 273), (vr 274), (vi 577 0), (vi 157 0), (vs "/claim/cut.py" 578)] }) ::
  (nat_lit 276, { cls := Value.type "function", data := fo "tell_mean" "tell_mean" (KP.top 56) (vs "kindshares.places" 395) (vr 275) }) ::
  (nat_lit 277, { cls := Value.type "tuple", data := Data.seq #[] }) ::
  (nat_lit 279, { cls := Value.type "tuple", data := Data.seq #[(vs "field" 583), (vs "numbers" 584), (vs "worths" 585)] }) ::
  (nat_lit 280, { cls := Value.type "tuple", data := Data.seq #[] }) ::
  (nat_lit 282, { cls := Value.type "code", data := Data.fields #[(vs "tell_kinds" 580), (vs "tell_kinds" 581), (vs "/claim/cut.py" 582), (vi 161 0), (vi 2 0), (vi 0 0), (vi 0 0), (vi 3 0), (vr 277), Value.bool true, (vi 181 0), (vr 278), Value.none, (vr 279), (vr 280), (vr 281), (vi 586 0), (vi 161 0), (vs "/claim/cut.py" 587)] }) ::
  (nat_lit 283, { cls := Value.type "function", data := fo "tell_kinds" "tell_kinds" (KP.top 57) (vs "kindshares.places" 395) (vr 282) }) ::
  (nat_lit 284, { cls := Value.type "tuple", data := Data.seq #[] }) ::
  (nat_lit 286, { cls := Value.type "tuple", data := Data.seq #[(vs "field" 592), (vs "numbers" 593)] }) ::
  (nat_lit 287, { cls := Value.type "tuple", data := Data.seq #[] }) ::
  (nat_lit 289, { cls := Value.type "code", data := Data.fields #[(vs "pass_generation" 589), (vs "pass_generation" 590), (vs "/claim/cut.py" 591), (vi 166 0), (vi 2 0), (vi 0 0), (vi 0 0), (vi 3 0), (vr 284), Value.bool true, (vi 181 0), (vr 285), Value.none, (vr 286), (vr 287), (vr 288), (vi 594 0), (vi 166 0), (vs "/claim/cut.py" 595)] }) ::
  (nat_lit 290, { cls := Value.type "function", data := fo "pass_generation" "pass_generation" (KP.top 58) (vs "kindshares.places" 395) (vr 289) }) ::
  (nat_lit 291, { cls := Value.type "tuple", data := Data.seq #[] }) ::
  (nat_lit 293, { cls := Value.type "tuple", data := Data.seq #[(vs "field" 600), (vs "numbers" 601)] }) ::
  (nat_lit 294, { cls := Value.type "tuple", data := Data.seq #[] }) ::
  (nat_lit 296, { cls := Value.type "code", data := Data.fields #[(vs "tell_after" 597), (vs "tell_after" 598), (vs "/claim/cut.py" 599), (vi 171 0), (vi 2 0), (vi 0 0), (vi 0 0), (vi 3 0), (vr 291), Value.bool true, (vi 181 0), (vr 292), Value.none, (vr 293), (vr 294), (vr 295), (vi 602 0), (vi 171 0), (vs "/claim/cut.py" 603)] }) ::
  (nat_lit 297, { cls := Value.type "function", data := fo "tell_after" "tell_after" (KP.top 59) (vs "kindshares.places" 395) (vr 296) }) ::
  (nat_lit 298, { cls := Value.type "tuple", data := Data.seq #[] }) ::
  (nat_lit 300, { cls := Value.type "tuple", data := Data.seq #[(vs "field" 608), (vs "numbers" 609)] }) ::
  (nat_lit 301, { cls := Value.type "tuple", data := Data.seq #[] }) ::
  (nat_lit 303, { cls := Value.type "code", data := Data.fields #[(vs "tell_way" 605), (vs "tell_way" 606), (vs "/claim/cut.py" 607), (vi 175 0), (vi 2 0), (vi 0 0), (vi 0 0), (vi 3 0), (vr 298), Value.bool true, (vi 181 0), (vr 299), Value.none, (vr 300), (vr 301), (vr 302), (vi 610 0), (vi 175 0), (vs "/claim/cut.py" 611)] }) ::
  (nat_lit 304, { cls := Value.type "function", data := fo "tell_way" "tell_way" (KP.top 60) (vs "kindshares.places" 395) (vr 303) }) ::
  (nat_lit 305, { cls := Value.type "tuple", data := Data.seq #[] }) ::
  (nat_lit 307, { cls := Value.type "tuple", data := Data.seq #[(vs "field" 616), (vs "numbers" 617)] }) ::
  (nat_lit 308, { cls := Value.type "tuple", data := Data.seq #[] }) ::
  (nat_lit 310, { cls := Value.type "code", data := Data.fields #[(vs "tell_way_at" 613), (vs "tell_way_at" 614), (vs "/claim/cut.py" 615), (vi 177 0), (vi 2 0), (vi 0 0), (vi 0 0), (vi 3 0), (vr 305), Value.bool true, (vi 181 0), (vr 306), Value.none, (vr 307), (vr 308), (vr 309), (vi 618 0), (vi 177 0), (vs "/claim/cut.py" 619)] }) ::
  (nat_lit 311, { cls := Value.type "function", data := fo "tell_way_at" "tell_way_at" (KP.top 61) (vs "kindshares.places" 395) (vr 310) }) ::
  (nat_lit 312, { cls := Value.type "tuple", data := Data.seq #[] }) ::
  (nat_lit 314, { cls := Value.type "tuple", data := Data.seq #[(vs "field" 624), (vs "numbers" 625)] }) ::
  (nat_lit 315, { cls := Value.type "tuple", data := Data.seq #[] }) ::
  (nat_lit 317, { cls := Value.type "code", data := Data.fields #[(vs "tell_enters" 621), (vs "tell_enters" 622), (vs "/claim/cut.py" 623), (vi 181 0), (vi 2 0), (vi 0 0), (vi 0 0), (vi 3 0), (vr 312), Value.bool true, (vi 181 0), (vr 313), Value.none, (vr 314), (vr 315), (vr 316), (vi 626 0), (vi 181 0), (vs "/claim/cut.py" 627)] }) ::
  (nat_lit 318, { cls := Value.type "function", data := fo "tell_enters" "tell_enters" (KP.top 62) (vs "kindshares.places" 395) (vr 317) }) ::
  (nat_lit 319, { cls := Value.type "tuple", data := Data.seq #[] }) ::
  (nat_lit 321, { cls := Value.type "tuple", data := Data.seq #[(vs "field" 632), (vs "numbers" 633)] }) ::
  (nat_lit 322, { cls := Value.type "tuple", data := Data.seq #[] }) ::
  (nat_lit 324, { cls := Value.type "code", data := Data.fields #[(vs "tell_enters_other" 629), (vs "tell_enters_other" 630), (vs "/claim/cut.py" 631), (vi 183 0), (vi 2 0), (vi 0 0), (vi 0 0), (vi 3 0), (vr 319), Value.bool true, (vi 181 0), (vr 320), Value.none, (vr 321), (vr 322), (vr 323), (vi 634 0), (vi 183 0), (vs "/claim/cut.py" 635)] }) ::
  (nat_lit 325, { cls := Value.type "function", data := fo "tell_enters_other" "tell_enters_other" (KP.top 63) (vs "kindshares.places" 395) (vr 324) }) ::
  (nat_lit 326, { cls := Value.type "tuple", data := Data.seq #[] }) ::
  (nat_lit 328, { cls := Value.type "tuple", data := Data.seq #[(vs "field" 640), (vs "numbers" 641)] }) ::
  (nat_lit 329, { cls := Value.type "tuple", data := Data.seq #[] }) ::
  (nat_lit 331, { cls := Value.type "code", data := Data.fields #[(vs "tell_both" 637), (vs "tell_both" 638), (vs "/claim/cut.py" 639), (vi 185 0), (vi 2 0), (vi 0 0), (vi 0 0), (vi 3 0), (vr 326), Value.bool true, (vi 181 0), (vr 327), Value.none, (vr 328), (vr 329), (vr 330), (vi 642 0), (vi 185 0), (vs "/claim/cut.py" 643)] }) ::
  (nat_lit 332, { cls := Value.type "function", data := fo "tell_both" "tell_both" (KP.top 64) (vs "kindshares.places" 395) (vr 331) }) ::
  (nat_lit 333, { cls := Value.type "tuple", data := Data.seq #[] }) ::
  (nat_lit 335, { cls := Value.type "tuple", data := Data.seq #[(vs "field" 648), (vs "numbers" 649)] }) ::
  (nat_lit 336, { cls := Value.type "tuple", data := Data.seq #[] }) ::
  (nat_lit 338, { cls := Value.type "code", data := Data.fields #[(vs "tell_at_place" 645), (vs "tell_at_place" 646), (vs "/claim/cut.py" 647), (vi 189 0), (vi 2 0), (vi 0 0), (vi 0 0), (vi 3 0), (vr 333), Value.bool true, (vi 181 0), (vr 334), Value.none, (vr 335), (vr 336), (vr 337), (vi 650 0), (vi 189 0), (vs "/claim/cut.py" 651)] }) ::
  (nat_lit 339, { cls := Value.type "function", data := fo "tell_at_place" "tell_at_place" (KP.top 65) (vs "kindshares.places" 395) (vr 338) }) ::
  (nat_lit 340, { cls := Value.type "tuple", data := Data.seq #[] }) ::
  (nat_lit 342, { cls := Value.type "tuple", data := Data.seq #[(vs "field" 656), (vs "numbers" 657)] }) ::
  (nat_lit 343, { cls := Value.type "tuple", data := Data.seq #[] }) ::
  (nat_lit 345, { cls := Value.type "code", data := Data.fields #[(vs "tell_more" 653), (vs "tell_more" 654), (vs "/claim/cut.py" 655), (vi 193 0), (vi 2 0), (vi 0 0), (vi 0 0), (vi 3 0), (vr 340), Value.bool true, (vi 181 0), (vr 341), Value.none, (vr 342), (vr 343), (vr 344), (vi 658 0), (vi 193 0), (vs "/claim/cut.py" 659)] }) ::
  (nat_lit 346, { cls := Value.type "function", data := fo "tell_more" "tell_more" (KP.top 66) (vs "kindshares.places" 395) (vr 345) }) ::
  (nat_lit 347, { cls := Value.type "tuple", data := Data.seq #[] }) ::
  (nat_lit 349, { cls := Value.type "tuple", data := Data.seq #[(vs "field" 664), (vs "numbers" 665)] }) ::
  (nat_lit 350, { cls := Value.type "tuple", data := Data.seq #[] }) ::
  (nat_lit 352, { cls := Value.type "code", data := Data.fields #[(vs "tell_best" 661), (vs "tell_best" 662), (vs "/claim/cut.py" 663), (vi 197 0), (vi 2 0), (vi 0 0), (vi 0 0), (vi 3 0), (vr 347), Value.bool true, (vi 181 0), (vr 348), Value.none, (vr 349), (vr 350), (vr 351), (vi 666 0), (vi 197 0), (vs "/claim/cut.py" 667)] }) ::
  (nat_lit 353, { cls := Value.type "function", data := fo "tell_best" "tell_best" (KP.top 67) (vs "kindshares.places" 395) (vr 352) }) ::
  (nat_lit 354, { cls := Value.type "tuple", data := Data.seq #[] }) ::
  (nat_lit 357, { cls := Value.type "code", data := Data.fields #[(vs "tell_near" 669), (vs "tell_near" 670), (vs "/claim/cut.py" 671), (vi 199 0), (vi 2 0), (vi 0 0), (vi 0 0), (vi 3 0), (vr 354), Value.bool true, (vi 181 0), (vr 355), Value.none, Value.none, Value.none, (vr 356), (vi 672 0), (vi 199 0), (vs "/claim/cut.py" 673)] }) ::
  (nat_lit 358, { cls := Value.type "function", data := fo "tell_near" "tell_near" (KP.top 68) (vs "kindshares.places" 395) (vr 357) }) ::
  (nat_lit 359, { cls := Value.type "tuple", data := Data.seq #[] }) ::
  (nat_lit 361, { cls := Value.type "tuple", data := Data.seq #[(vs "field" 678), (vs "numbers" 679)] }) ::
  (nat_lit 362, { cls := Value.type "tuple", data := Data.seq #[] }) ::
  (nat_lit 364, { cls := Value.type "code", data := Data.fields #[(vs "tell_place" 675), (vs "tell_place" 676), (vs "/claim/cut.py" 677), (vi 205 0), (vi 2 0), (vi 0 0), (vi 0 0), (vi 3 0), (vr 359), Value.bool true, (vi 181 0), (vr 360), Value.none, (vr 361), (vr 362), (vr 363), (vi 680 0), (vi 205 0), (vs "/claim/cut.py" 681)] }) ::
  (nat_lit 365, { cls := Value.type "function", data := fo "tell_place" "tell_place" (KP.top 69) (vs "kindshares.places" 395) (vr 364) }) ::
  (nat_lit 366, { cls := Value.type "tuple", data := Data.seq #[] }) ::
  (nat_lit 368, { cls := Value.type "tuple", data := Data.seq #[(vs "field" 686), (vs "numbers" 687)] }) ::
  (nat_lit 369, { cls := Value.type "tuple", data := Data.seq #[] }) ::
  (nat_lit 371, { cls := Value.type "code", data := Data.fields #[(vs "tell_state" 683), (vs "tell_state" 684), (vs "/claim/cut.py" 685), (vi 209 0), (vi 2 0), (vi 0 0), (vi 0 0), (vi 3 0), (vr 366), Value.bool true, (vi 181 0), (vr 367), Value.none, (vr 368), (vr 369), (vr 370), (vi 688 0), (vi 209 0), (vs "/claim/cut.py" 689)] }) ::
  (nat_lit 372, { cls := Value.type "function", data := fo "tell_state" "tell_state" (KP.top 70) (vs "kindshares.places" 395) (vr 371) }) ::
  (nat_lit 373, { cls := Value.type "dict", data := Data.dict #[{ hash := 0, key := (vi 0 691), val := (vr 241) }, { hash := 1, key := (vi 1 693), val := (vr 248) }, { hash := 2, key := (vi 2 695), val := (vr 255) }, { hash := 3, key := (vi 3 697), val := (vr 262) }, { hash := 4, key := (vi 4 699), val := (vr 269) }, { hash := 5, key := (vi 5 701), val := (vr 276) }, { hash := 6, key := (vi 6 703), val := (vr 283) }, { hash := 7, key := (vi 7 705), val := (vr 290) }, { hash := 8, key := (vi 8 707), val := (vr 297) }, { hash := 9, key := (vi 9 709), val := (vr 304) }, { hash := 10, key := (vi 10 711), val := (vr 311) }, { hash := 11, key := (vi 11 713), val := (vr 318) }, { hash := 12, key := (vi 12 715), val := (vr 325) }, { hash := 13, key := (vi 13 717), val := (vr 332) }, { hash := 14, key := (vi 14 719), val := (vr 339) }, { hash := 15, key := (vi 15 721), val := (vr 346) }, { hash := 16, key := (vi 16 723), val := (vr 353) }, { hash := 17, key := (vi 17 725), val := (vr 358) }, { hash := 18, key := (vi 18 726), val := (vr 365) }, { hash := 19, key := (vi 19 727), val := (vr 372) }] 20 }) ::
  (nat_lit 375, { cls := Value.type "tuple", data := Data.seq #[] }) ::
  (nat_lit 377, { cls := Value.type "tuple", data := Data.seq #[(vs "calls" 735), (vs "at" 736)] }) ::
  (nat_lit 378, { cls := Value.type "tuple", data := Data.seq #[] }) ::
  (nat_lit 380, { cls := Value.type "code", data := Data.fields #[(vs "numbers_begin" 732), (vs "numbers_begin" 733), (vs "/claim/cut.py" 734), (vi 212 0), (vi 2 0), (vi 0 0), (vi 0 0), (vi 3 0), (vr 375), Value.bool true, (vi 181 0), (vr 376), Value.none, (vr 377), (vr 378), (vr 379), (vi 737 0), (vi 212 0), (vs "/claim/cut.py" 738)] }) ::
  (nat_lit 381, { cls := Value.type "function", data := fo "numbers_begin" "numbers_begin" (KP.top 72) (vs "kindshares.places" 395) (vr 380) }) ::
  (nat_lit 382, { cls := Value.type "tuple", data := Data.seq #[] }) ::
  (nat_lit 384, { cls := Value.type "tuple", data := Data.seq #[(vs "calls" 743), (vs "at" 744)] }) ::
  (nat_lit 385, { cls := Value.type "tuple", data := Data.seq #[] }) ::
  (nat_lit 387, { cls := Value.type "code", data := Data.fields #[(vs "numbers_end" 740), (vs "numbers_end" 741), (vs "/claim/cut.py" 742), (vi 216 0), (vi 2 0), (vi 0 0), (vi 0 0), (vi 3 0), (vr 382), Value.bool true, (vi 181 0), (vr 383), Value.none, (vr 384), (vr 385), (vr 386), (vi 745 0), (vi 216 0), (vs "/claim/cut.py" 746)] }) ::
  (nat_lit 388, { cls := Value.type "function", data := fo "numbers_end" "numbers_end" (KP.top 73) (vs "kindshares.places" 395) (vr 387) }) ::
  (nat_lit 389, { cls := Value.type "tuple", data := Data.seq #[] }) ::
  (nat_lit 391, { cls := Value.type "tuple", data := Data.seq #[(vs "field" 751), (vs "call" 752), (vs "numbers" 753)] }) ::
  (nat_lit 392, { cls := Value.type "tuple", data := Data.seq #[] }) ::
  (nat_lit 394, { cls := Value.type "code", data := Data.fields #[(vs "answer" 748), (vs "answer" 749), (vs "/claim/cut.py" 750), (vi 220 0), (vi 3 0), (vi 0 0), (vi 0 0), (vi 3 0), (vr 389), Value.bool true, (vi 181 0), (vr 390), Value.none, (vr 391), (vr 392), (vr 393), (vi 754 0), (vi 220 0), (vs "/claim/cut.py" 755)] }) ::
  (nat_lit 395, { cls := Value.type "function", data := fo "answer" "answer" (KP.top 74) (vs "kindshares.places" 395) (vr 394) }) ::
  (nat_lit 396, { cls := Value.type "tuple", data := Data.seq #[] }) ::
  (nat_lit 398, { cls := Value.type "tuple", data := Data.seq #[(vs "calls" 760), (vs "field" 761), (vs "told" 762), (vs "at" 763), (vs "end" 764), (vs "answered" 765)] }) ::
  (nat_lit 399, { cls := Value.type "tuple", data := Data.seq #[] }) ::
  (nat_lit 401, { cls := Value.type "code", data := Data.fields #[(vs "answers" 757), (vs "answers" 758), (vs "/claim/cut.py" 759), (vi 224 0), (vi 1 0), (vi 0 0), (vi 0 0), (vi 3 0), (vr 396), Value.bool true, (vi 181 0), (vr 397), Value.none, (vr 398), (vr 399), (vr 400), (vi 766 0), (vi 224 0), (vs "/claim/cut.py" 767)] }) ::
  (nat_lit 402, { cls := Value.type "function", data := fo "answers" "answers" (KP.top 75) (vs "kindshares.places" 395) (vr 401) }) :: []
noncomputable def addrs : List Addr := [2, 3, 15, 17, 18, 20, 21, 22, 24, 25, 27, 28, 29, 31, 32, 34, 35, 36, 38, 39, 41, 42, 43, 45, 46, 48, 49, 50, 52, 53, 55, 56, 57, 59, 60, 62, 63, 64, 66, 67, 69, 70, 71, 73, 74, 76, 77, 78, 80, 81, 83, 84, 85, 87, 88, 90, 91, 92, 94, 95, 97, 98, 99, 102, 103, 104, 106, 107, 109, 110, 111, 113, 114, 116, 117, 118, 120, 121, 123, 124, 125, 128, 129, 130, 133, 134, 135, 137, 138, 140, 141, 142, 144, 145, 147, 148, 149, 152, 153, 154, 156, 157, 159, 160, 161, 163, 164, 166, 167, 168, 170, 171, 173, 174, 175, 183, 185, 186, 188, 189, 190, 191, 192, 193, 194, 197, 199, 200, 202, 203, 204, 206, 207, 209, 210, 211, 213, 214, 216, 217, 218, 220, 221, 223, 224, 225, 227, 228, 230, 231, 232, 235, 236, 237, 240, 241, 242, 244, 245, 247, 248, 249, 251, 252, 254, 255, 256, 258, 259, 261, 262, 263, 265, 266, 268, 269, 270, 272, 273, 275, 276, 277, 279, 280, 282, 283, 284, 286, 287, 289, 290, 291, 293, 294, 296, 297, 298, 300, 301, 303, 304, 305, 307, 308, 310, 311, 312, 314, 315, 317, 318, 319, 321, 322, 324, 325, 326, 328, 329, 331, 332, 333, 335, 336, 338, 339, 340, 342, 343, 345, 346, 347, 349, 350, 352, 353, 354, 357, 358, 359, 361, 362, 364, 365, 366, 368, 369, 371, 372, 373, 375, 377, 378, 380, 381, 382, 384, 385, 387, 388, 389, 391, 392, 394, 395, 396, 398, 399, 401, 402]
theorem addrs_ok : ∀ P, addrs = (KF P).map (·.1) := fun _ => by kernel_rfl
abbrev pw : Program := PySem.Challenge.pw_kindshares_s01_answers
noncomputable def V : Program := { pw with main := { pw.main with body := (pw.main.body.take 26).tail ++ pw.main.body.drop 27 } }
abbrev asked : String := "special-get-raises"
noncomputable abbrev Hk : Hook := kHook KF addrs addrs_ok
/-! the heap at four places of the top's run -/
noncomputable def gl (P : Params) : List DictEntry := [
  de P "__name__" 165 (vs "kindshares.places" 395),
  de P "__doc__" 166 (Value.none),
  de P "__package__" 167 (Value.none),
  de P "__loader__" 168 (Value.builtin "__main__.__loader__#opaque"),
  de P "__spec__" 169 (Value.none),
  de P "__annotations__" 170 (vr 6),
  de P "__builtins__" 171 (vr 4),
  de P "__file__" 173 (vs "/claim/cut.py" 172),
  de P "__cached__" 174 (Value.none),
  de P "ALL_SEEDS" 190 (vi 100 189),
  de P "common_divisor" 199 (vr 21),
  de P "lowest" 208 (vr 28),
  de P "lack" 215 (vr 35),
  de P "first_part" 223 (vr 42),
  de P "second_part" 231 (vr 49),
  de P "mean_part" 239 (vr 56),
  de P "first_worth" 247 (vr 63),
  de P "second_worth" 255 (vr 70),
  de P "mean_worth" 263 (vr 77),
  de P "chosen_parts" 271 (vr 84),
  de P "chosen_share" 280 (vr 91),
  de P "over_all_places" 292 (vr 98),
  de P "share_next" 298 (vr 103),
  de P "share_after" 309 (vr 110),
  de P "direction" 318 (vr 117),
  de P "share_way" 327 (vr 124),
  de P "first_growth" 333 (vr 129),
  de P "second_growth" 339 (vr 134),
  de P "is_above_one" 346 (vr 141),
  de P "are_both_kept" 354 (vr 148),
  de P "best_place" 360 (vr 153),
  de P "power" 370 (vr 160),
  de P "product_of_means" 384 (vr 167),
  de P "product_way" 394 (vr 174),
  de P "NO_SUCH_PLACE" 399 (Value.int (-2) 398),
  de P "NOT_STARTED" 402 (Value.int (-11) 401),
  de P "TOO_FEW_SEEDS" 405 (Value.int (-12) 404),
  de P "NOT_AS_TOLD" 408 (Value.int (-22) 407),
  de P "TOO_GREAT" 411 (Value.int (-28) 410),
  de P "MOST_PLACES" 413 (vi 3 412),
  de P "NUMBERS_OF_A_PLACE" 415 (vi 4 414),
  de P "LEAST_WORTH" 417 (vi 1 416),
  de P "GREATEST_WORTH" 419 (vi 9 418),
  de P "GREATEST_LOWER_TOLD" 421 (vi 100 420),
  de P "GREATEST_LOWER_AT_MORE" 423 (vi 10 422),
  de P "GREATEST_LOWER_AT_NEXT" 425 (vi 100000 424),
  de P "MOST_GENERATIONS" 427 (vi 2 426),
  de P "LEAST_PARTS" 429 (vi 2 428),
  de P "MOST_PARTS" 431 (vi 30 430),
  de P "START" 433 (vi 0 432),
  de P "HOW_MANY_NUMBERS" 454 (vr 175),
  de P "Field" 484 (vr 192),
  de P "is_place" 492 (vr 203),
  de P "are_worths" 499 (vr 210),
  de P "is_share" 507 (vr 217),
  de P "are_whole_places" 514 (vr 224),
  de P "seeds_of" 521 (vr 231),
  de P "worths_of" 527 (vr 236),
  de P "start" 533 (vr 241),
  de P "move_seeds" 544 (vr 248),
  de P "set_worths" 555 (vr 255),
  de P "set_share" 563 (vr 262),
  de P "tell_share" 571 (vr 269),
  de P "tell_mean" 579 (vr 276),
  de P "tell_kinds" 588 (vr 283),
  de P "pass_generation" 596 (vr 290),
  de P "tell_after" 604 (vr 297),
  de P "tell_way" 612 (vr 304),
  de P "tell_way_at" 620 (vr 311),
  de P "tell_enters" 628 (vr 318),
  de P "tell_enters_other" 636 (vr 325),
  de P "tell_both" 644 (vr 332),
  de P "tell_at_place" 652 (vr 339),
  de P "tell_more" 660 (vr 346),
  de P "tell_best" 668 (vr 353),
  de P "tell_near" 674 (vr 358),
  de P "tell_place" 682 (vr 365),
  de P "tell_state" 690 (vr 372),
  de P "ANSWERED_BY" 731 (vr 373),
  de P "numbers_begin" 739 (vr 381),
  de P "numbers_end" 747 (vr 388),
  de P "answer" 756 (vr 395),
  de P "answers" 768 (vr 402)]
noncomputable def LA (P : Params) : List Obj := [
  { cls := Value.type "tuple", data := Data.seq #[] },
  { cls := Value.none, data := Data.fields #[] },
  { cls := Value.type "tuple", data := Data.seq #[vs "one" 194, vs "other" 195, vs "rest" 196] },
  { cls := Value.type "tuple", data := Data.seq #[] },
  { cls := Value.none, data := Data.func { name := Str.ofString "common_divisor", qualname := Str.ofString "common_divisor", params := L2.defArgs (KP.top 2), body := FuncBody.stmts (L2.defBody (KP.top 2)), scope := L2.defScope (KP.top 2), globals := 0, closure := [], defaults := Value.none, kwdefaults := Value.none } },
  { cls := Value.type "code", data := Data.fields #[vs "common_divisor" 191, vs "common_divisor" 192, vs "/claim/cut.py" 193, vi 3 0, vi 2 0, vi 0 0, vi 0 0, vi 3 0, vr 15, Value.bool true, vi 181 0, vr 16, Value.none, vr 17, vr 18, vr 19, vi 197 0, vi 3 0, vs "/claim/cut.py" 198] },
  { cls := Value.type "function", data := fo "common_divisor" "common_divisor" (KP.top 2) (vs "kindshares.shares" 187) (vr 20) },
  { cls := Value.type "tuple", data := Data.seq #[] },
  { cls := Value.none, data := Data.fields #[] },
  { cls := Value.type "tuple", data := Data.seq #[vs "upper" 203, vs "lower" 204, vs "divisor" 205] },
  { cls := Value.type "tuple", data := Data.seq #[] },
  { cls := Value.none, data := Data.func { name := Str.ofString "lowest", qualname := Str.ofString "lowest", params := L2.defArgs (KP.top 3), body := FuncBody.stmts (L2.defBody (KP.top 3)), scope := L2.defScope (KP.top 3), globals := 0, closure := [], defaults := Value.none, kwdefaults := Value.none } },
  { cls := Value.type "code", data := Data.fields #[vs "lowest" 200, vs "lowest" 201, vs "/claim/cut.py" 202, vi 9 0, vi 2 0, vi 0 0, vi 0 0, vi 3 0, vr 22, Value.bool true, vi 181 0, vr 23, Value.none, vr 24, vr 25, vr 26, vi 206 0, vi 9 0, vs "/claim/cut.py" 207] },
  { cls := Value.type "function", data := fo "lowest" "lowest" (KP.top 3) (vs "kindshares.shares" 187) (vr 27) },
  { cls := Value.type "tuple", data := Data.seq #[] },
  { cls := Value.none, data := Data.fields #[] },
  { cls := Value.type "tuple", data := Data.seq #[vs "share" 212] },
  { cls := Value.type "tuple", data := Data.seq #[] },
  { cls := Value.none, data := Data.func { name := Str.ofString "lack", qualname := Str.ofString "lack", params := L2.defArgs (KP.top 4), body := FuncBody.stmts (L2.defBody (KP.top 4)), scope := L2.defScope (KP.top 4), globals := 0, closure := [], defaults := Value.none, kwdefaults := Value.none } },
  { cls := Value.type "code", data := Data.fields #[vs "lack" 209, vs "lack" 210, vs "/claim/cut.py" 211, vi 12 0, vi 1 0, vi 0 0, vi 0 0, vi 3 0, vr 29, Value.bool true, vi 181 0, vr 30, Value.none, vr 31, vr 32, vr 33, vi 213 0, vi 12 0, vs "/claim/cut.py" 214] },
  { cls := Value.type "function", data := fo "lack" "lack" (KP.top 4) (vs "kindshares.shares" 187) (vr 34) },
  { cls := Value.type "tuple", data := Data.seq #[] },
  { cls := Value.none, data := Data.fields #[] },
  { cls := Value.type "tuple", data := Data.seq #[vs "share" 219, vs "worths" 220] },
  { cls := Value.type "tuple", data := Data.seq #[] },
  { cls := Value.none, data := Data.func { name := Str.ofString "first_part", qualname := Str.ofString "first_part", params := L2.defArgs (KP.top 5), body := FuncBody.stmts (L2.defBody (KP.top 5)), scope := L2.defScope (KP.top 5), globals := 0, closure := [], defaults := Value.none, kwdefaults := Value.none } },
  { cls := Value.type "code", data := Data.fields #[vs "first_part" 216, vs "first_part" 217, vs "/claim/cut.py" 218, vi 14 0, vi 2 0, vi 0 0, vi 0 0, vi 3 0, vr 36, Value.bool true, vi 181 0, vr 37, Value.none, vr 38, vr 39, vr 40, vi 221 0, vi 14 0, vs "/claim/cut.py" 222] },
  { cls := Value.type "function", data := fo "first_part" "first_part" (KP.top 5) (vs "kindshares.shares" 187) (vr 41) },
  { cls := Value.type "tuple", data := Data.seq #[] },
  { cls := Value.none, data := Data.fields #[] },
  { cls := Value.type "tuple", data := Data.seq #[vs "share" 227, vs "worths" 228] },
  { cls := Value.type "tuple", data := Data.seq #[] },
  { cls := Value.none, data := Data.func { name := Str.ofString "second_part", qualname := Str.ofString "second_part", params := L2.defArgs (KP.top 6), body := FuncBody.stmts (L2.defBody (KP.top 6)), scope := L2.defScope (KP.top 5), globals := 0, closure := [], defaults := Value.none, kwdefaults := Value.none } },
  { cls := Value.type "code", data := Data.fields #[vs "second_part" 224, vs "second_part" 225, vs "/claim/cut.py" 226, vi 16 0, vi 2 0, vi 0 0, vi 0 0, vi 3 0, vr 43, Value.bool true, vi 181 0, vr 44, Value.none, vr 45, vr 46, vr 47, vi 229 0, vi 16 0, vs "/claim/cut.py" 230] },
  { cls := Value.type "function", data := fo "second_part" "second_part" (KP.top 6) (vs "kindshares.shares" 187) (vr 48) },
  { cls := Value.type "tuple", data := Data.seq #[] },
  { cls := Value.none, data := Data.fields #[] },
  { cls := Value.type "tuple", data := Data.seq #[vs "share" 235, vs "worths" 236] },
  { cls := Value.type "tuple", data := Data.seq #[] },
  { cls := Value.none, data := Data.func { name := Str.ofString "mean_part", qualname := Str.ofString "mean_part", params := L2.defArgs (KP.top 7), body := FuncBody.stmts (L2.defBody (KP.top 7)), scope := L2.defScope (KP.top 7), globals := 0, closure := [], defaults := Value.none, kwdefaults := Value.none } },
  { cls := Value.type "code", data := Data.fields #[vs "mean_part" 232, vs "mean_part" 233, vs "/claim/cut.py" 234, vi 18 0, vi 2 0, vi 0 0, vi 0 0, vi 3 0, vr 50, Value.bool true, vi 181 0, vr 51, Value.none, vr 52, vr 53, vr 54, vi 237 0, vi 18 0, vs "/claim/cut.py" 238] },
  { cls := Value.type "function", data := fo "mean_part" "mean_part" (KP.top 7) (vs "kindshares.shares" 187) (vr 55) },
  { cls := Value.type "tuple", data := Data.seq #[] },
  { cls := Value.none, data := Data.fields #[] },
  { cls := Value.type "tuple", data := Data.seq #[vs "share" 243, vs "worths" 244] },
  { cls := Value.type "tuple", data := Data.seq #[] },
  { cls := Value.none, data := Data.func { name := Str.ofString "first_worth", qualname := Str.ofString "first_worth", params := L2.defArgs (KP.top 8), body := FuncBody.stmts (L2.defBody (KP.top 8)), scope := L2.defScope (KP.top 8), globals := 0, closure := [], defaults := Value.none, kwdefaults := Value.none } },
  { cls := Value.type "code", data := Data.fields #[vs "first_worth" 240, vs "first_worth" 241, vs "/claim/cut.py" 242, vi 20 0, vi 2 0, vi 0 0, vi 0 0, vi 3 0, vr 57, Value.bool true, vi 181 0, vr 58, Value.none, vr 59, vr 60, vr 61, vi 245 0, vi 20 0, vs "/claim/cut.py" 246] },
  { cls := Value.type "function", data := fo "first_worth" "first_worth" (KP.top 8) (vs "kindshares.shares" 187) (vr 62) },
  { cls := Value.type "tuple", data := Data.seq #[] },
  { cls := Value.none, data := Data.fields #[] },
  { cls := Value.type "tuple", data := Data.seq #[vs "share" 251, vs "worths" 252] },
  { cls := Value.type "tuple", data := Data.seq #[] },
  { cls := Value.none, data := Data.func { name := Str.ofString "second_worth", qualname := Str.ofString "second_worth", params := L2.defArgs (KP.top 9), body := FuncBody.stmts (L2.defBody (KP.top 9)), scope := L2.defScope (KP.top 9), globals := 0, closure := [], defaults := Value.none, kwdefaults := Value.none } },
  { cls := Value.type "code", data := Data.fields #[vs "second_worth" 248, vs "second_worth" 249, vs "/claim/cut.py" 250, vi 22 0, vi 2 0, vi 0 0, vi 0 0, vi 3 0, vr 64, Value.bool true, vi 181 0, vr 65, Value.none, vr 66, vr 67, vr 68, vi 253 0, vi 22 0, vs "/claim/cut.py" 254] },
  { cls := Value.type "function", data := fo "second_worth" "second_worth" (KP.top 9) (vs "kindshares.shares" 187) (vr 69) },
  { cls := Value.type "tuple", data := Data.seq #[] },
  { cls := Value.none, data := Data.fields #[] },
  { cls := Value.type "tuple", data := Data.seq #[vs "share" 259, vs "worths" 260] },
  { cls := Value.type "tuple", data := Data.seq #[] },
  { cls := Value.none, data := Data.func { name := Str.ofString "mean_worth", qualname := Str.ofString "mean_worth", params := L2.defArgs (KP.top 10), body := FuncBody.stmts (L2.defBody (KP.top 10)), scope := L2.defScope (KP.top 10), globals := 0, closure := [], defaults := Value.none, kwdefaults := Value.none } },
  { cls := Value.type "code", data := Data.fields #[vs "mean_worth" 256, vs "mean_worth" 257, vs "/claim/cut.py" 258, vi 24 0, vi 2 0, vi 0 0, vi 0 0, vi 3 0, vr 71, Value.bool true, vi 181 0, vr 72, Value.none, vr 73, vr 74, vr 75, vi 261 0, vi 24 0, vs "/claim/cut.py" 262] },
  { cls := Value.type "function", data := fo "mean_worth" "mean_worth" (KP.top 10) (vs "kindshares.shares" 187) (vr 76) },
  { cls := Value.type "tuple", data := Data.seq #[] },
  { cls := Value.none, data := Data.fields #[] },
  { cls := Value.type "tuple", data := Data.seq #[vs "share" 267, vs "worths" 268] },
  { cls := Value.type "tuple", data := Data.seq #[] },
  { cls := Value.none, data := Data.func { name := Str.ofString "chosen_parts", qualname := Str.ofString "chosen_parts", params := L2.defArgs (KP.top 11), body := FuncBody.stmts (L2.defBody (KP.top 11)), scope := L2.defScope (KP.top 11), globals := 0, closure := [], defaults := Value.none, kwdefaults := Value.none } },
  { cls := Value.type "code", data := Data.fields #[vs "chosen_parts" 264, vs "chosen_parts" 265, vs "/claim/cut.py" 266, vi 26 0, vi 2 0, vi 0 0, vi 0 0, vi 3 0, vr 78, Value.bool true, vi 181 0, vr 79, Value.none, vr 80, vr 81, vr 82, vi 269 0, vi 26 0, vs "/claim/cut.py" 270] },
  { cls := Value.type "function", data := fo "chosen_parts" "chosen_parts" (KP.top 11) (vs "kindshares.shares" 187) (vr 83) },
  { cls := Value.type "tuple", data := Data.seq #[] },
  { cls := Value.none, data := Data.fields #[] },
  { cls := Value.type "tuple", data := Data.seq #[vs "share" 275, vs "worths" 276, vs "chosen" 277] },
  { cls := Value.type "tuple", data := Data.seq #[] },
  { cls := Value.none, data := Data.func { name := Str.ofString "chosen_share", qualname := Str.ofString "chosen_share", params := L2.defArgs (KP.top 12), body := FuncBody.stmts (L2.defBody (KP.top 12)), scope := L2.defScope (KP.top 12), globals := 0, closure := [], defaults := Value.none, kwdefaults := Value.none } },
  { cls := Value.type "code", data := Data.fields #[vs "chosen_share" 272, vs "chosen_share" 273, vs "/claim/cut.py" 274, vi 28 0, vi 2 0, vi 0 0, vi 0 0, vi 3 0, vr 85, Value.bool true, vi 181 0, vr 86, Value.none, vr 87, vr 88, vr 89, vi 278 0, vi 28 0, vs "/claim/cut.py" 279] },
  { cls := Value.type "function", data := fo "chosen_share" "chosen_share" (KP.top 12) (vs "kindshares.shares" 187) (vr 90) },
  { cls := Value.type "tuple", data := Data.seq #[] },
  { cls := Value.none, data := Data.fields #[] },
  { cls := Value.type "tuple", data := Data.seq #[vs "seeds" 284, vs "parts" 285, vs "upper" 286, vs "lower" 287, vs "seeds_here" 288, vs "part" 289] },
  { cls := Value.type "tuple", data := Data.seq #[] },
  { cls := Value.none, data := Data.func { name := Str.ofString "over_all_places", qualname := Str.ofString "over_all_places", params := L2.defArgs (KP.top 13), body := FuncBody.stmts (L2.defBody (KP.top 13)), scope := L2.defScope (KP.top 13), globals := 0, closure := [], defaults := Value.none, kwdefaults := Value.none } },
  { cls := Value.type "code", data := Data.fields #[vs "over_all_places" 281, vs "over_all_places" 282, vs "/claim/cut.py" 283, vi 31 0, vi 2 0, vi 0 0, vi 0 0, vi 3 0, vr 92, Value.bool true, vi 181 0, vr 93, Value.none, vr 94, vr 95, vr 96, vi 290 0, vi 31 0, vs "/claim/cut.py" 291] },
  { cls := Value.type "function", data := fo "over_all_places" "over_all_places" (KP.top 13) (vs "kindshares.shares" 187) (vr 97) },
  { cls := Value.type "tuple", data := Data.seq #[] },
  { cls := Value.none, data := Data.fields #[] },
  { cls := Value.none, data := Data.func { name := Str.ofString "share_next", qualname := Str.ofString "share_next", params := L2.defArgs (KP.top 14), body := FuncBody.stmts (L2.defBody (KP.top 14)), scope := L2.defScope (KP.top 14), globals := 0, closure := [], defaults := Value.none, kwdefaults := Value.none } },
  { cls := Value.type "code", data := Data.fields #[vs "share_next" 293, vs "share_next" 294, vs "/claim/cut.py" 295, vi 38 0, vi 3 0, vi 0 0, vi 0 0, vi 3 0, vr 99, Value.bool true, vi 181 0, vr 100, Value.none, Value.none, Value.none, vr 101, vi 296 0, vi 38 0, vs "/claim/cut.py" 297] },
  { cls := Value.type "function", data := fo "share_next" "share_next" (KP.top 14) (vs "kindshares.shares" 187) (vr 102) },
  { cls := Value.type "tuple", data := Data.seq #[] },
  { cls := Value.none, data := Data.fields #[] },
  { cls := Value.type "tuple", data := Data.seq #[vs "share" 302, vs "seeds" 303, vs "worths" 304, vs "generations" 305, vs "generation" 306] },
  { cls := Value.type "tuple", data := Data.seq #[] },
  { cls := Value.none, data := Data.func { name := Str.ofString "share_after", qualname := Str.ofString "share_after", params := L2.defArgs (KP.top 15), body := FuncBody.stmts (L2.defBody (KP.top 15)), scope := L2.defScope (KP.top 15), globals := 0, closure := [], defaults := Value.none, kwdefaults := Value.none } },
  { cls := Value.type "code", data := Data.fields #[vs "share_after" 299, vs "share_after" 300, vs "/claim/cut.py" 301, vi 40 0, vi 4 0, vi 0 0, vi 0 0, vi 3 0, vr 104, Value.bool true, vi 181 0, vr 105, Value.none, vr 106, vr 107, vr 108, vi 307 0, vi 40 0, vs "/claim/cut.py" 308] },
  { cls := Value.type "function", data := fo "share_after" "share_after" (KP.top 15) (vs "kindshares.shares" 187) (vr 109) },
  { cls := Value.type "tuple", data := Data.seq #[] },
  { cls := Value.none, data := Data.fields #[] },
  { cls := Value.type "tuple", data := Data.seq #[vs "before" 313, vs "later" 314, vs "gain" 315] },
  { cls := Value.type "tuple", data := Data.seq #[] },
  { cls := Value.none, data := Data.func { name := Str.ofString "direction", qualname := Str.ofString "direction", params := L2.defArgs (KP.top 16), body := FuncBody.stmts (L2.defBody (KP.top 16)), scope := L2.defScope (KP.top 16), globals := 0, closure := [], defaults := Value.none, kwdefaults := Value.none } },
  { cls := Value.type "code", data := Data.fields #[vs "direction" 310, vs "direction" 311, vs "/claim/cut.py" 312, vi 44 0, vi 2 0, vi 0 0, vi 0 0, vi 3 0, vr 111, Value.bool true, vi 181 0, vr 112, Value.none, vr 113, vr 114, vr 115, vi 316 0, vi 44 0, vs "/claim/cut.py" 317] },
  { cls := Value.type "function", data := fo "direction" "direction" (KP.top 16) (vs "kindshares.shares" 187) (vr 116) },
  { cls := Value.type "tuple", data := Data.seq #[] },
  { cls := Value.none, data := Data.fields #[] },
  { cls := Value.type "tuple", data := Data.seq #[vs "share" 322, vs "seeds" 323, vs "worths" 324] },
  { cls := Value.type "tuple", data := Data.seq #[] },
  { cls := Value.none, data := Data.func { name := Str.ofString "share_way", qualname := Str.ofString "share_way", params := L2.defArgs (KP.top 17), body := FuncBody.stmts (L2.defBody (KP.top 17)), scope := L2.defScope (KP.top 17), globals := 0, closure := [], defaults := Value.none, kwdefaults := Value.none } },
  { cls := Value.type "code", data := Data.fields #[vs "share_way" 319, vs "share_way" 320, vs "/claim/cut.py" 321, vi 51 0, vi 3 0, vi 0 0, vi 0 0, vi 3 0, vr 118, Value.bool true, vi 181 0, vr 119, Value.none, vr 120, vr 121, vr 122, vi 325 0, vi 51 0, vs "/claim/cut.py" 326] },
  { cls := Value.type "function", data := fo "share_way" "share_way" (KP.top 17) (vs "kindshares.shares" 187) (vr 123) },
  { cls := Value.type "tuple", data := Data.seq #[] },
  { cls := Value.none, data := Data.fields #[] },
  { cls := Value.none, data := Data.func { name := Str.ofString "first_growth", qualname := Str.ofString "first_growth", params := L2.defArgs (KP.top 18), body := FuncBody.stmts (L2.defBody (KP.top 18)), scope := L2.defScope (KP.top 18), globals := 0, closure := [], defaults := Value.none, kwdefaults := Value.none } },
  { cls := Value.type "code", data := Data.fields #[vs "first_growth" 328, vs "first_growth" 329, vs "/claim/cut.py" 330, vi 53 0, vi 2 0, vi 0 0, vi 0 0, vi 3 0, vr 125, Value.bool true, vi 181 0, vr 126, Value.none, Value.none, Value.none, vr 127, vi 331 0, vi 53 0, vs "/claim/cut.py" 332] },
  { cls := Value.type "function", data := fo "first_growth" "first_growth" (KP.top 18) (vs "kindshares.shares" 187) (vr 128) },
  { cls := Value.type "tuple", data := Data.seq #[] },
  { cls := Value.none, data := Data.fields #[] },
  { cls := Value.none, data := Data.func { name := Str.ofString "second_growth", qualname := Str.ofString "second_growth", params := L2.defArgs (KP.top 19), body := FuncBody.stmts (L2.defBody (KP.top 19)), scope := L2.defScope (KP.top 18), globals := 0, closure := [], defaults := Value.none, kwdefaults := Value.none } },
  { cls := Value.type "code", data := Data.fields #[vs "second_growth" 334, vs "second_growth" 335, vs "/claim/cut.py" 336, vi 55 0, vi 2 0, vi 0 0, vi 0 0, vi 3 0, vr 130, Value.bool true, vi 181 0, vr 131, Value.none, Value.none, Value.none, vr 132, vi 337 0, vi 55 0, vs "/claim/cut.py" 338] },
  { cls := Value.type "function", data := fo "second_growth" "second_growth" (KP.top 19) (vs "kindshares.shares" 187) (vr 133) },
  { cls := Value.type "tuple", data := Data.seq #[] },
  { cls := Value.none, data := Data.fields #[] },
  { cls := Value.type "tuple", data := Data.seq #[vs "fraction" 343] },
  { cls := Value.type "tuple", data := Data.seq #[] },
  { cls := Value.none, data := Data.func { name := Str.ofString "is_above_one", qualname := Str.ofString "is_above_one", params := L2.defArgs (KP.top 20), body := FuncBody.stmts (L2.defBody (KP.top 20)), scope := L2.defScope (KP.top 20), globals := 0, closure := [], defaults := Value.none, kwdefaults := Value.none } },
  { cls := Value.type "code", data := Data.fields #[vs "is_above_one" 340, vs "is_above_one" 341, vs "/claim/cut.py" 342, vi 57 0, vi 1 0, vi 0 0, vi 0 0, vi 3 0, vr 135, Value.bool true, vi 181 0, vr 136, Value.none, vr 137, vr 138, vr 139, vi 344 0, vi 57 0, vs "/claim/cut.py" 345] },
  { cls := Value.type "function", data := fo "is_above_one" "is_above_one" (KP.top 20) (vs "kindshares.shares" 187) (vr 140) },
  { cls := Value.type "tuple", data := Data.seq #[] },
  { cls := Value.none, data := Data.fields #[] },
  { cls := Value.type "tuple", data := Data.seq #[vs "seeds" 350, vs "worths" 351] },
  { cls := Value.type "tuple", data := Data.seq #[] },
  { cls := Value.none, data := Data.func { name := Str.ofString "are_both_kept", qualname := Str.ofString "are_both_kept", params := L2.defArgs (KP.top 21), body := FuncBody.stmts (L2.defBody (KP.top 21)), scope := L2.defScope (KP.top 21), globals := 0, closure := [], defaults := Value.none, kwdefaults := Value.none } },
  { cls := Value.type "code", data := Data.fields #[vs "are_both_kept" 347, vs "are_both_kept" 348, vs "/claim/cut.py" 349, vi 59 0, vi 2 0, vi 0 0, vi 0 0, vi 3 0, vr 142, Value.bool true, vi 181 0, vr 143, Value.none, vr 144, vr 145, vr 146, vi 352 0, vi 59 0, vs "/claim/cut.py" 353] },
  { cls := Value.type "function", data := fo "are_both_kept" "are_both_kept" (KP.top 21) (vs "kindshares.shares" 187) (vr 147) },
  { cls := Value.type "tuple", data := Data.seq #[] },
  { cls := Value.none, data := Data.fields #[] },
  { cls := Value.none, data := Data.func { name := Str.ofString "best_place", qualname := Str.ofString "best_place", params := L2.defArgs (KP.top 22), body := FuncBody.stmts (L2.defBody (KP.top 22)), scope := L2.defScope (KP.top 22), globals := 0, closure := [], defaults := Value.none, kwdefaults := Value.none } },
  { cls := Value.type "code", data := Data.fields #[vs "best_place" 355, vs "best_place" 356, vs "/claim/cut.py" 357, vi 61 0, vi 2 0, vi 0 0, vi 0 0, vi 3 0, vr 149, Value.bool true, vi 181 0, vr 150, Value.none, Value.none, Value.none, vr 151, vi 358 0, vi 61 0, vs "/claim/cut.py" 359] },
  { cls := Value.type "function", data := fo "best_place" "best_place" (KP.top 22) (vs "kindshares.shares" 187) (vr 152) },
  { cls := Value.type "tuple", data := Data.seq #[] },
  { cls := Value.none, data := Data.fields #[] },
  { cls := Value.type "tuple", data := Data.seq #[vs "number" 364, vs "times" 365, vs "product" 366, vs "turn" 367] },
  { cls := Value.type "tuple", data := Data.seq #[] },
  { cls := Value.none, data := Data.func { name := Str.ofString "power", qualname := Str.ofString "power", params := L2.defArgs (KP.top 23), body := FuncBody.stmts (L2.defBody (KP.top 23)), scope := L2.defScope (KP.top 23), globals := 0, closure := [], defaults := Value.none, kwdefaults := Value.none } },
  { cls := Value.type "code", data := Data.fields #[vs "power" 361, vs "power" 362, vs "/claim/cut.py" 363, vi 64 0, vi 2 0, vi 0 0, vi 0 0, vi 3 0, vr 154, Value.bool true, vi 181 0, vr 155, Value.none, vr 156, vr 157, vr 158, vi 368 0, vi 64 0, vs "/claim/cut.py" 369] },
  { cls := Value.type "function", data := fo "power" "power" (KP.top 23) (vs "kindshares.shares" 187) (vr 159) },
  { cls := Value.type "tuple", data := Data.seq #[] },
  { cls := Value.none, data := Data.fields #[] },
  { cls := Value.type "tuple", data := Data.seq #[vs "share" 374, vs "seeds" 375, vs "worths" 376, vs "upper" 377, vs "lower" 378, vs "seeds_here" 379, vs "worths_here" 380, vs "mean" 381] },
  { cls := Value.type "tuple", data := Data.seq #[] },
  { cls := Value.none, data := Data.func { name := Str.ofString "product_of_means", qualname := Str.ofString "product_of_means", params := L2.defArgs (KP.top 24), body := FuncBody.stmts (L2.defBody (KP.top 24)), scope := L2.defScope (KP.top 24), globals := 0, closure := [], defaults := Value.none, kwdefaults := Value.none } },
  { cls := Value.type "code", data := Data.fields #[vs "product_of_means" 371, vs "product_of_means" 372, vs "/claim/cut.py" 373, vi 69 0, vi 3 0, vi 0 0, vi 0 0, vi 3 0, vr 161, Value.bool true, vi 181 0, vr 162, Value.none, vr 163, vr 164, vr 165, vi 382 0, vi 69 0, vs "/claim/cut.py" 383] },
  { cls := Value.type "function", data := fo "product_of_means" "product_of_means" (KP.top 24) (vs "kindshares.shares" 187) (vr 166) },
  { cls := Value.type "tuple", data := Data.seq #[] },
  { cls := Value.none, data := Data.fields #[] },
  { cls := Value.type "tuple", data := Data.seq #[vs "share" 388, vs "seeds" 389, vs "worths" 390, vs "later" 391] },
  { cls := Value.type "tuple", data := Data.seq #[] },
  { cls := Value.none, data := Data.func { name := Str.ofString "product_way", qualname := Str.ofString "product_way", params := L2.defArgs (KP.top 25), body := FuncBody.stmts (L2.defBody (KP.top 25)), scope := L2.defScope (KP.top 25), globals := 0, closure := [], defaults := Value.none, kwdefaults := Value.none } },
  { cls := Value.type "code", data := Data.fields #[vs "product_way" 385, vs "product_way" 386, vs "/claim/cut.py" 387, vi 77 0, vi 3 0, vi 0 0, vi 0 0, vi 3 0, vr 168, Value.bool true, vi 181 0, vr 169, Value.none, vr 170, vr 171, vr 172, vi 392 0, vi 77 0, vs "/claim/cut.py" 393] },
  { cls := Value.type "function", data := fo "product_way" "product_way" (KP.top 25) (vs "kindshares.shares" 187) (vr 173) },
  { cls := Value.type "tuple", data := Data.seq #[vi 0 434, vi 3 435, vi 4 436, vi 2 437, vi 0 438, vi 1 439, vi 1 440, vi 0 441, vi 1 442, vi 0 443, vi 2 444, vi 0 445, vi 0 446, vi 0 447, vi 1 448, vi 2 449, vi 0 450, vi 1 451, vi 1 452, vi 0 453] },
  { cls := Value.type "tuple", data := Data.seq #[] },
  { cls := Value.type "builtin_function_or_method", data := Data.fields #[Value.builtin "type.__prepare__", Value.type "type"] },
  { cls := Value.type "dict", data := Data.dict #[de P "__module__" 462 (vs "kindshares.places" 395), de P "__qualname__" 464 (vs "Field" 463), de P "__firstlineno__" 466 (vi 98 465), de P "__init__" 473 (vr 189), de P "__static_attributes__" 477 (vr 190)] 5 },
  { cls := Value.type "tuple", data := Data.seq #[] },
  { cls := Value.none, data := Data.fields #[vi 100 0, vi 4 0, vr 188] },
  { cls := Value.type "code", data := Data.fields #[vs "Field" 457, vs "Field" 458, vs "/claim/cut.py" 459, vi 98 0, vi 0 0, vi 0 0, vi 0 0, vi 0 0, vr 179, Value.bool false, vi 181 0, vr 180, Value.none, Value.none, Value.none, Value.none, vi 460 0, vi 98 0, vs "/claim/cut.py" 461] },
  { cls := Value.type "frame", slots := #[some (vr 181), some (vr 3), some (vr 178), none, some (vs "kindshares.places" 395), none, some (vr 0)] },
  { cls := Value.type "tuple", data := Data.seq #[] },
  { cls := Value.none, data := Data.fields #[] },
  { cls := Value.type "tuple", data := Data.seq #[vs "self" 470] },
  { cls := Value.type "tuple", data := Data.seq #[] },
  { cls := Value.none, data := Data.func { name := Str.ofString "__init__", qualname := Str.ofString "Field.__init__", params := L2.defArgs (L2.inClass (KP.top 44) 0), body := FuncBody.stmts (L2.defBody (L2.inClass (KP.top 44) 0)), scope := L2.defScope (L2.inClass (KP.top 44) 0), globals := 0, closure := [], defaults := Value.none, kwdefaults := Value.none } },
  { cls := Value.type "code", data := Data.fields #[vs "__init__" 467, vs "Field.__init__" 468, vs "/claim/cut.py" 469, vi 100 0, vi 1 0, vi 0 0, vi 0 0, vi 3 0, vr 183, Value.bool true, vi 181 0, vr 184, Value.none, vr 185, vr 186, vr 187, vi 471 0, vi 100 0, vs "/claim/cut.py" 472] },
  { cls := Value.type "function", data := fo "__init__" "Field.__init__" (L2.inClass (KP.top 44) 0) (vs "kindshares.places" 395) (vr 188) },
  { cls := Value.type "tuple", data := Data.seq #[vs "seeds" 474, vs "share" 475, vs "worths" 476] },
  { cls := Value.type "dict", data := Data.dict #[de P "__module__" 462 (vs "kindshares.places" 395), de P "__firstlineno__" 466 (vi 98 465), de P "__init__" 473 (vr 189), de P "__static_attributes__" 477 (vr 190), de P "__dict__" 479 (vr 193), de P "__weakref__" 481 (vr 194), de P "__doc__" 482 (Value.none)] 4 },
  { cls := Value.type "type", data := Data.cls { name := Str.ofString "Field", bases := [Value.type "object"], mro := [vr 192, Value.type "object"], ns := 191, qualname := Str.ofString "Field" }, slots := #[none, none, some (vs "Field" 455), some (vs "Field" 463), some (Value.builtin "object.__new__"), some (Value.bool true)] },
  { cls := Value.type "getset_descriptor", data := Data.fields #[vs "__dict__" 478, vr 192, Value.builtin "function.__dict__", Value.builtin "function.__dict__#set"] },
  { cls := Value.type "getset_descriptor", data := Data.fields #[vs "__weakref__" 480, vr 192, Value.builtin "ExceptionGroup.__weakref__", Value.none] },
  { cls := Value.type "super", data := Data.fields #[vr 192, vr 192, vr 192] },
  { cls := Value.type "builtin_function_or_method", data := Data.fields #[Value.builtin "object.__init_subclass__", vr 192] }]
noncomputable def LB (P : Params) : List Obj := [
  { cls := Value.type "tuple", data := Data.seq #[] },
  { cls := Value.none, data := Data.fields #[] },
  { cls := Value.type "tuple", data := Data.seq #[vs "field" 488, vs "place" 489] },
  { cls := Value.type "tuple", data := Data.seq #[] },
  { cls := Value.none, data := Data.func { name := Str.ofString "is_place", qualname := Str.ofString "is_place", params := L2.defArgs (KP.top 45), body := FuncBody.stmts (L2.defBody (KP.top 45)), scope := L2.defScope (KP.top 45), globals := 0, closure := [], defaults := Value.none, kwdefaults := Value.none } },
  { cls := Value.type "code", data := Data.fields #[vs "is_place" 485, vs "is_place" 486, vs "/claim/cut.py" 487, vi 104 0, vi 2 0, vi 0 0, vi 0 0, vi 3 0, vr 197, Value.bool true, vi 181 0, vr 198, Value.none, vr 199, vr 200, vr 201, vi 490 0, vi 104 0, vs "/claim/cut.py" 491] },
  { cls := Value.type "function", data := fo "is_place" "is_place" (KP.top 45) (vs "kindshares.places" 395) (vr 202) },
  { cls := Value.type "tuple", data := Data.seq #[] },
  { cls := Value.none, data := Data.fields #[] },
  { cls := Value.type "tuple", data := Data.seq #[vs "numbers" 496] },
  { cls := Value.type "tuple", data := Data.seq #[] },
  { cls := Value.none, data := Data.func { name := Str.ofString "are_worths", qualname := Str.ofString "are_worths", params := L2.defArgs (KP.top 46), body := FuncBody.stmts (L2.defBody (KP.top 46)), scope := L2.defScope (KP.top 46), globals := 0, closure := [], defaults := Value.none, kwdefaults := Value.none } },
  { cls := Value.type "code", data := Data.fields #[vs "are_worths" 493, vs "are_worths" 494, vs "/claim/cut.py" 495, vi 106 0, vi 1 0, vi 0 0, vi 0 0, vi 3 0, vr 204, Value.bool true, vi 181 0, vr 205, Value.none, vr 206, vr 207, vr 208, vi 497 0, vi 106 0, vs "/claim/cut.py" 498] },
  { cls := Value.type "function", data := fo "are_worths" "are_worths" (KP.top 46) (vs "kindshares.places" 395) (vr 209) },
  { cls := Value.type "tuple", data := Data.seq #[] },
  { cls := Value.none, data := Data.fields #[] },
  { cls := Value.type "tuple", data := Data.seq #[vs "upper" 503, vs "lower" 504] },
  { cls := Value.type "tuple", data := Data.seq #[] },
  { cls := Value.none, data := Data.func { name := Str.ofString "is_share", qualname := Str.ofString "is_share", params := L2.defArgs (KP.top 47), body := FuncBody.stmts (L2.defBody (KP.top 47)), scope := L2.defScope (KP.top 47), globals := 0, closure := [], defaults := Value.none, kwdefaults := Value.none } },
  { cls := Value.type "code", data := Data.fields #[vs "is_share" 500, vs "is_share" 501, vs "/claim/cut.py" 502, vi 108 0, vi 2 0, vi 0 0, vi 0 0, vi 3 0, vr 211, Value.bool true, vi 181 0, vr 212, Value.none, vr 213, vr 214, vr 215, vi 505 0, vi 108 0, vs "/claim/cut.py" 506] },
  { cls := Value.type "function", data := fo "is_share" "is_share" (KP.top 47) (vs "kindshares.places" 395) (vr 216) },
  { cls := Value.type "tuple", data := Data.seq #[] },
  { cls := Value.none, data := Data.fields #[] },
  { cls := Value.type "tuple", data := Data.seq #[vs "row" 511] },
  { cls := Value.type "tuple", data := Data.seq #[] },
  { cls := Value.none, data := Data.func { name := Str.ofString "are_whole_places", qualname := Str.ofString "are_whole_places", params := L2.defArgs (KP.top 48), body := FuncBody.stmts (L2.defBody (KP.top 48)), scope := L2.defScope (KP.top 48), globals := 0, closure := [], defaults := Value.none, kwdefaults := Value.none } },
  { cls := Value.type "code", data := Data.fields #[vs "are_whole_places" 508, vs "are_whole_places" 509, vs "/claim/cut.py" 510, vi 110 0, vi 1 0, vi 0 0, vi 0 0, vi 3 0, vr 218, Value.bool true, vi 181 0, vr 219, Value.none, vr 220, vr 221, vr 222, vi 512 0, vi 110 0, vs "/claim/cut.py" 513] },
  { cls := Value.type "function", data := fo "are_whole_places" "are_whole_places" (KP.top 48) (vs "kindshares.places" 395) (vr 223) },
  { cls := Value.type "tuple", data := Data.seq #[] },
  { cls := Value.none, data := Data.fields #[] },
  { cls := Value.type "tuple", data := Data.seq #[vs "row" 518] },
  { cls := Value.type "tuple", data := Data.seq #[] },
  { cls := Value.none, data := Data.func { name := Str.ofString "seeds_of", qualname := Str.ofString "seeds_of", params := L2.defArgs (KP.top 49), body := FuncBody.stmts (L2.defBody (KP.top 49)), scope := L2.defScope (KP.top 49), globals := 0, closure := [], defaults := Value.none, kwdefaults := Value.none } },
  { cls := Value.type "code", data := Data.fields #[vs "seeds_of" 515, vs "seeds_of" 516, vs "/claim/cut.py" 517, vi 112 0, vi 1 0, vi 0 0, vi 0 0, vi 3 0, vr 225, Value.bool true, vi 181 0, vr 226, Value.none, vr 227, vr 228, vr 229, vi 519 0, vi 112 0, vs "/claim/cut.py" 520] },
  { cls := Value.type "function", data := fo "seeds_of" "seeds_of" (KP.top 49) (vs "kindshares.places" 395) (vr 230) },
  { cls := Value.type "tuple", data := Data.seq #[] },
  { cls := Value.none, data := Data.fields #[] },
  { cls := Value.none, data := Data.func { name := Str.ofString "worths_of", qualname := Str.ofString "worths_of", params := L2.defArgs (KP.top 50), body := FuncBody.stmts (L2.defBody (KP.top 50)), scope := L2.defScope (KP.top 50), globals := 0, closure := [], defaults := Value.none, kwdefaults := Value.none } },
  { cls := Value.type "code", data := Data.fields #[vs "worths_of" 522, vs "worths_of" 523, vs "/claim/cut.py" 524, vi 114 0, vi 1 0, vi 0 0, vi 0 0, vi 3 0, vr 232, Value.bool true, vi 181 0, vr 233, Value.none, Value.none, Value.none, vr 234, vi 525 0, vi 114 0, vs "/claim/cut.py" 526] },
  { cls := Value.type "function", data := fo "worths_of" "worths_of" (KP.top 50) (vs "kindshares.places" 395) (vr 235) },
  { cls := Value.type "tuple", data := Data.seq #[] },
  { cls := Value.none, data := Data.fields #[] },
  { cls := Value.none, data := Data.func { name := Str.ofString "start", qualname := Str.ofString "start", params := L2.defArgs (KP.top 51), body := FuncBody.stmts (L2.defBody (KP.top 51)), scope := L2.defScope (KP.top 51), globals := 0, closure := [], defaults := Value.none, kwdefaults := Value.none } },
  { cls := Value.type "code", data := Data.fields #[vs "start" 528, vs "start" 529, vs "/claim/cut.py" 530, vi 116 0, vi 2 0, vi 0 0, vi 0 0, vi 3 0, vr 237, Value.bool true, vi 181 0, vr 238, Value.none, Value.none, Value.none, vr 239, vi 531 0, vi 116 0, vs "/claim/cut.py" 532] },
  { cls := Value.type "function", data := fo "start" "start" (KP.top 51) (vs "kindshares.places" 395) (vr 240) },
  { cls := Value.type "tuple", data := Data.seq #[] },
  { cls := Value.none, data := Data.fields #[] },
  { cls := Value.type "tuple", data := Data.seq #[vs "field" 537, vs "numbers" 538, vs "giver" 539, vs "taker" 540, vs "moved" 541] },
  { cls := Value.type "tuple", data := Data.seq #[] },
  { cls := Value.none, data := Data.func { name := Str.ofString "move_seeds", qualname := Str.ofString "move_seeds", params := L2.defArgs (KP.top 52), body := FuncBody.stmts (L2.defBody (KP.top 52)), scope := L2.defScope (KP.top 52), globals := 0, closure := [], defaults := Value.none, kwdefaults := Value.none } },
  { cls := Value.type "code", data := Data.fields #[vs "move_seeds" 534, vs "move_seeds" 535, vs "/claim/cut.py" 536, vi 127 0, vi 2 0, vi 0 0, vi 0 0, vi 3 0, vr 242, Value.bool true, vi 181 0, vr 243, Value.none, vr 244, vr 245, vr 246, vi 542 0, vi 127 0, vs "/claim/cut.py" 543] },
  { cls := Value.type "function", data := fo "move_seeds" "move_seeds" (KP.top 52) (vs "kindshares.places" 395) (vr 247) },
  { cls := Value.type "tuple", data := Data.seq #[] },
  { cls := Value.none, data := Data.fields #[] },
  { cls := Value.type "tuple", data := Data.seq #[vs "field" 548, vs "numbers" 549, vs "place" 550, vs "worths" 551, vs "before" 552] },
  { cls := Value.type "tuple", data := Data.seq #[] },
  { cls := Value.none, data := Data.func { name := Str.ofString "set_worths", qualname := Str.ofString "set_worths", params := L2.defArgs (KP.top 53), body := FuncBody.stmts (L2.defBody (KP.top 53)), scope := L2.defScope (KP.top 53), globals := 0, closure := [], defaults := Value.none, kwdefaults := Value.none } },
  { cls := Value.type "code", data := Data.fields #[vs "set_worths" 545, vs "set_worths" 546, vs "/claim/cut.py" 547, vi 140 0, vi 2 0, vi 0 0, vi 0 0, vi 3 0, vr 249, Value.bool true, vi 181 0, vr 250, Value.none, vr 251, vr 252, vr 253, vi 553 0, vi 140 0, vs "/claim/cut.py" 554] },
  { cls := Value.type "function", data := fo "set_worths" "set_worths" (KP.top 53) (vs "kindshares.places" 395) (vr 254) },
  { cls := Value.type "tuple", data := Data.seq #[] },
  { cls := Value.none, data := Data.fields #[] },
  { cls := Value.type "tuple", data := Data.seq #[vs "field" 559, vs "numbers" 560] },
  { cls := Value.type "tuple", data := Data.seq #[] },
  { cls := Value.none, data := Data.func { name := Str.ofString "set_share", qualname := Str.ofString "set_share", params := L2.defArgs (KP.top 54), body := FuncBody.stmts (L2.defBody (KP.top 54)), scope := L2.defScope (KP.top 54), globals := 0, closure := [], defaults := Value.none, kwdefaults := Value.none } },
  { cls := Value.type "code", data := Data.fields #[vs "set_share" 556, vs "set_share" 557, vs "/claim/cut.py" 558, vi 150 0, vi 2 0, vi 0 0, vi 0 0, vi 3 0, vr 256, Value.bool true, vi 181 0, vr 257, Value.none, vr 258, vr 259, vr 260, vi 561 0, vi 150 0, vs "/claim/cut.py" 562] },
  { cls := Value.type "function", data := fo "set_share" "set_share" (KP.top 54) (vs "kindshares.places" 395) (vr 261) },
  { cls := Value.type "tuple", data := Data.seq #[] },
  { cls := Value.none, data := Data.fields #[] },
  { cls := Value.type "tuple", data := Data.seq #[vs "field" 567, vs "numbers" 568] },
  { cls := Value.type "tuple", data := Data.seq #[] },
  { cls := Value.none, data := Data.func { name := Str.ofString "tell_share", qualname := Str.ofString "tell_share", params := L2.defArgs (KP.top 55), body := FuncBody.stmts (L2.defBody (KP.top 55)), scope := L2.defScope (KP.top 55), globals := 0, closure := [], defaults := Value.none, kwdefaults := Value.none } },
  { cls := Value.type "code", data := Data.fields #[vs "tell_share" 564, vs "tell_share" 565, vs "/claim/cut.py" 566, vi 155 0, vi 2 0, vi 0 0, vi 0 0, vi 3 0, vr 263, Value.bool true, vi 181 0, vr 264, Value.none, vr 265, vr 266, vr 267, vi 569 0, vi 155 0, vs "/claim/cut.py" 570] },
  { cls := Value.type "function", data := fo "tell_share" "tell_share" (KP.top 55) (vs "kindshares.places" 395) (vr 268) },
  { cls := Value.type "tuple", data := Data.seq #[] },
  { cls := Value.none, data := Data.fields #[] },
  { cls := Value.type "tuple", data := Data.seq #[vs "field" 575, vs "numbers" 576] },
  { cls := Value.type "tuple", data := Data.seq #[] },
  { cls := Value.none, data := Data.func { name := Str.ofString "tell_mean", qualname := Str.ofString "tell_mean", params := L2.defArgs (KP.top 56), body := FuncBody.stmts (L2.defBody (KP.top 56)), scope := L2.defScope (KP.top 56), globals := 0, closure := [], defaults := Value.none, kwdefaults := Value.none } },
  { cls := Value.type "code", data := Data.fields #[vs "tell_mean" 572, vs "tell_mean" 573, vs "/claim/cut.py" 574, vi 157 0, vi 2 0, vi 0 0, vi 0 0, vi 3 0, vr 270, Value.bool true, vi 181 0, vr 271, Value.none, vr 272, vr 273, vr 274, vi 577 0, vi 157 0, vs "/claim/cut.py" 578] },
  { cls := Value.type "function", data := fo "tell_mean" "tell_mean" (KP.top 56) (vs "kindshares.places" 395) (vr 275) },
  { cls := Value.type "tuple", data := Data.seq #[] },
  { cls := Value.none, data := Data.fields #[] },
  { cls := Value.type "tuple", data := Data.seq #[vs "field" 583, vs "numbers" 584, vs "worths" 585] },
  { cls := Value.type "tuple", data := Data.seq #[] },
  { cls := Value.none, data := Data.func { name := Str.ofString "tell_kinds", qualname := Str.ofString "tell_kinds", params := L2.defArgs (KP.top 57), body := FuncBody.stmts (L2.defBody (KP.top 57)), scope := L2.defScope (KP.top 57), globals := 0, closure := [], defaults := Value.none, kwdefaults := Value.none } },
  { cls := Value.type "code", data := Data.fields #[vs "tell_kinds" 580, vs "tell_kinds" 581, vs "/claim/cut.py" 582, vi 161 0, vi 2 0, vi 0 0, vi 0 0, vi 3 0, vr 277, Value.bool true, vi 181 0, vr 278, Value.none, vr 279, vr 280, vr 281, vi 586 0, vi 161 0, vs "/claim/cut.py" 587] },
  { cls := Value.type "function", data := fo "tell_kinds" "tell_kinds" (KP.top 57) (vs "kindshares.places" 395) (vr 282) },
  { cls := Value.type "tuple", data := Data.seq #[] },
  { cls := Value.none, data := Data.fields #[] },
  { cls := Value.type "tuple", data := Data.seq #[vs "field" 592, vs "numbers" 593] },
  { cls := Value.type "tuple", data := Data.seq #[] },
  { cls := Value.none, data := Data.func { name := Str.ofString "pass_generation", qualname := Str.ofString "pass_generation", params := L2.defArgs (KP.top 58), body := FuncBody.stmts (L2.defBody (KP.top 58)), scope := L2.defScope (KP.top 58), globals := 0, closure := [], defaults := Value.none, kwdefaults := Value.none } },
  { cls := Value.type "code", data := Data.fields #[vs "pass_generation" 589, vs "pass_generation" 590, vs "/claim/cut.py" 591, vi 166 0, vi 2 0, vi 0 0, vi 0 0, vi 3 0, vr 284, Value.bool true, vi 181 0, vr 285, Value.none, vr 286, vr 287, vr 288, vi 594 0, vi 166 0, vs "/claim/cut.py" 595] },
  { cls := Value.type "function", data := fo "pass_generation" "pass_generation" (KP.top 58) (vs "kindshares.places" 395) (vr 289) },
  { cls := Value.type "tuple", data := Data.seq #[] },
  { cls := Value.none, data := Data.fields #[] },
  { cls := Value.type "tuple", data := Data.seq #[vs "field" 600, vs "numbers" 601] },
  { cls := Value.type "tuple", data := Data.seq #[] },
  { cls := Value.none, data := Data.func { name := Str.ofString "tell_after", qualname := Str.ofString "tell_after", params := L2.defArgs (KP.top 59), body := FuncBody.stmts (L2.defBody (KP.top 59)), scope := L2.defScope (KP.top 59), globals := 0, closure := [], defaults := Value.none, kwdefaults := Value.none } },
  { cls := Value.type "code", data := Data.fields #[vs "tell_after" 597, vs "tell_after" 598, vs "/claim/cut.py" 599, vi 171 0, vi 2 0, vi 0 0, vi 0 0, vi 3 0, vr 291, Value.bool true, vi 181 0, vr 292, Value.none, vr 293, vr 294, vr 295, vi 602 0, vi 171 0, vs "/claim/cut.py" 603] },
  { cls := Value.type "function", data := fo "tell_after" "tell_after" (KP.top 59) (vs "kindshares.places" 395) (vr 296) },
  { cls := Value.type "tuple", data := Data.seq #[] },
  { cls := Value.none, data := Data.fields #[] },
  { cls := Value.type "tuple", data := Data.seq #[vs "field" 608, vs "numbers" 609] },
  { cls := Value.type "tuple", data := Data.seq #[] },
  { cls := Value.none, data := Data.func { name := Str.ofString "tell_way", qualname := Str.ofString "tell_way", params := L2.defArgs (KP.top 60), body := FuncBody.stmts (L2.defBody (KP.top 60)), scope := L2.defScope (KP.top 60), globals := 0, closure := [], defaults := Value.none, kwdefaults := Value.none } },
  { cls := Value.type "code", data := Data.fields #[vs "tell_way" 605, vs "tell_way" 606, vs "/claim/cut.py" 607, vi 175 0, vi 2 0, vi 0 0, vi 0 0, vi 3 0, vr 298, Value.bool true, vi 181 0, vr 299, Value.none, vr 300, vr 301, vr 302, vi 610 0, vi 175 0, vs "/claim/cut.py" 611] },
  { cls := Value.type "function", data := fo "tell_way" "tell_way" (KP.top 60) (vs "kindshares.places" 395) (vr 303) },
  { cls := Value.type "tuple", data := Data.seq #[] },
  { cls := Value.none, data := Data.fields #[] },
  { cls := Value.type "tuple", data := Data.seq #[vs "field" 616, vs "numbers" 617] },
  { cls := Value.type "tuple", data := Data.seq #[] },
  { cls := Value.none, data := Data.func { name := Str.ofString "tell_way_at", qualname := Str.ofString "tell_way_at", params := L2.defArgs (KP.top 61), body := FuncBody.stmts (L2.defBody (KP.top 61)), scope := L2.defScope (KP.top 61), globals := 0, closure := [], defaults := Value.none, kwdefaults := Value.none } },
  { cls := Value.type "code", data := Data.fields #[vs "tell_way_at" 613, vs "tell_way_at" 614, vs "/claim/cut.py" 615, vi 177 0, vi 2 0, vi 0 0, vi 0 0, vi 3 0, vr 305, Value.bool true, vi 181 0, vr 306, Value.none, vr 307, vr 308, vr 309, vi 618 0, vi 177 0, vs "/claim/cut.py" 619] },
  { cls := Value.type "function", data := fo "tell_way_at" "tell_way_at" (KP.top 61) (vs "kindshares.places" 395) (vr 310) },
  { cls := Value.type "tuple", data := Data.seq #[] },
  { cls := Value.none, data := Data.fields #[] },
  { cls := Value.type "tuple", data := Data.seq #[vs "field" 624, vs "numbers" 625] },
  { cls := Value.type "tuple", data := Data.seq #[] },
  { cls := Value.none, data := Data.func { name := Str.ofString "tell_enters", qualname := Str.ofString "tell_enters", params := L2.defArgs (KP.top 62), body := FuncBody.stmts (L2.defBody (KP.top 62)), scope := L2.defScope (KP.top 62), globals := 0, closure := [], defaults := Value.none, kwdefaults := Value.none } },
  { cls := Value.type "code", data := Data.fields #[vs "tell_enters" 621, vs "tell_enters" 622, vs "/claim/cut.py" 623, vi 181 0, vi 2 0, vi 0 0, vi 0 0, vi 3 0, vr 312, Value.bool true, vi 181 0, vr 313, Value.none, vr 314, vr 315, vr 316, vi 626 0, vi 181 0, vs "/claim/cut.py" 627] },
  { cls := Value.type "function", data := fo "tell_enters" "tell_enters" (KP.top 62) (vs "kindshares.places" 395) (vr 317) },
  { cls := Value.type "tuple", data := Data.seq #[] },
  { cls := Value.none, data := Data.fields #[] },
  { cls := Value.type "tuple", data := Data.seq #[vs "field" 632, vs "numbers" 633] },
  { cls := Value.type "tuple", data := Data.seq #[] },
  { cls := Value.none, data := Data.func { name := Str.ofString "tell_enters_other", qualname := Str.ofString "tell_enters_other", params := L2.defArgs (KP.top 63), body := FuncBody.stmts (L2.defBody (KP.top 63)), scope := L2.defScope (KP.top 63), globals := 0, closure := [], defaults := Value.none, kwdefaults := Value.none } },
  { cls := Value.type "code", data := Data.fields #[vs "tell_enters_other" 629, vs "tell_enters_other" 630, vs "/claim/cut.py" 631, vi 183 0, vi 2 0, vi 0 0, vi 0 0, vi 3 0, vr 319, Value.bool true, vi 181 0, vr 320, Value.none, vr 321, vr 322, vr 323, vi 634 0, vi 183 0, vs "/claim/cut.py" 635] },
  { cls := Value.type "function", data := fo "tell_enters_other" "tell_enters_other" (KP.top 63) (vs "kindshares.places" 395) (vr 324) },
  { cls := Value.type "tuple", data := Data.seq #[] },
  { cls := Value.none, data := Data.fields #[] },
  { cls := Value.type "tuple", data := Data.seq #[vs "field" 640, vs "numbers" 641] },
  { cls := Value.type "tuple", data := Data.seq #[] },
  { cls := Value.none, data := Data.func { name := Str.ofString "tell_both", qualname := Str.ofString "tell_both", params := L2.defArgs (KP.top 64), body := FuncBody.stmts (L2.defBody (KP.top 64)), scope := L2.defScope (KP.top 64), globals := 0, closure := [], defaults := Value.none, kwdefaults := Value.none } },
  { cls := Value.type "code", data := Data.fields #[vs "tell_both" 637, vs "tell_both" 638, vs "/claim/cut.py" 639, vi 185 0, vi 2 0, vi 0 0, vi 0 0, vi 3 0, vr 326, Value.bool true, vi 181 0, vr 327, Value.none, vr 328, vr 329, vr 330, vi 642 0, vi 185 0, vs "/claim/cut.py" 643] },
  { cls := Value.type "function", data := fo "tell_both" "tell_both" (KP.top 64) (vs "kindshares.places" 395) (vr 331) },
  { cls := Value.type "tuple", data := Data.seq #[] },
  { cls := Value.none, data := Data.fields #[] },
  { cls := Value.type "tuple", data := Data.seq #[vs "field" 648, vs "numbers" 649] },
  { cls := Value.type "tuple", data := Data.seq #[] },
  { cls := Value.none, data := Data.func { name := Str.ofString "tell_at_place", qualname := Str.ofString "tell_at_place", params := L2.defArgs (KP.top 65), body := FuncBody.stmts (L2.defBody (KP.top 65)), scope := L2.defScope (KP.top 65), globals := 0, closure := [], defaults := Value.none, kwdefaults := Value.none } },
  { cls := Value.type "code", data := Data.fields #[vs "tell_at_place" 645, vs "tell_at_place" 646, vs "/claim/cut.py" 647, vi 189 0, vi 2 0, vi 0 0, vi 0 0, vi 3 0, vr 333, Value.bool true, vi 181 0, vr 334, Value.none, vr 335, vr 336, vr 337, vi 650 0, vi 189 0, vs "/claim/cut.py" 651] },
  { cls := Value.type "function", data := fo "tell_at_place" "tell_at_place" (KP.top 65) (vs "kindshares.places" 395) (vr 338) },
  { cls := Value.type "tuple", data := Data.seq #[] },
  { cls := Value.none, data := Data.fields #[] },
  { cls := Value.type "tuple", data := Data.seq #[vs "field" 656, vs "numbers" 657] },
  { cls := Value.type "tuple", data := Data.seq #[] },
  { cls := Value.none, data := Data.func { name := Str.ofString "tell_more", qualname := Str.ofString "tell_more", params := L2.defArgs (KP.top 66), body := FuncBody.stmts (L2.defBody (KP.top 66)), scope := L2.defScope (KP.top 66), globals := 0, closure := [], defaults := Value.none, kwdefaults := Value.none } },
  { cls := Value.type "code", data := Data.fields #[vs "tell_more" 653, vs "tell_more" 654, vs "/claim/cut.py" 655, vi 193 0, vi 2 0, vi 0 0, vi 0 0, vi 3 0, vr 340, Value.bool true, vi 181 0, vr 341, Value.none, vr 342, vr 343, vr 344, vi 658 0, vi 193 0, vs "/claim/cut.py" 659] },
  { cls := Value.type "function", data := fo "tell_more" "tell_more" (KP.top 66) (vs "kindshares.places" 395) (vr 345) },
  { cls := Value.type "tuple", data := Data.seq #[] },
  { cls := Value.none, data := Data.fields #[] },
  { cls := Value.type "tuple", data := Data.seq #[vs "field" 664, vs "numbers" 665] },
  { cls := Value.type "tuple", data := Data.seq #[] },
  { cls := Value.none, data := Data.func { name := Str.ofString "tell_best", qualname := Str.ofString "tell_best", params := L2.defArgs (KP.top 67), body := FuncBody.stmts (L2.defBody (KP.top 67)), scope := L2.defScope (KP.top 67), globals := 0, closure := [], defaults := Value.none, kwdefaults := Value.none } },
  { cls := Value.type "code", data := Data.fields #[vs "tell_best" 661, vs "tell_best" 662, vs "/claim/cut.py" 663, vi 197 0, vi 2 0, vi 0 0, vi 0 0, vi 3 0, vr 347, Value.bool true, vi 181 0, vr 348, Value.none, vr 349, vr 350, vr 351, vi 666 0, vi 197 0, vs "/claim/cut.py" 667] },
  { cls := Value.type "function", data := fo "tell_best" "tell_best" (KP.top 67) (vs "kindshares.places" 395) (vr 352) },
  { cls := Value.type "tuple", data := Data.seq #[] },
  { cls := Value.none, data := Data.fields #[] },
  { cls := Value.none, data := Data.func { name := Str.ofString "tell_near", qualname := Str.ofString "tell_near", params := L2.defArgs (KP.top 68), body := FuncBody.stmts (L2.defBody (KP.top 68)), scope := L2.defScope (KP.top 68), globals := 0, closure := [], defaults := Value.none, kwdefaults := Value.none } },
  { cls := Value.type "code", data := Data.fields #[vs "tell_near" 669, vs "tell_near" 670, vs "/claim/cut.py" 671, vi 199 0, vi 2 0, vi 0 0, vi 0 0, vi 3 0, vr 354, Value.bool true, vi 181 0, vr 355, Value.none, Value.none, Value.none, vr 356, vi 672 0, vi 199 0, vs "/claim/cut.py" 673] },
  { cls := Value.type "function", data := fo "tell_near" "tell_near" (KP.top 68) (vs "kindshares.places" 395) (vr 357) },
  { cls := Value.type "tuple", data := Data.seq #[] },
  { cls := Value.none, data := Data.fields #[] },
  { cls := Value.type "tuple", data := Data.seq #[vs "field" 678, vs "numbers" 679] },
  { cls := Value.type "tuple", data := Data.seq #[] },
  { cls := Value.none, data := Data.func { name := Str.ofString "tell_place", qualname := Str.ofString "tell_place", params := L2.defArgs (KP.top 69), body := FuncBody.stmts (L2.defBody (KP.top 69)), scope := L2.defScope (KP.top 69), globals := 0, closure := [], defaults := Value.none, kwdefaults := Value.none } },
  { cls := Value.type "code", data := Data.fields #[vs "tell_place" 675, vs "tell_place" 676, vs "/claim/cut.py" 677, vi 205 0, vi 2 0, vi 0 0, vi 0 0, vi 3 0, vr 359, Value.bool true, vi 181 0, vr 360, Value.none, vr 361, vr 362, vr 363, vi 680 0, vi 205 0, vs "/claim/cut.py" 681] },
  { cls := Value.type "function", data := fo "tell_place" "tell_place" (KP.top 69) (vs "kindshares.places" 395) (vr 364) },
  { cls := Value.type "tuple", data := Data.seq #[] },
  { cls := Value.none, data := Data.fields #[] },
  { cls := Value.type "tuple", data := Data.seq #[vs "field" 686, vs "numbers" 687] },
  { cls := Value.type "tuple", data := Data.seq #[] },
  { cls := Value.none, data := Data.func { name := Str.ofString "tell_state", qualname := Str.ofString "tell_state", params := L2.defArgs (KP.top 70), body := FuncBody.stmts (L2.defBody (KP.top 70)), scope := L2.defScope (KP.top 70), globals := 0, closure := [], defaults := Value.none, kwdefaults := Value.none } },
  { cls := Value.type "code", data := Data.fields #[vs "tell_state" 683, vs "tell_state" 684, vs "/claim/cut.py" 685, vi 209 0, vi 2 0, vi 0 0, vi 0 0, vi 3 0, vr 366, Value.bool true, vi 181 0, vr 367, Value.none, vr 368, vr 369, vr 370, vi 688 0, vi 209 0, vs "/claim/cut.py" 689] },
  { cls := Value.type "function", data := fo "tell_state" "tell_state" (KP.top 70) (vs "kindshares.places" 395) (vr 371) }]
noncomputable def LC (P : Params) : List Obj := [
  { cls := Value.type "dict", data := Data.dict #[{ hash := 0, key := vi 0 691, val := vr 241 }, { hash := 1, key := vi 1 693, val := vr 248 }, { hash := 2, key := vi 2 695, val := vr 255 }, { hash := 3, key := vi 3 697, val := vr 262 }, { hash := 4, key := vi 4 699, val := vr 269 }, { hash := 5, key := vi 5 701, val := vr 276 }, { hash := 6, key := vi 6 703, val := vr 283 }, { hash := 7, key := vi 7 705, val := vr 290 }, { hash := 8, key := vi 8 707, val := vr 297 }, { hash := 9, key := vi 9 709, val := vr 304 }, { hash := 10, key := vi 10 711, val := vr 311 }, { hash := 11, key := vi 11 713, val := vr 318 }, { hash := 12, key := vi 12 715, val := vr 325 }, { hash := 13, key := vi 13 717, val := vr 332 }, { hash := 14, key := vi 14 719, val := vr 339 }, { hash := 15, key := vi 15 721, val := vr 346 }, { hash := 16, key := vi 16 723, val := vr 353 }, { hash := 17, key := vi 17 725, val := vr 358 }, { hash := 18, key := vi 18 726, val := vr 365 }, { hash := 19, key := vi 19 727, val := vr 372 }] 20 },
  { cls := Value.type "dict", data := Data.dict #[{ hash := 17, key := vi 17 725, val := vr 358 }, { hash := 18, key := vi 18 726, val := vr 365 }, { hash := 19, key := vi 19 727, val := vr 372 }] 3 },
  { cls := Value.type "tuple", data := Data.seq #[] },
  { cls := Value.none, data := Data.fields #[] },
  { cls := Value.type "tuple", data := Data.seq #[vs "calls" 735, vs "at" 736] },
  { cls := Value.type "tuple", data := Data.seq #[] },
  { cls := Value.none, data := Data.func { name := Str.ofString "numbers_begin", qualname := Str.ofString "numbers_begin", params := L2.defArgs (KP.top 72), body := FuncBody.stmts (L2.defBody (KP.top 72)), scope := L2.defScope (KP.top 72), globals := 0, closure := [], defaults := Value.none, kwdefaults := Value.none } },
  { cls := Value.type "code", data := Data.fields #[vs "numbers_begin" 732, vs "numbers_begin" 733, vs "/claim/cut.py" 734, vi 212 0, vi 2 0, vi 0 0, vi 0 0, vi 3 0, vr 375, Value.bool true, vi 181 0, vr 376, Value.none, vr 377, vr 378, vr 379, vi 737 0, vi 212 0, vs "/claim/cut.py" 738] },
  { cls := Value.type "function", data := fo "numbers_begin" "numbers_begin" (KP.top 72) (vs "kindshares.places" 395) (vr 380) },
  { cls := Value.type "tuple", data := Data.seq #[] },
  { cls := Value.none, data := Data.fields #[] },
  { cls := Value.type "tuple", data := Data.seq #[vs "calls" 743, vs "at" 744] },
  { cls := Value.type "tuple", data := Data.seq #[] },
  { cls := Value.none, data := Data.func { name := Str.ofString "numbers_end", qualname := Str.ofString "numbers_end", params := L2.defArgs (KP.top 73), body := FuncBody.stmts (L2.defBody (KP.top 73)), scope := L2.defScope (KP.top 73), globals := 0, closure := [], defaults := Value.none, kwdefaults := Value.none } },
  { cls := Value.type "code", data := Data.fields #[vs "numbers_end" 740, vs "numbers_end" 741, vs "/claim/cut.py" 742, vi 216 0, vi 2 0, vi 0 0, vi 0 0, vi 3 0, vr 382, Value.bool true, vi 181 0, vr 383, Value.none, vr 384, vr 385, vr 386, vi 745 0, vi 216 0, vs "/claim/cut.py" 746] },
  { cls := Value.type "function", data := fo "numbers_end" "numbers_end" (KP.top 73) (vs "kindshares.places" 395) (vr 387) },
  { cls := Value.type "tuple", data := Data.seq #[] },
  { cls := Value.none, data := Data.fields #[] },
  { cls := Value.type "tuple", data := Data.seq #[vs "field" 751, vs "call" 752, vs "numbers" 753] },
  { cls := Value.type "tuple", data := Data.seq #[] },
  { cls := Value.none, data := Data.func { name := Str.ofString "answer", qualname := Str.ofString "answer", params := L2.defArgs (KP.top 74), body := FuncBody.stmts (L2.defBody (KP.top 74)), scope := L2.defScope (KP.top 74), globals := 0, closure := [], defaults := Value.none, kwdefaults := Value.none } },
  { cls := Value.type "code", data := Data.fields #[vs "answer" 748, vs "answer" 749, vs "/claim/cut.py" 750, vi 220 0, vi 3 0, vi 0 0, vi 0 0, vi 3 0, vr 389, Value.bool true, vi 181 0, vr 390, Value.none, vr 391, vr 392, vr 393, vi 754 0, vi 220 0, vs "/claim/cut.py" 755] },
  { cls := Value.type "function", data := fo "answer" "answer" (KP.top 74) (vs "kindshares.places" 395) (vr 394) },
  { cls := Value.type "tuple", data := Data.seq #[] },
  { cls := Value.none, data := Data.fields #[] },
  { cls := Value.type "tuple", data := Data.seq #[vs "calls" 760, vs "field" 761, vs "told" 762, vs "at" 763, vs "end" 764, vs "answered" 765] },
  { cls := Value.type "tuple", data := Data.seq #[] },
  { cls := Value.none, data := Data.func { name := Str.ofString "answers", qualname := Str.ofString "answers", params := L2.defArgs (KP.top 75), body := FuncBody.stmts (L2.defBody (KP.top 75)), scope := L2.defScope (KP.top 75), globals := 0, closure := [], defaults := Value.none, kwdefaults := Value.none } },
  { cls := Value.type "code", data := Data.fields #[vs "answers" 757, vs "answers" 758, vs "/claim/cut.py" 759, vi 224 0, vi 1 0, vi 0 0, vi 0 0, vi 3 0, vr 396, Value.bool true, vi 181 0, vr 397, Value.none, vr 398, vr 399, vr 400, vi 766 0, vi 224 0, vs "/claim/cut.py" 767] },
  { cls := Value.type "function", data := fo "answers" "answers" (KP.top 75) (vs "kindshares.places" 395) (vr 401) }]
noncomputable def front (P : Params) (g m : Obj) : List Obj := [boot_o_0 P, boot_o_1 P, boot_o_2 P, g, boot_o_4 P, boot_o_5 P, boot_o_6 P, boot_o_7 P, boot_o_8 P, boot_o_9 P, boot_o_10 P,
  { cls := Value.type "tuple", data := Data.seq #[] }, m,
  { cls := Value.type "code", data := Data.fields #[vs "<module>" 182, vs "<module>" 183, vs "/claim/cut.py" 184, vi 1 0, vi 0 0, vi 0 0, vi 0 0, vi 0 0, vr 11, Value.bool false, vi 181 0, vr 12, Value.none, Value.none, Value.none, Value.none, vi 185 0, vi 1 0, vs "/claim/cut.py" 186] },
  { cls := Value.type "frame", slots := #[some (vr 13), some (vr 3), some (vr 3), none, some (vs "__main__" 164), none, some (vr 0)] }]
noncomputable def hS (P : Params) : Heap := ⟨⟨front P (boot_o_3 P) ({ cls := Value.none, data := Data.fields #[] })⟩, {}⟩
noncomputable def hA (P : Params) : Heap := ⟨⟨front P ({ cls := Value.type "dict", data := Data.dict ((gl P).take 52).toArray 52 }) ({ cls := Value.none, data := Data.fields #[vi 3 0, vi 0 0, vr 20, vi 9 0, vi 0 0, vr 27, vi 12 0, vi 0 0, vr 34, vi 14 0, vi 0 0, vr 41, vi 16 0, vi 0 0, vr 48, vi 18 0, vi 0 0, vr 55, vi 20 0, vi 0 0, vr 62, vi 22 0, vi 0 0, vr 69, vi 24 0, vi 0 0, vr 76, vi 26 0, vi 0 0, vr 83, vi 28 0, vi 0 0, vr 90, vi 31 0, vi 0 0, vr 97, vi 38 0, vi 0 0, vr 102, vi 40 0, vi 0 0, vr 109, vi 44 0, vi 0 0, vr 116, vi 51 0, vi 0 0, vr 123, vi 53 0, vi 0 0, vr 128, vi 55 0, vi 0 0, vr 133, vi 57 0, vi 0 0, vr 140, vi 59 0, vi 0 0, vr 147, vi 61 0, vi 0 0, vr 152, vi 64 0, vi 0 0, vr 159, vi 69 0, vi 0 0, vr 166, vi 77 0, vi 0 0, vr 173, vi 98 0, vi 0 0, vr 181] }) ++ LA P⟩, {}⟩
noncomputable def hB (P : Params) : Heap := ⟨⟨front P ({ cls := Value.type "dict", data := Data.dict ((gl P).take 78).toArray 78 }) ({ cls := Value.none, data := Data.fields #[vi 3 0, vi 0 0, vr 20, vi 9 0, vi 0 0, vr 27, vi 12 0, vi 0 0, vr 34, vi 14 0, vi 0 0, vr 41, vi 16 0, vi 0 0, vr 48, vi 18 0, vi 0 0, vr 55, vi 20 0, vi 0 0, vr 62, vi 22 0, vi 0 0, vr 69, vi 24 0, vi 0 0, vr 76, vi 26 0, vi 0 0, vr 83, vi 28 0, vi 0 0, vr 90, vi 31 0, vi 0 0, vr 97, vi 38 0, vi 0 0, vr 102, vi 40 0, vi 0 0, vr 109, vi 44 0, vi 0 0, vr 116, vi 51 0, vi 0 0, vr 123, vi 53 0, vi 0 0, vr 128, vi 55 0, vi 0 0, vr 133, vi 57 0, vi 0 0, vr 140, vi 59 0, vi 0 0, vr 147, vi 61 0, vi 0 0, vr 152, vi 64 0, vi 0 0, vr 159, vi 69 0, vi 0 0, vr 166, vi 77 0, vi 0 0, vr 173, vi 98 0, vi 0 0, vr 181, vi 104 0, vi 0 0, vr 202, vi 106 0, vi 0 0, vr 209, vi 108 0, vi 0 0, vr 216, vi 110 0, vi 0 0, vr 223, vi 112 0, vi 0 0, vr 230, vi 114 0, vi 0 0, vr 235, vi 116 0, vi 0 0, vr 240, vi 127 0, vi 0 0, vr 247, vi 140 0, vi 0 0, vr 254, vi 150 0, vi 0 0, vr 261, vi 155 0, vi 0 0, vr 268, vi 157 0, vi 0 0, vr 275, vi 161 0, vi 0 0, vr 282, vi 166 0, vi 0 0, vr 289, vi 171 0, vi 0 0, vr 296, vi 175 0, vi 0 0, vr 303, vi 177 0, vi 0 0, vr 310, vi 181 0, vi 0 0, vr 317, vi 183 0, vi 0 0, vr 324, vi 185 0, vi 0 0, vr 331, vi 189 0, vi 0 0, vr 338, vi 193 0, vi 0 0, vr 345, vi 197 0, vi 0 0, vr 352, vi 199 0, vi 0 0, vr 357, vi 205 0, vi 0 0, vr 364, vi 209 0, vi 0 0, vr 371] }) ++ (LA P ++ LB P)⟩, {}⟩
noncomputable def hF (P : Params) : Heap := ⟨⟨front P ({ cls := Value.type "dict", data := Data.dict ((gl P).take 83).toArray 83 }) ({ cls := Value.none, data := Data.fields #[vi 3 0, vi 0 0, vr 20, vi 9 0, vi 0 0, vr 27, vi 12 0, vi 0 0, vr 34, vi 14 0, vi 0 0, vr 41, vi 16 0, vi 0 0, vr 48, vi 18 0, vi 0 0, vr 55, vi 20 0, vi 0 0, vr 62, vi 22 0, vi 0 0, vr 69, vi 24 0, vi 0 0, vr 76, vi 26 0, vi 0 0, vr 83, vi 28 0, vi 0 0, vr 90, vi 31 0, vi 0 0, vr 97, vi 38 0, vi 0 0, vr 102, vi 40 0, vi 0 0, vr 109, vi 44 0, vi 0 0, vr 116, vi 51 0, vi 0 0, vr 123, vi 53 0, vi 0 0, vr 128, vi 55 0, vi 0 0, vr 133, vi 57 0, vi 0 0, vr 140, vi 59 0, vi 0 0, vr 147, vi 61 0, vi 0 0, vr 152, vi 64 0, vi 0 0, vr 159, vi 69 0, vi 0 0, vr 166, vi 77 0, vi 0 0, vr 173, vi 98 0, vi 0 0, vr 181, vi 104 0, vi 0 0, vr 202, vi 106 0, vi 0 0, vr 209, vi 108 0, vi 0 0, vr 216, vi 110 0, vi 0 0, vr 223, vi 112 0, vi 0 0, vr 230, vi 114 0, vi 0 0, vr 235, vi 116 0, vi 0 0, vr 240, vi 127 0, vi 0 0, vr 247, vi 140 0, vi 0 0, vr 254, vi 150 0, vi 0 0, vr 261, vi 155 0, vi 0 0, vr 268, vi 157 0, vi 0 0, vr 275, vi 161 0, vi 0 0, vr 282, vi 166 0, vi 0 0, vr 289, vi 171 0, vi 0 0, vr 296, vi 175 0, vi 0 0, vr 303, vi 177 0, vi 0 0, vr 310, vi 181 0, vi 0 0, vr 317, vi 183 0, vi 0 0, vr 324, vi 185 0, vi 0 0, vr 331, vi 189 0, vi 0 0, vr 338, vi 193 0, vi 0 0, vr 345, vi 197 0, vi 0 0, vr 352, vi 199 0, vi 0 0, vr 357, vi 205 0, vi 0 0, vr 364, vi 209 0, vi 0 0, vr 371, vi 212 0, vi 0 0, vr 380, vi 216 0, vi 0 0, vr 387, vi 220 0, vi 0 0, vr 394, vi 224 0, vi 0 0, vr 401] }) ++ (LA P ++ (LB P ++ LC P))⟩, {}⟩
abbrev sh (h : Heap) (k : Nat) (os : OsState) : Shared := ⟨h, ⟨[]⟩, {}, k, os⟩
noncomputable def ev : Env := { scope := pw.main.scope, locals := mainNs, globals := mainNs, cells := [], code := .ref 13, frame := some 14 }
noncomputable abbrev cd : Code := .body (behindTheImports pw) ev
abbrev q0 : Pos := ⟨0, 0, 0, 0⟩
abbrev pA : Pos := { line := 98, col := 0, endLine := 103, endCol := 27 }
abbrev pB : Pos := { line := 209, col := 0, endLine := 210, endCol := 47 }
abbrev pC : Pos := { line := 224, col := 0, endLine := 234, endCol := 15 }
noncomputable def sA : List Stmt := (behindTheImports pw).take 45
noncomputable def sB : List Stmt := ((behindTheImports pw).drop 45).take 26
noncomputable def sC : List Stmt := (behindTheImports pw).drop 71
theorem cut_ : behindTheImports pw = sA ++ (sB ++ (sC ++ [])) := by kernel_rfl
theorem r_pre (w : World) (os : OsState) : topGo treeTable pw w 11 (some (.ref 6)) 12 ⟨boot_heap w.params, ⟨[]⟩, boot_drawn, boot_toks, os⟩ (topStub pw) = some (sh (hS w.params) 187 os, ⟨denote treeTable cd, cd, q0, [topFrame q0]⟩) := by kernel_rfl
theorem r_blk (w : World) (os : OsState) : segRun treeTable pw w 11 (some (.ref 6)) 1 1 (sh (hS w.params) 187 os) (blockOf (behindTheImports pw) ev cd q0 [topFrame q0]) = some (.next, sh (hS w.params) 187 os, cd, q0) := by kernel_rfl
theorem r_A (w : World) (os : OsState) : segRun treeTable pw w 11 (some (.ref 6)) 1 1300 (sh (hS w.params) 187 os) (piecesOf sA ev cd q0 [topFrame q0]) = some (.next, sh (hA w.params) 485 os, cd, pA) := by kernel_rfl
theorem r_B (w : World) (os : OsState) : segRun treeTable pw w 11 (some (.ref 6)) 1 900 (sh (hA w.params) 485 os) (piecesOf sB ev cd pA [topFrame q0]) = some (.next, sh (hB w.params) 691 os, cd, pB) := by kernel_rfl
theorem r_C0 (w : World) (os : OsState) : segRun treeTable pw (w.withFollow asked false) 11 (some (.ref 6)) 1 600 (sh (hB (w.withFollow asked false).params) 691 os) (piecesOf sC ev cd pB [topFrame q0]) = some (.next, sh (hF (w.withFollow asked false).params) 769 os, cd, pC) := by kernel_rfl
theorem r_C1 (w : World) (os : OsState) : segRun treeTable pw (w.withFollow asked true) 11 (some (.ref 6)) 1 600 (sh (hB (w.withFollow asked true).params) 691 os) (piecesOf sC ev cd pB [topFrame q0]) = some (.next, sh (hF (w.withFollow asked true).params) 769 os, cd, pC) := by kernel_rfl
theorem r_C (w : World) (os : OsState) : segRun treeTable pw w 11 (some (.ref 6)) 1 600 (sh (hB w.params) 691 os) (piecesOf sC ev cd pB [topFrame q0]) = some (.next, sh (hF w.params) 769 os, cd, pC) :=
  byRow2 asked (P := fun w => segRun treeTable pw w 11 (some (.ref 6)) 1 600 (sh (hB w.params) 691 os) (piecesOf sC ev cd pB [topFrame q0]) = some (.next, sh (hF w.params) 769 os, cd, pC)) (fun w => r_C0 w os) (fun w => r_C1 w os) w
theorem r_end (w : World) (os : OsState) : topRun treeTable pw w 11 (some (.ref 6)) 2 (sh (hF w.params) 769 os) ⟨doneF .next, cd, pC, [topFrame q0]⟩ = some (sh (hF w.params) 769 os) := by kernel_rfl
theorem r_run (w : World) (os : OsState) : topRun treeTable pw w 11 (some (.ref 6)) (12 + (1 + (1300 + (900 + (600 + 2))))) ⟨boot_heap w.params, ⟨[]⟩, boot_drawn, boot_toks, os⟩ (topStub pw) = some (sh (hF w.params) 769 os) := by
  refine go_top (r_pre w os) (piece_block (r_blk w os) ?_)
  exact (congrArg (fun l => topRun treeTable pw w 11 (some (.ref 6)) (1300 + (900 + (600 + 2))) (sh (hS w.params) 187 os) (restOf l ev cd q0 [topFrame q0])) cut_).trans (piece_app (r_A w os) (piece_app (r_B w os) (piece_app (r_C w os) (piece_nil (r_end w os)))))
theorem r_open : ∀ w : World, (fencedOpening treeTable pw w 4896).map (fun s => (s.heap, s.gens, s.drawn, s.toks)) = some (boot_heap w.params, ⟨[]⟩, boot_drawn, boot_toks) :=
  boot_open (by kernel_rfl) rfl (fun s => by kernel_rfl)
theorem r_size (w : World) : ((boot_heap w.params).isNs mainGlobals && (⟨[]⟩ : Array GenState).size == 0, (boot_heap w.params).objs.size, (boot_heap w.params).nsMap mainGlobals "__annotations__") = (true, 11, some (Value.ref 6)) := by kernel_rfl
theorem r_looks (w : World) : (fun os => ((staticsOk (importedModules pw.main.body) (boot_heap w.params) (hF w.params) && namesBound pw (hF w.params) && gensDone (sh (hF w.params) 769 os) && laidKept (boot_heap w.params) (hF w.params)),
    openSeen V ["ANSWERED_BY"] (importedModules pw.main.body) (fun s => xlAt V [] s && recOk [] s) true (sh (hF w.params) 769 os), Hook.obs Hk (sh (hF w.params) 769 os))) = fun _ => (true, openGood V ["ANSWERED_BY"], Hook.val Hk w) := by kernel_rfl
theorem left : LeftO pw V ["ANSWERED_BY"] (fun s => xlAt V [] s && recOk [] s) (Hook.obs Hk) (Hook.val Hk) 4896 :=
  LeftO.of_pieces (H₀ := boot_heap) (H₁ := hF) r_open r_size r_run (by decide) r_looks
end KH

end

section
set_option Elab.async false
set_option linter.all false
set_option maxRecDepth 100000
set_option maxHeartbeats 2000000
namespace L2
open PySem PySem.Spec PyProof.Rows
section
variable {K : PySem.W.Frag} {h : Heap} {mg : Str → Option Value} {Goal : Prop}
/-- the def that is asked -/
theorem with_main {x : Str} {st : Stmt} {ps : List Str} {f fa : Addr} {oc : Value} {od an : Option Addr} {osl : Array (Option Value)} {kV doc pm cdv ct : Value} {R : FuncData → Prop} (X : K.In h) (G : h.Ns mainGlobals mg) (hfa : mg x = some (.ref fa)) (a : PySem.W.nsIn K mainGlobals x = some (some (.ref f)))
    (l : K.lookup f = some ⟨oc, od, .func (PySem.W.fnOf x x (defArgs st) (defBody st) (defScope st) .none kV doc pm an cdv ct), osl⟩) (c : PySem.W.codeIn K cdv x = true) (k : PySem.W.keepIn K (.ref f) = true)
    (b : ∀ (kV doc pm : Value) (an : Option Addr) (cdv ct : Value) (us : List Value), us.length = ps.length → bindArgs (PySem.W.fnOf x x (defArgs st) (defBody st) (defScope st) .none kV doc pm an cdv ct) ⟨us, []⟩ = pure (ps.zip us))
    (rest : ∀ fd : FuncData, Fun K x x st fa fd → R fd) : ∃ fd : FuncData, (∀ (s : Shared) (us : List Value), us.length = ps.length → BindsTo s fd ⟨us, []⟩ (ps.zip us)) ∧ R fd := by
  have e := hfa.symm.trans (PySem.W.mg_of X G a)
  cases e
  exact ⟨_, fun s us hu => .of_eq (b _ _ _ _ _ _ us hu), rest _ (fun_mk l c k)⟩
theorem fnAt_of {P : Program} {w : World} {base : Heap} {k : Nat} {x : Str} {ps : List Str} {sp : Sp} {f : Addr} (c : CalOk P w K mg base k x ps sp) (hm : mg x = some (.ref f)) (hk : k ≤ 9) : FnAt P w K mg base 9 f sp := by
  obtain ⟨f', fd, F, h1, h2, h3⟩ := c.mono hk
  have e := h1.symm.trans hm
  cases e
  exact ⟨fd, ps, F, h2, h3⟩
end
end L2
namespace KP
open PySem PySem.Spec PyProof.Rows L2
open KM (LandOk)
section
variable {K : PySem.W.Frag} {h : Heap} {mg : Str → Option Value} {Goal : Prop}
/-- the class and its __init__ -/
theorem with_cls {C f : Addr} {oc : Value} {od an : Option Addr} {osl : Array (Option Value)} {kV doc pm cdv ct : Value} (X : K.In h) (G : h.Ns mainGlobals mg) (aC : PySem.W.nsIn K mainGlobals "Field" = some (some (.ref C)))
    (pg : PySem.W.plainGet K C Str.empty = true) (hd : PySem.W.hasDictIn K C = true) (po : PySem.W.plainOver K C = true) (sa : PySem.W.findIn K (.ref C) "__setattr__" = some (some (.builtin "object.__setattr__")))
    (n1 : PySem.W.findIn K (.ref C) "seeds" = some none) (n2 : PySem.W.findIn K (.ref C) "worths" = some none) (n3 : PySem.W.findIn K (.ref C) "share" = some none) (mk : PySem.W.makesIn K C = true) (kc : PySem.W.keepIn K (.ref C) = true)
    (a1 : PySem.W.findIn K (.ref C) "__init__" = some (some (.ref f))) (i1 : PySem.W.isFn K (.ref f) = true) (l1 : K.lookup f = some ⟨oc, od, .func (PySem.W.fnOf "__init__" "Field.__init__" (defArgs s_init) (defBody s_init) (defScope s_init) .none kV doc pm an cdv ct), osl⟩)
    (c1 : PySem.W.codeIn K cdv "Field.__init__" = true) (k1 : PySem.W.keepIn K (.ref f) = true)
    (rest : FC K C → Mk K C f → (∃ fd, Fun K "__init__" "Field.__init__" s_init f fd ∧ Binds K fd ["self"] []) → mg "Field" = some (.ref C) → Goal) : Goal :=
  rest ⟨⟨pg, hd, po, sa⟩, n1, n2, n3⟩ ⟨mk, a1, i1, kc⟩ ⟨_, fun_mk l1 c1 k1, (fun_mk (st := s_init) l1 c1 k1).binds fun _ _ _ _ _ _ us hl => match us, hl with | [_], _ => rfl⟩ (PySem.W.mg_of X G aC)
end
theorem all_ok {P : Program} {w : World} {K : PySem.W.Frag} {mg : Str → Option Value} {base : Heap} {C fi fA hm d : Addr} {fdA : FuncData} {kvs : List (Int × Addr)} {a0 a1 a2 a3 a4 a5 a6 a7 a8 a9 a10 a11 a12 a13 a14 a15 a16 a17 a18 a19 : Addr}

    (i_ALL_SEEDS : GI mg "ALL_SEEDS" 100)
    (i_NO_SUCH_PLACE : GI mg "NO_SUCH_PLACE" (-2))
    (i_NOT_STARTED : GI mg "NOT_STARTED" (-11))
    (i_TOO_FEW_SEEDS : GI mg "TOO_FEW_SEEDS" (-12))
    (i_NOT_AS_TOLD : GI mg "NOT_AS_TOLD" (-22))
    (i_TOO_GREAT : GI mg "TOO_GREAT" (-28))
    (i_MOST_PLACES : GI mg "MOST_PLACES" 3)
    (i_NUMBERS_OF_A_PLACE : GI mg "NUMBERS_OF_A_PLACE" 4)
    (i_LEAST_WORTH : GI mg "LEAST_WORTH" 1)
    (i_GREATEST_WORTH : GI mg "GREATEST_WORTH" 9)
    (i_GREATEST_LOWER_TOLD : GI mg "GREATEST_LOWER_TOLD" 100)
    (i_GREATEST_LOWER_AT_MORE : GI mg "GREATEST_LOWER_AT_MORE" 10)
    (i_GREATEST_LOWER_AT_NEXT : GI mg "GREATEST_LOWER_AT_NEXT" 100000)
    (i_MOST_GENERATIONS : GI mg "MOST_GENERATIONS" 2)
    (i_LEAST_PARTS : GI mg "LEAST_PARTS" 2)
    (i_MOST_PARTS : GI mg "MOST_PARTS" 30)
    (i_START : GI mg "START" 0)
    (n_len : mg "len" = none)
    (n_min : mg "min" = none)
    (n_max : mg "max" = none)
    (n_sum : mg "sum" = none)
    (n_all : mg "all" = none)
    (n_list : mg "list" = none)
    (n_tuple : mg "tuple" = none)
    (n_range : mg "range" = none)
    (n_zip : mg "zip" = none)
    (f_common_divisor : FunIn K mg "common_divisor" s_common_divisor ["one", "other"])
    (f_lowest : FunIn K mg "lowest" s_lowest ["upper", "lower"])
    (f_lack : FunIn K mg "lack" s_lack ["share"])
    (f_first_part : FunIn K mg "first_part" s_first_part ["share", "worths"])
    (f_second_part : FunIn K mg "second_part" s_second_part ["share", "worths"])
    (f_mean_part : FunIn K mg "mean_part" s_mean_part ["share", "worths"])
    (f_first_worth : FunIn K mg "first_worth" s_first_worth ["share", "worths"])
    (f_second_worth : FunIn K mg "second_worth" s_second_worth ["share", "worths"])
    (f_mean_worth : FunIn K mg "mean_worth" s_mean_worth ["share", "worths"])
    (f_chosen_parts : FunIn K mg "chosen_parts" s_chosen_parts ["share", "worths"])
    (f_chosen_share : FunIn K mg "chosen_share" s_chosen_share ["share", "worths"])
    (f_over_all_places : FunIn K mg "over_all_places" s_over_all_places ["seeds", "parts"])
    (f_share_next : FunIn K mg "share_next" s_share_next ["share", "seeds", "worths"])
    (f_share_after : FunIn K mg "share_after" s_share_after ["share", "seeds", "worths", "generations"])
    (f_direction : FunIn K mg "direction" s_direction ["before", "later"])
    (f_share_way : FunIn K mg "share_way" s_share_way ["share", "seeds", "worths"])
    (f_first_growth : FunIn K mg "first_growth" s_first_growth ["seeds", "worths"])
    (f_second_growth : FunIn K mg "second_growth" s_second_growth ["seeds", "worths"])
    (f_is_above_one : FunIn K mg "is_above_one" s_is_above_one ["fraction"])
    (f_are_both_kept : FunIn K mg "are_both_kept" s_are_both_kept ["seeds", "worths"])
    (f_best_place : FunIn K mg "best_place" s_best_place ["share", "worths"])
    (f_power : FunIn K mg "power" s_power ["number", "times"])
    (f_product_of_means : FunIn K mg "product_of_means" s_product_of_means ["share", "seeds", "worths"])
    (f_product_way : FunIn K mg "product_way" s_product_way ["share", "seeds", "worths"])
    (f_is_place : FunIn K mg "is_place" s_is_place ["field", "place"])
    (f_are_worths : FunIn K mg "are_worths" s_are_worths ["numbers"])
    (f_is_share : FunIn K mg "is_share" s_is_share ["upper", "lower"])
    (f_are_whole_places : FunIn K mg "are_whole_places" s_are_whole_places ["row"])
    (f_seeds_of : FunIn K mg "seeds_of" s_seeds_of ["row"])
    (f_worths_of : FunIn K mg "worths_of" s_worths_of ["row"])
    (f_start : FunIn K mg "start" s_start ["field", "row"])
    (f_move_seeds : FunIn K mg "move_seeds" s_move_seeds ["field", "numbers"])
    (f_set_worths : FunIn K mg "set_worths" s_set_worths ["field", "numbers"])
    (f_set_share : FunIn K mg "set_share" s_set_share ["field", "numbers"])
    (f_tell_share : FunIn K mg "tell_share" s_tell_share ["field", "numbers"])
    (f_tell_mean : FunIn K mg "tell_mean" s_tell_mean ["field", "numbers"])
    (f_tell_kinds : FunIn K mg "tell_kinds" s_tell_kinds ["field", "numbers"])
    (f_pass_generation : FunIn K mg "pass_generation" s_pass_generation ["field", "numbers"])
    (f_tell_after : FunIn K mg "tell_after" s_tell_after ["field", "numbers"])
    (f_tell_way : FunIn K mg "tell_way" s_tell_way ["field", "numbers"])
    (f_tell_way_at : FunIn K mg "tell_way_at" s_tell_way_at ["field", "numbers"])
    (f_tell_enters : FunIn K mg "tell_enters" s_tell_enters ["field", "numbers"])
    (f_tell_enters_other : FunIn K mg "tell_enters_other" s_tell_enters_other ["field", "numbers"])
    (f_tell_both : FunIn K mg "tell_both" s_tell_both ["field", "numbers"])
    (f_tell_at_place : FunIn K mg "tell_at_place" s_tell_at_place ["field", "numbers"])
    (f_tell_more : FunIn K mg "tell_more" s_tell_more ["field", "numbers"])
    (f_tell_best : FunIn K mg "tell_best" s_tell_best ["field", "numbers"])
    (f_tell_near : FunIn K mg "tell_near" s_tell_near ["field", "numbers"])
    (f_tell_place : FunIn K mg "tell_place" s_tell_place ["field", "numbers"])
    (f_tell_state : FunIn K mg "tell_state" s_tell_state ["field", "numbers"])
    (f_numbers_begin : FunIn K mg "numbers_begin" s_numbers_begin ["calls", "at"])
    (f_numbers_end : FunIn K mg "numbers_end" s_numbers_end ["calls", "at"])
    (f_answer : FunIn K mg "answer" s_answer ["field", "call", "numbers"])
    (gh : mg "HOW_MANY_NUMBERS" = some (.ref hm)) (ht : ∀ H, SqT K H hm (KM.cnt.map fun n : Nat => V.int (n : Int))) (gd : mg "ANSWERED_BY" = some (.ref d)) (tab : FnTab K d kvs)
    (m_start : mg "start" = some (.ref a0)) (t0 : kvs.lookup ((0 : Nat) : Int) = some a0)
    (m_move_seeds : mg "move_seeds" = some (.ref a1)) (t1 : kvs.lookup ((1 : Nat) : Int) = some a1)
    (m_set_worths : mg "set_worths" = some (.ref a2)) (t2 : kvs.lookup ((2 : Nat) : Int) = some a2)
    (m_set_share : mg "set_share" = some (.ref a3)) (t3 : kvs.lookup ((3 : Nat) : Int) = some a3)
    (m_tell_share : mg "tell_share" = some (.ref a4)) (t4 : kvs.lookup ((4 : Nat) : Int) = some a4)
    (m_tell_mean : mg "tell_mean" = some (.ref a5)) (t5 : kvs.lookup ((5 : Nat) : Int) = some a5)
    (m_tell_kinds : mg "tell_kinds" = some (.ref a6)) (t6 : kvs.lookup ((6 : Nat) : Int) = some a6)
    (m_pass_generation : mg "pass_generation" = some (.ref a7)) (t7 : kvs.lookup ((7 : Nat) : Int) = some a7)
    (m_tell_after : mg "tell_after" = some (.ref a8)) (t8 : kvs.lookup ((8 : Nat) : Int) = some a8)
    (m_tell_way : mg "tell_way" = some (.ref a9)) (t9 : kvs.lookup ((9 : Nat) : Int) = some a9)
    (m_tell_way_at : mg "tell_way_at" = some (.ref a10)) (t10 : kvs.lookup ((10 : Nat) : Int) = some a10)
    (m_tell_enters : mg "tell_enters" = some (.ref a11)) (t11 : kvs.lookup ((11 : Nat) : Int) = some a11)
    (m_tell_enters_other : mg "tell_enters_other" = some (.ref a12)) (t12 : kvs.lookup ((12 : Nat) : Int) = some a12)
    (m_tell_both : mg "tell_both" = some (.ref a13)) (t13 : kvs.lookup ((13 : Nat) : Int) = some a13)
    (m_tell_at_place : mg "tell_at_place" = some (.ref a14)) (t14 : kvs.lookup ((14 : Nat) : Int) = some a14)
    (m_tell_more : mg "tell_more" = some (.ref a15)) (t15 : kvs.lookup ((15 : Nat) : Int) = some a15)
    (m_tell_best : mg "tell_best" = some (.ref a16)) (t16 : kvs.lookup ((16 : Nat) : Int) = some a16)
    (m_tell_near : mg "tell_near" = some (.ref a17)) (t17 : kvs.lookup ((17 : Nat) : Int) = some a17)
    (m_tell_place : mg "tell_place" = some (.ref a18)) (t18 : kvs.lookup ((18 : Nat) : Int) = some a18)
    (m_tell_state : mg "tell_state" = some (.ref a19)) (t19 : kvs.lookup ((19 : Nat) : Int) = some a19)
    (T : FC K C) (M : Mk K C fi) (Fi : ∃ fd, Fun K "__init__" "Field.__init__" s_init fi fd ∧ Binds K fd ["self"] []) (mC : mg "Field" = some (.ref C)) (FA : Fun K "answers" "answers" s_answers fA fdA) :
    FnOk P w K mg base CX0 11 fA fdA ["calls"] (sp_answers K) := by
  have c_common_divisor := ok_common_divisor (P := P) (w := w) (base := base) f_common_divisor 
  have c_lowest := ok_lowest (P := P) (w := w) (base := base) f_lowest c_common_divisor
  have c_lack := ok_lack (P := P) (w := w) (base := base) f_lack 
  have c_first_part := ok_first_part (P := P) (w := w) (base := base) f_first_part c_lack
  have c_second_part := ok_second_part (P := P) (w := w) (base := base) f_second_part c_lack
  have c_mean_part := ok_mean_part (P := P) (w := w) (base := base) f_mean_part c_lack c_first_part c_second_part
  have c_first_worth := ok_first_worth (P := P) (w := w) (base := base) f_first_worth c_lowest c_first_part
  have c_second_worth := ok_second_worth (P := P) (w := w) (base := base) f_second_worth c_lowest c_second_part
  have c_mean_worth := ok_mean_worth (P := P) (w := w) (base := base) f_mean_worth c_lowest c_mean_part
  have c_chosen_parts := ok_chosen_parts (P := P) (w := w) (base := base) f_chosen_parts c_first_part c_mean_part
  have c_chosen_share := ok_chosen_share (P := P) (w := w) (base := base) f_chosen_share c_lowest c_chosen_parts
  have c_over_all_places := ok_over_all_places (P := P) (w := w) (base := base) f_over_all_places n_zip i_ALL_SEEDS c_lowest
  have c_share_next := ok_share_next (P := P) (w := w) (base := base) f_share_next c_over_all_places c_chosen_parts
  have c_share_after := ok_share_after (P := P) (w := w) (base := base) f_share_after n_range c_share_next
  have c_direction := ok_direction (P := P) (w := w) (base := base) f_direction 
  have c_share_way := ok_share_way (P := P) (w := w) (base := base) f_share_way c_direction c_share_next
  have c_first_growth := ok_first_growth (P := P) (w := w) (base := base) f_first_growth c_over_all_places
  have c_second_growth := ok_second_growth (P := P) (w := w) (base := base) f_second_growth c_over_all_places
  have c_is_above_one := ok_is_above_one (P := P) (w := w) (base := base) f_is_above_one 
  have c_are_both_kept := ok_are_both_kept (P := P) (w := w) (base := base) f_are_both_kept c_is_above_one c_first_growth c_second_growth
  have c_best_place := ok_best_place (P := P) (w := w) (base := base) f_best_place n_max c_mean_part
  have c_power := ok_power (P := P) (w := w) (base := base) f_power n_range
  have c_product_of_means := ok_product_of_means (P := P) (w := w) (base := base) f_product_of_means n_zip c_power c_mean_worth
  have c_product_way := ok_product_way (P := P) (w := w) (base := base) f_product_way c_direction c_product_of_means c_share_next
  have c_is_place := ok_is_place (P := P) (w := w) (base := base) f_is_place T n_len
  have c_are_worths := ok_are_worths (P := P) (w := w) (base := base) f_are_worths n_min n_max i_LEAST_WORTH i_GREATEST_WORTH
  have c_is_share := ok_is_share (P := P) (w := w) (base := base) f_is_share i_GREATEST_LOWER_TOLD
  have c_are_whole_places := ok_whole (P := P) (w := w) (base := base) f_are_whole_places n_len i_NUMBERS_OF_A_PLACE i_MOST_PLACES
  have c_seeds_of := ok_seeds_of (P := P) (w := w) (base := base) f_seeds_of i_NUMBERS_OF_A_PLACE
  have c_worths_of := ok_worths_of (P := P) (w := w) (base := base) f_worths_of n_len n_range n_tuple i_NUMBERS_OF_A_PLACE
  have c_start := ok_start (P := P) (w := w) (base := base) f_start T n_len n_all n_sum i_NOT_AS_TOLD i_ALL_SEEDS c_are_whole_places c_seeds_of c_worths_of c_are_worths
  have c_move_seeds := ok_move_seeds (P := P) (w := w) (base := base) f_move_seeds T i_NO_SUCH_PLACE i_NOT_AS_TOLD i_TOO_FEW_SEEDS c_is_place
  have c_set_worths := ok_set_worths (P := P) (w := w) (base := base) f_set_worths T n_list n_tuple i_NO_SUCH_PLACE i_NOT_AS_TOLD c_is_place c_are_worths
  have c_set_share := ok_set_share (P := P) (w := w) (base := base) f_set_share T i_NOT_AS_TOLD c_is_share c_lowest
  have c_tell_share := ok_tell_share (P := P) (w := w) (base := base) f_tell_share T n_list
  have c_tell_mean := ok_tell_mean (P := P) (w := w) (base := base) f_tell_mean T n_list i_NO_SUCH_PLACE c_is_place c_mean_worth
  have c_tell_kinds := ok_tell_kinds (P := P) (w := w) (base := base) f_tell_kinds T n_list i_NO_SUCH_PLACE c_is_place c_first_worth c_second_worth
  have c_pass_generation := ok_pass_generation (P := P) (w := w) (base := base) f_pass_generation T i_GREATEST_LOWER_AT_NEXT i_TOO_GREAT c_share_next
  have c_tell_after := ok_tell_after (P := P) (w := w) (base := base) f_tell_after T n_list i_MOST_GENERATIONS i_NOT_AS_TOLD c_share_after
  have c_tell_way := ok_tell_way (P := P) (w := w) (base := base) f_tell_way T c_share_way
  have c_tell_way_at := ok_tell_way_at (P := P) (w := w) (base := base) f_tell_way_at T i_NOT_AS_TOLD c_is_share c_lowest c_share_way
  have c_tell_enters := ok_tell_enters (P := P) (w := w) (base := base) f_tell_enters T n_list c_first_growth
  have c_tell_enters_other := ok_tell_enters_other (P := P) (w := w) (base := base) f_tell_enters_other T n_list c_second_growth
  have c_tell_both := ok_tell_both (P := P) (w := w) (base := base) f_tell_both T c_are_both_kept
  have c_tell_at_place := ok_tell_at_place (P := P) (w := w) (base := base) f_tell_at_place T n_list i_NO_SUCH_PLACE c_is_place c_chosen_share
  have c_tell_more := ok_tell_more (P := P) (w := w) (base := base) f_tell_more T i_NOT_AS_TOLD i_GREATEST_LOWER_AT_MORE c_is_share c_lowest c_product_way
  have c_tell_best := ok_tell_best (P := P) (w := w) (base := base) f_tell_best T c_best_place
  have c_tell_near := ok_tell_near (P := P) (w := w) (base := base) f_tell_near T n_len n_range i_NOT_AS_TOLD i_LEAST_PARTS i_MOST_PARTS c_lowest c_share_way
  have c_tell_place := ok_tell_place (P := P) (w := w) (base := base) f_tell_place T n_list i_NO_SUCH_PLACE c_is_place
  have c_tell_state := ok_tell_state (P := P) (w := w) (base := base) f_tell_state T n_len n_sum
  have c_numbers_begin := ok_begin (P := P) (w := w) (base := base) f_numbers_begin i_START
  have c_numbers_end := ok_end (P := P) (w := w) (base := base) f_numbers_end i_START gh ht
  have htab : ∀ p : Nat, p ≤ 19 → ∃ f, kvs.lookup (p : Int) = some f ∧ FnAt P w K mg base 9 f (sp_do C (p : Int)) := fun p hp => by
    match p, hp with
    | 0, _ => exact ⟨_, t0, fnAt_of c_start m_start (by decide)⟩
    | 1, _ => exact ⟨_, t1, fnAt_of (c_move_seeds.imp (do_of_mu (p := 1) (by decide) rfl)) m_move_seeds (by decide)⟩
    | 2, _ => exact ⟨_, t2, fnAt_of (c_set_worths.imp (do_of_mu (p := 2) (by decide) rfl)) m_set_worths (by decide)⟩
    | 3, _ => exact ⟨_, t3, fnAt_of (c_set_share.imp (do_of_mu (p := 3) (by decide) rfl)) m_set_share (by decide)⟩
    | 4, _ => exact ⟨_, t4, fnAt_of (c_tell_share.imp (do_of_ro (p := 4) (by decide) rfl fun l args hl _ _ => match args, hl with | [], _ => rfl)) m_tell_share (by decide)⟩
    | 5, _ => exact ⟨_, t5, fnAt_of (c_tell_mean.imp (do_of_ro (p := 5) (by decide) rfl fun l args hl _ _ => match args, hl with | [_], _ => rfl)) m_tell_mean (by decide)⟩
    | 6, _ => exact ⟨_, t6, fnAt_of (c_tell_kinds.imp (do_of_ro (p := 6) (by decide) rfl fun l args hl _ _ => match args, hl with | [_], _ => rfl)) m_tell_kinds (by decide)⟩
    | 7, _ => exact ⟨_, t7, fnAt_of (c_pass_generation.imp (do_of_mu (p := 7) (by decide) rfl)) m_pass_generation (by decide)⟩
    | 8, _ => exact ⟨_, t8, fnAt_of (c_tell_after.imp (do_of_ro (p := 8) (by decide) rfl fun l args hl _ _ => match args, hl with | [_], _ => rfl)) m_tell_after (by decide)⟩
    | 9, _ => exact ⟨_, t9, fnAt_of (c_tell_way.imp (do_of_ro (p := 9) (by decide) rfl fun l args hl _ _ => match args, hl with | [], _ => rfl)) m_tell_way (by decide)⟩
    | 10, _ => exact ⟨_, t10, fnAt_of (c_tell_way_at.imp (do_of_ro (p := 10) (by decide) rfl fun l args hl _ _ => match args, hl with | [_, _], _ => rfl)) m_tell_way_at (by decide)⟩
    | 11, _ => exact ⟨_, t11, fnAt_of (c_tell_enters.imp (do_of_ro (p := 11) (by decide) rfl fun l args hl _ _ => match args, hl with | [], _ => rfl)) m_tell_enters (by decide)⟩
    | 12, _ => exact ⟨_, t12, fnAt_of (c_tell_enters_other.imp (do_of_ro (p := 12) (by decide) rfl fun l args hl _ _ => match args, hl with | [], _ => rfl)) m_tell_enters_other (by decide)⟩
    | 13, _ => exact ⟨_, t13, fnAt_of (c_tell_both.imp (do_of_ro (p := 13) (by decide) rfl fun l args hl _ _ => match args, hl with | [], _ => rfl)) m_tell_both (by decide)⟩
    | 14, _ => exact ⟨_, t14, fnAt_of (c_tell_at_place.imp (do_of_ro (p := 14) (by decide) rfl fun l args hl _ _ => match args, hl with | [_], _ => rfl)) m_tell_at_place (by decide)⟩
    | 15, _ => exact ⟨_, t15, fnAt_of (c_tell_more.imp (do_of_ro (p := 15) (by decide) rfl fun l args hl _ _ => match args, hl with | [_, _], _ => rfl)) m_tell_more (by decide)⟩
    | 16, _ => exact ⟨_, t16, fnAt_of (c_tell_best.imp (do_of_ro (p := 16) (by decide) rfl fun l args hl _ _ => match args, hl with | [], _ => rfl)) m_tell_best (by decide)⟩
    | 17, _ => exact ⟨_, t17, fnAt_of (c_tell_near.imp (do_of_ro (p := 17) (by decide) rfl fun l args hl _ _ => match args, hl with | [_], _ => rfl)) m_tell_near (by decide)⟩
    | 18, _ => exact ⟨_, t18, fnAt_of (c_tell_place.imp (do_of_ro (p := 18) (by decide) rfl fun l args hl _ _ => match args, hl with | [_], _ => rfl)) m_tell_place (by decide)⟩
    | 19, _ => exact ⟨_, t19, fnAt_of (c_tell_state.imp (do_of_ro (p := 19) (by decide) rfl fun l args hl _ _ => match args, hl with | [], _ => rfl)) m_tell_state (by decide)⟩
    | n + 20, h => exact absurd h (by omega)
  obtain ⟨fdi, F1, b1⟩ := Fi
  exact ok_answers FA n_len ⟨fi, fdi, ["self"], M, ok_init F1 T, mC, b1⟩ c_numbers_begin c_numbers_end (ok_answer f_answer T n_len i_START i_NOT_STARTED gd tab htab)
end KP

end

set_option Elab.async false
set_option linter.all false
set_option maxRecDepth 100000
open PySem PySem.W PyProof.Rows
set_option maxRecDepth 100000 in
set_option maxHeartbeats 0 in
theorem PySem.Challenge.cw_kindshares_s01_answers_holds : PySem.Challenge.rw_kindshares_s01_answers.Holds := by
  w_on
  refine holds_os (q := KH.V) (loose := ["ANSWERED_BY"]) (Xt := fun s => xlAt KH.V [] s && recOk [] s) (XP := XL KH.V []) (Yf := Hook.obs (kHook KH.KF KH.addrs KH.addrs_ok)) (Ya := Hook.val (kHook KH.KF KH.addrs KH.addrs_ok)) (YP := Hook.says (kHook KH.KF KH.addrs KH.addrs_ok)) (N := 4896) KH.left (Hook.of (kHook KH.KF KH.addrs KH.addrs_ok)) (Hook.keeps (kHook KH.KF KH.addrs KH.addrs_ok)) (fun s e => xl_of s (Bool.and_eq_true_iff.mp e).1) XL.keeps
    (by rfl) (by rfl) (by rfl) (fun s e => recFacts_of (Bool.and_eq_true_iff.mp e).2) os_shapes (by decide +kernel) (by decide +kernel) ⟨rfl, rfl, rfl, rfl, rfl, by decide +kernel⟩ ?hw ?hc
  (case hw => exact ⟨[.list [.int 4]], by decide +kernel, by decide +kernel⟩)
  k_fillS
  refine L2.walk_specK (r := PySem.Challenge.rw_kindshares_s01_answers) (k := 11) (CX := L2.CX0) (ps := ["calls"]) (sp := KP.sp_answers) (by decide +kernel) rfl rfl ⟨rfl, by decide, by decide⟩ (fun w h Y => PySem.W.kIn_of Y) ?F ?S (fun _ _ _ _ z => z)
  case F =>
    intro w mg fa h Y KX G hmg
    refine' L2.with_int (x := "ALL_SEEDS") (i := 100) KX G ?a ?_; (case a => k_is); intro i_ALL_SEEDS
    refine' L2.with_int (x := "NO_SUCH_PLACE") (i := (-2)) KX G ?a ?_; (case a => k_is); intro i_NO_SUCH_PLACE
    refine' L2.with_int (x := "NOT_STARTED") (i := (-11)) KX G ?a ?_; (case a => k_is); intro i_NOT_STARTED
    refine' L2.with_int (x := "TOO_FEW_SEEDS") (i := (-12)) KX G ?a ?_; (case a => k_is); intro i_TOO_FEW_SEEDS
    refine' L2.with_int (x := "NOT_AS_TOLD") (i := (-22)) KX G ?a ?_; (case a => k_is); intro i_NOT_AS_TOLD
    refine' L2.with_int (x := "TOO_GREAT") (i := (-28)) KX G ?a ?_; (case a => k_is); intro i_TOO_GREAT
    refine' L2.with_int (x := "MOST_PLACES") (i := 3) KX G ?a ?_; (case a => k_is); intro i_MOST_PLACES
    refine' L2.with_int (x := "NUMBERS_OF_A_PLACE") (i := 4) KX G ?a ?_; (case a => k_is); intro i_NUMBERS_OF_A_PLACE
    refine' L2.with_int (x := "LEAST_WORTH") (i := 1) KX G ?a ?_; (case a => k_is); intro i_LEAST_WORTH
    refine' L2.with_int (x := "GREATEST_WORTH") (i := 9) KX G ?a ?_; (case a => k_is); intro i_GREATEST_WORTH
    refine' L2.with_int (x := "GREATEST_LOWER_TOLD") (i := 100) KX G ?a ?_; (case a => k_is); intro i_GREATEST_LOWER_TOLD
    refine' L2.with_int (x := "GREATEST_LOWER_AT_MORE") (i := 10) KX G ?a ?_; (case a => k_is); intro i_GREATEST_LOWER_AT_MORE
    refine' L2.with_int (x := "GREATEST_LOWER_AT_NEXT") (i := 100000) KX G ?a ?_; (case a => k_is); intro i_GREATEST_LOWER_AT_NEXT
    refine' L2.with_int (x := "MOST_GENERATIONS") (i := 2) KX G ?a ?_; (case a => k_is); intro i_MOST_GENERATIONS
    refine' L2.with_int (x := "LEAST_PARTS") (i := 2) KX G ?a ?_; (case a => k_is); intro i_LEAST_PARTS
    refine' L2.with_int (x := "MOST_PARTS") (i := 30) KX G ?a ?_; (case a => k_is); intro i_MOST_PARTS
    refine' L2.with_int (x := "START") (i := 0) KX G ?a ?_; (case a => k_is); intro i_START
    refine' L2.with_tup (x := "HOW_MANY_NUMBERS") (ns := [0, 3, 4, 2, 0, 1, 1, 0, 1, 0, 2, 0, 0, 0, 1, 2, 0, 1, 1, 0]) KX G ?a ?l ?t ?z ?_; (case a => k_is); (case l => k_is); (case t => decide +kernel); (case z => decide +kernel); intro r_HOW_MANY_NUMBERS t_HOW_MANY_NUMBERS
    refine' L2.with_tab (x := "ANSWERED_BY") KX G ?a ?l ?t ?n ?_; (case a => k_is); (case l => k_is); (case t => decide +kernel); (case n => decide +kernel); intro r_ANSWERED_BY d_ANSWERED_BY
    refine' L2.with_none (x := "len") KX G ?a ?_; (case a => k_is); intro n_len
    refine' L2.with_none (x := "min") KX G ?a ?_; (case a => k_is); intro n_min
    refine' L2.with_none (x := "max") KX G ?a ?_; (case a => k_is); intro n_max
    refine' L2.with_none (x := "sum") KX G ?a ?_; (case a => k_is); intro n_sum
    refine' L2.with_none (x := "all") KX G ?a ?_; (case a => k_is); intro n_all
    refine' L2.with_none (x := "list") KX G ?a ?_; (case a => k_is); intro n_list
    refine' L2.with_none (x := "tuple") KX G ?a ?_; (case a => k_is); intro n_tuple
    refine' L2.with_none (x := "range") KX G ?a ?_; (case a => k_is); intro n_range
    refine' L2.with_none (x := "zip") KX G ?a ?_; (case a => k_is); intro n_zip
    refine' L2.with_fun (x := "common_divisor") (st := KP.s_common_divisor) (ps := ["one", "other"]) KX G ?a ?l ?c ?k ?b ?_; (case a => k_is); (case l => k_is); (case c => k_is); (case k => k_is); (case b => exact fun _ _ _ _ _ _ us hl => match us, hl with | [_, _], _ => rfl); intro f_common_divisor m_common_divisor
    refine' L2.with_fun (x := "lowest") (st := KP.s_lowest) (ps := ["upper", "lower"]) KX G ?a ?l ?c ?k ?b ?_; (case a => k_is); (case l => k_is); (case c => k_is); (case k => k_is); (case b => exact fun _ _ _ _ _ _ us hl => match us, hl with | [_, _], _ => rfl); intro f_lowest m_lowest
    refine' L2.with_fun (x := "lack") (st := KP.s_lack) (ps := ["share"]) KX G ?a ?l ?c ?k ?b ?_; (case a => k_is); (case l => k_is); (case c => k_is); (case k => k_is); (case b => exact fun _ _ _ _ _ _ us hl => match us, hl with | [_], _ => rfl); intro f_lack m_lack
    refine' L2.with_fun (x := "first_part") (st := KP.s_first_part) (ps := ["share", "worths"]) KX G ?a ?l ?c ?k ?b ?_; (case a => k_is); (case l => k_is); (case c => k_is); (case k => k_is); (case b => exact fun _ _ _ _ _ _ us hl => match us, hl with | [_, _], _ => rfl); intro f_first_part m_first_part
    refine' L2.with_fun (x := "second_part") (st := KP.s_second_part) (ps := ["share", "worths"]) KX G ?a ?l ?c ?k ?b ?_; (case a => k_is); (case l => k_is); (case c => k_is); (case k => k_is); (case b => exact fun _ _ _ _ _ _ us hl => match us, hl with | [_, _], _ => rfl); intro f_second_part m_second_part
    refine' L2.with_fun (x := "mean_part") (st := KP.s_mean_part) (ps := ["share", "worths"]) KX G ?a ?l ?c ?k ?b ?_; (case a => k_is); (case l => k_is); (case c => k_is); (case k => k_is); (case b => exact fun _ _ _ _ _ _ us hl => match us, hl with | [_, _], _ => rfl); intro f_mean_part m_mean_part
    refine' L2.with_fun (x := "first_worth") (st := KP.s_first_worth) (ps := ["share", "worths"]) KX G ?a ?l ?c ?k ?b ?_; (case a => k_is); (case l => k_is); (case c => k_is); (case k => k_is); (case b => exact fun _ _ _ _ _ _ us hl => match us, hl with | [_, _], _ => rfl); intro f_first_worth m_first_worth
    refine' L2.with_fun (x := "second_worth") (st := KP.s_second_worth) (ps := ["share", "worths"]) KX G ?a ?l ?c ?k ?b ?_; (case a => k_is); (case l => k_is); (case c => k_is); (case k => k_is); (case b => exact fun _ _ _ _ _ _ us hl => match us, hl with | [_, _], _ => rfl); intro f_second_worth m_second_worth
    refine' L2.with_fun (x := "mean_worth") (st := KP.s_mean_worth) (ps := ["share", "worths"]) KX G ?a ?l ?c ?k ?b ?_; (case a => k_is); (case l => k_is); (case c => k_is); (case k => k_is); (case b => exact fun _ _ _ _ _ _ us hl => match us, hl with | [_, _], _ => rfl); intro f_mean_worth m_mean_worth
    refine' L2.with_fun (x := "chosen_parts") (st := KP.s_chosen_parts) (ps := ["share", "worths"]) KX G ?a ?l ?c ?k ?b ?_; (case a => k_is); (case l => k_is); (case c => k_is); (case k => k_is); (case b => exact fun _ _ _ _ _ _ us hl => match us, hl with | [_, _], _ => rfl); intro f_chosen_parts m_chosen_parts
    refine' L2.with_fun (x := "chosen_share") (st := KP.s_chosen_share) (ps := ["share", "worths"]) KX G ?a ?l ?c ?k ?b ?_; (case a => k_is); (case l => k_is); (case c => k_is); (case k => k_is); (case b => exact fun _ _ _ _ _ _ us hl => match us, hl with | [_, _], _ => rfl); intro f_chosen_share m_chosen_share
    refine' L2.with_fun (x := "over_all_places") (st := KP.s_over_all_places) (ps := ["seeds", "parts"]) KX G ?a ?l ?c ?k ?b ?_; (case a => k_is); (case l => k_is); (case c => k_is); (case k => k_is); (case b => exact fun _ _ _ _ _ _ us hl => match us, hl with | [_, _], _ => rfl); intro f_over_all_places m_over_all_places
    refine' L2.with_fun (x := "share_next") (st := KP.s_share_next) (ps := ["share", "seeds", "worths"]) KX G ?a ?l ?c ?k ?b ?_; (case a => k_is); (case l => k_is); (case c => k_is); (case k => k_is); (case b => exact fun _ _ _ _ _ _ us hl => match us, hl with | [_, _, _], _ => rfl); intro f_share_next m_share_next
    refine' L2.with_fun (x := "share_after") (st := KP.s_share_after) (ps := ["share", "seeds", "worths", "generations"]) KX G ?a ?l ?c ?k ?b ?_; (case a => k_is); (case l => k_is); (case c => k_is); (case k => k_is); (case b => exact fun _ _ _ _ _ _ us hl => match us, hl with | [_, _, _, _], _ => rfl); intro f_share_after m_share_after
    refine' L2.with_fun (x := "direction") (st := KP.s_direction) (ps := ["before", "later"]) KX G ?a ?l ?c ?k ?b ?_; (case a => k_is); (case l => k_is); (case c => k_is); (case k => k_is); (case b => exact fun _ _ _ _ _ _ us hl => match us, hl with | [_, _], _ => rfl); intro f_direction m_direction
    refine' L2.with_fun (x := "share_way") (st := KP.s_share_way) (ps := ["share", "seeds", "worths"]) KX G ?a ?l ?c ?k ?b ?_; (case a => k_is); (case l => k_is); (case c => k_is); (case k => k_is); (case b => exact fun _ _ _ _ _ _ us hl => match us, hl with | [_, _, _], _ => rfl); intro f_share_way m_share_way
    refine' L2.with_fun (x := "first_growth") (st := KP.s_first_growth) (ps := ["seeds", "worths"]) KX G ?a ?l ?c ?k ?b ?_; (case a => k_is); (case l => k_is); (case c => k_is); (case k => k_is); (case b => exact fun _ _ _ _ _ _ us hl => match us, hl with | [_, _], _ => rfl); intro f_first_growth m_first_growth
    refine' L2.with_fun (x := "second_growth") (st := KP.s_second_growth) (ps := ["seeds", "worths"]) KX G ?a ?l ?c ?k ?b ?_; (case a => k_is); (case l => k_is); (case c => k_is); (case k => k_is); (case b => exact fun _ _ _ _ _ _ us hl => match us, hl with | [_, _], _ => rfl); intro f_second_growth m_second_growth
    refine' L2.with_fun (x := "is_above_one") (st := KP.s_is_above_one) (ps := ["fraction"]) KX G ?a ?l ?c ?k ?b ?_; (case a => k_is); (case l => k_is); (case c => k_is); (case k => k_is); (case b => exact fun _ _ _ _ _ _ us hl => match us, hl with | [_], _ => rfl); intro f_is_above_one m_is_above_one
    refine' L2.with_fun (x := "are_both_kept") (st := KP.s_are_both_kept) (ps := ["seeds", "worths"]) KX G ?a ?l ?c ?k ?b ?_; (case a => k_is); (case l => k_is); (case c => k_is); (case k => k_is); (case b => exact fun _ _ _ _ _ _ us hl => match us, hl with | [_, _], _ => rfl); intro f_are_both_kept m_are_both_kept
    refine' L2.with_fun (x := "best_place") (st := KP.s_best_place) (ps := ["share", "worths"]) KX G ?a ?l ?c ?k ?b ?_; (case a => k_is); (case l => k_is); (case c => k_is); (case k => k_is); (case b => exact fun _ _ _ _ _ _ us hl => match us, hl with | [_, _], _ => rfl); intro f_best_place m_best_place
    refine' L2.with_fun (x := "power") (st := KP.s_power) (ps := ["number", "times"]) KX G ?a ?l ?c ?k ?b ?_; (case a => k_is); (case l => k_is); (case c => k_is); (case k => k_is); (case b => exact fun _ _ _ _ _ _ us hl => match us, hl with | [_, _], _ => rfl); intro f_power m_power
    refine' L2.with_fun (x := "product_of_means") (st := KP.s_product_of_means) (ps := ["share", "seeds", "worths"]) KX G ?a ?l ?c ?k ?b ?_; (case a => k_is); (case l => k_is); (case c => k_is); (case k => k_is); (case b => exact fun _ _ _ _ _ _ us hl => match us, hl with | [_, _, _], _ => rfl); intro f_product_of_means m_product_of_means
    refine' L2.with_fun (x := "product_way") (st := KP.s_product_way) (ps := ["share", "seeds", "worths"]) KX G ?a ?l ?c ?k ?b ?_; (case a => k_is); (case l => k_is); (case c => k_is); (case k => k_is); (case b => exact fun _ _ _ _ _ _ us hl => match us, hl with | [_, _, _], _ => rfl); intro f_product_way m_product_way
    refine' L2.with_fun (x := "is_place") (st := KP.s_is_place) (ps := ["field", "place"]) KX G ?a ?l ?c ?k ?b ?_; (case a => k_is); (case l => k_is); (case c => k_is); (case k => k_is); (case b => exact fun _ _ _ _ _ _ us hl => match us, hl with | [_, _], _ => rfl); intro f_is_place m_is_place
    refine' L2.with_fun (x := "are_worths") (st := KP.s_are_worths) (ps := ["numbers"]) KX G ?a ?l ?c ?k ?b ?_; (case a => k_is); (case l => k_is); (case c => k_is); (case k => k_is); (case b => exact fun _ _ _ _ _ _ us hl => match us, hl with | [_], _ => rfl); intro f_are_worths m_are_worths
    refine' L2.with_fun (x := "is_share") (st := KP.s_is_share) (ps := ["upper", "lower"]) KX G ?a ?l ?c ?k ?b ?_; (case a => k_is); (case l => k_is); (case c => k_is); (case k => k_is); (case b => exact fun _ _ _ _ _ _ us hl => match us, hl with | [_, _], _ => rfl); intro f_is_share m_is_share
    refine' L2.with_fun (x := "are_whole_places") (st := KP.s_are_whole_places) (ps := ["row"]) KX G ?a ?l ?c ?k ?b ?_; (case a => k_is); (case l => k_is); (case c => k_is); (case k => k_is); (case b => exact fun _ _ _ _ _ _ us hl => match us, hl with | [_], _ => rfl); intro f_are_whole_places m_are_whole_places
    refine' L2.with_fun (x := "seeds_of") (st := KP.s_seeds_of) (ps := ["row"]) KX G ?a ?l ?c ?k ?b ?_; (case a => k_is); (case l => k_is); (case c => k_is); (case k => k_is); (case b => exact fun _ _ _ _ _ _ us hl => match us, hl with | [_], _ => rfl); intro f_seeds_of m_seeds_of
    refine' L2.with_fun (x := "worths_of") (st := KP.s_worths_of) (ps := ["row"]) KX G ?a ?l ?c ?k ?b ?_; (case a => k_is); (case l => k_is); (case c => k_is); (case k => k_is); (case b => exact fun _ _ _ _ _ _ us hl => match us, hl with | [_], _ => rfl); intro f_worths_of m_worths_of
    refine' L2.with_fun (x := "start") (st := KP.s_start) (ps := ["field", "row"]) KX G ?a ?l ?c ?k ?b ?_; (case a => k_is); (case l => k_is); (case c => k_is); (case k => k_is); (case b => exact fun _ _ _ _ _ _ us hl => match us, hl with | [_, _], _ => rfl); intro f_start m_start
    refine' L2.with_fun (x := "move_seeds") (st := KP.s_move_seeds) (ps := ["field", "numbers"]) KX G ?a ?l ?c ?k ?b ?_; (case a => k_is); (case l => k_is); (case c => k_is); (case k => k_is); (case b => exact fun _ _ _ _ _ _ us hl => match us, hl with | [_, _], _ => rfl); intro f_move_seeds m_move_seeds
    refine' L2.with_fun (x := "set_worths") (st := KP.s_set_worths) (ps := ["field", "numbers"]) KX G ?a ?l ?c ?k ?b ?_; (case a => k_is); (case l => k_is); (case c => k_is); (case k => k_is); (case b => exact fun _ _ _ _ _ _ us hl => match us, hl with | [_, _], _ => rfl); intro f_set_worths m_set_worths
    refine' L2.with_fun (x := "set_share") (st := KP.s_set_share) (ps := ["field", "numbers"]) KX G ?a ?l ?c ?k ?b ?_; (case a => k_is); (case l => k_is); (case c => k_is); (case k => k_is); (case b => exact fun _ _ _ _ _ _ us hl => match us, hl with | [_, _], _ => rfl); intro f_set_share m_set_share
    refine' L2.with_fun (x := "tell_share") (st := KP.s_tell_share) (ps := ["field", "numbers"]) KX G ?a ?l ?c ?k ?b ?_; (case a => k_is); (case l => k_is); (case c => k_is); (case k => k_is); (case b => exact fun _ _ _ _ _ _ us hl => match us, hl with | [_, _], _ => rfl); intro f_tell_share m_tell_share
    refine' L2.with_fun (x := "tell_mean") (st := KP.s_tell_mean) (ps := ["field", "numbers"]) KX G ?a ?l ?c ?k ?b ?_; (case a => k_is); (case l => k_is); (case c => k_is); (case k => k_is); (case b => exact fun _ _ _ _ _ _ us hl => match us, hl with | [_, _], _ => rfl); intro f_tell_mean m_tell_mean
    refine' L2.with_fun (x := "tell_kinds") (st := KP.s_tell_kinds) (ps := ["field", "numbers"]) KX G ?a ?l ?c ?k ?b ?_; (case a => k_is); (case l => k_is); (case c => k_is); (case k => k_is); (case b => exact fun _ _ _ _ _ _ us hl => match us, hl with | [_, _], _ => rfl); intro f_tell_kinds m_tell_kinds
    refine' L2.with_fun (x := "pass_generation") (st := KP.s_pass_generation) (ps := ["field", "numbers"]) KX G ?a ?l ?c ?k ?b ?_; (case a => k_is); (case l => k_is); (case c => k_is); (case k => k_is); (case b => exact fun _ _ _ _ _ _ us hl => match us, hl with | [_, _], _ => rfl); intro f_pass_generation m_pass_generation
    refine' L2.with_fun (x := "tell_after") (st := KP.s_tell_after) (ps := ["field", "numbers"]) KX G ?a ?l ?c ?k ?b ?_; (case a => k_is); (case l => k_is); (case c => k_is); (case k => k_is); (case b => exact fun _ _ _ _ _ _ us hl => match us, hl with | [_, _], _ => rfl); intro f_tell_after m_tell_after
    refine' L2.with_fun (x := "tell_way") (st := KP.s_tell_way) (ps := ["field", "numbers"]) KX G ?a ?l ?c ?k ?b ?_; (case a => k_is); (case l => k_is); (case c => k_is); (case k => k_is); (case b => exact fun _ _ _ _ _ _ us hl => match us, hl with | [_, _], _ => rfl); intro f_tell_way m_tell_way
    refine' L2.with_fun (x := "tell_way_at") (st := KP.s_tell_way_at) (ps := ["field", "numbers"]) KX G ?a ?l ?c ?k ?b ?_; (case a => k_is); (case l => k_is); (case c => k_is); (case k => k_is); (case b => exact fun _ _ _ _ _ _ us hl => match us, hl with | [_, _], _ => rfl); intro f_tell_way_at m_tell_way_at
    refine' L2.with_fun (x := "tell_enters") (st := KP.s_tell_enters) (ps := ["field", "numbers"]) KX G ?a ?l ?c ?k ?b ?_; (case a => k_is); (case l => k_is); (case c => k_is); (case k => k_is); (case b => exact fun _ _ _ _ _ _ us hl => match us, hl with | [_, _], _ => rfl); intro f_tell_enters m_tell_enters
    refine' L2.with_fun (x := "tell_enters_other") (st := KP.s_tell_enters_other) (ps := ["field", "numbers"]) KX G ?a ?l ?c ?k ?b ?_; (case a => k_is); (case l => k_is); (case c => k_is); (case k => k_is); (case b => exact fun _ _ _ _ _ _ us hl => match us, hl with | [_, _], _ => rfl); intro f_tell_enters_other m_tell_enters_other
    refine' L2.with_fun (x := "tell_both") (st := KP.s_tell_both) (ps := ["field", "numbers"]) KX G ?a ?l ?c ?k ?b ?_; (case a => k_is); (case l => k_is); (case c => k_is); (case k => k_is); (case b => exact fun _ _ _ _ _ _ us hl => match us, hl with | [_, _], _ => rfl); intro f_tell_both m_tell_both
    refine' L2.with_fun (x := "tell_at_place") (st := KP.s_tell_at_place) (ps := ["field", "numbers"]) KX G ?a ?l ?c ?k ?b ?_; (case a => k_is); (case l => k_is); (case c => k_is); (case k => k_is); (case b => exact fun _ _ _ _ _ _ us hl => match us, hl with | [_, _], _ => rfl); intro f_tell_at_place m_tell_at_place
    refine' L2.with_fun (x := "tell_more") (st := KP.s_tell_more) (ps := ["field", "numbers"]) KX G ?a ?l ?c ?k ?b ?_; (case a => k_is); (case l => k_is); (case c => k_is); (case k => k_is); (case b => exact fun _ _ _ _ _ _ us hl => match us, hl with | [_, _], _ => rfl); intro f_tell_more m_tell_more
    refine' L2.with_fun (x := "tell_best") (st := KP.s_tell_best) (ps := ["field", "numbers"]) KX G ?a ?l ?c ?k ?b ?_; (case a => k_is); (case l => k_is); (case c => k_is); (case k => k_is); (case b => exact fun _ _ _ _ _ _ us hl => match us, hl with | [_, _], _ => rfl); intro f_tell_best m_tell_best
    refine' L2.with_fun (x := "tell_near") (st := KP.s_tell_near) (ps := ["field", "numbers"]) KX G ?a ?l ?c ?k ?b ?_; (case a => k_is); (case l => k_is); (case c => k_is); (case k => k_is); (case b => exact fun _ _ _ _ _ _ us hl => match us, hl with | [_, _], _ => rfl); intro f_tell_near m_tell_near
    refine' L2.with_fun (x := "tell_place") (st := KP.s_tell_place) (ps := ["field", "numbers"]) KX G ?a ?l ?c ?k ?b ?_; (case a => k_is); (case l => k_is); (case c => k_is); (case k => k_is); (case b => exact fun _ _ _ _ _ _ us hl => match us, hl with | [_, _], _ => rfl); intro f_tell_place m_tell_place
    refine' L2.with_fun (x := "tell_state") (st := KP.s_tell_state) (ps := ["field", "numbers"]) KX G ?a ?l ?c ?k ?b ?_; (case a => k_is); (case l => k_is); (case c => k_is); (case k => k_is); (case b => exact fun _ _ _ _ _ _ us hl => match us, hl with | [_, _], _ => rfl); intro f_tell_state m_tell_state
    refine' L2.with_fun (x := "numbers_begin") (st := KP.s_numbers_begin) (ps := ["calls", "at"]) KX G ?a ?l ?c ?k ?b ?_; (case a => k_is); (case l => k_is); (case c => k_is); (case k => k_is); (case b => exact fun _ _ _ _ _ _ us hl => match us, hl with | [_, _], _ => rfl); intro f_numbers_begin m_numbers_begin
    refine' L2.with_fun (x := "numbers_end") (st := KP.s_numbers_end) (ps := ["calls", "at"]) KX G ?a ?l ?c ?k ?b ?_; (case a => k_is); (case l => k_is); (case c => k_is); (case k => k_is); (case b => exact fun _ _ _ _ _ _ us hl => match us, hl with | [_, _], _ => rfl); intro f_numbers_end m_numbers_end
    refine' L2.with_fun (x := "answer") (st := KP.s_answer) (ps := ["field", "call", "numbers"]) KX G ?a ?l ?c ?k ?b ?_; (case a => k_is); (case l => k_is); (case c => k_is); (case k => k_is); (case b => exact fun _ _ _ _ _ _ us hl => match us, hl with | [_, _, _], _ => rfl); intro f_answer m_answer
    refine' KP.with_cls KX G ?aC ?pg ?hd ?po ?sa ?n1 ?n2 ?n3 ?mk ?kc ?a1 ?i1 ?l1 ?c1 ?k1 ?_
    (case aC => k_is); (case pg => k_is); (case hd => k_is); (case po => k_is); (case sa => k_is); (case n1 => k_is); (case n2 => k_is); (case n3 => k_is); (case mk => k_is); (case kc => k_is); (case a1 => k_is); (case i1 => k_is); (case l1 => k_is); (case c1 => k_is); (case k1 => k_is)
    intro T M Fi mC
    refine' L2.with_main (x := "answers") (st := KP.s_answers) (ps := ["calls"]) KX G hmg ?a ?l ?c ?k ?b ?_; (case a => k_is); (case l => k_is); (case c => k_is); (case k => k_is); (case b => exact fun _ _ _ _ _ _ us hl => match us, hl with | [_], _ => rfl)
    intro fd FA base _ _
    exact KP.all_ok i_ALL_SEEDS i_NO_SUCH_PLACE i_NOT_STARTED i_TOO_FEW_SEEDS i_NOT_AS_TOLD i_TOO_GREAT i_MOST_PLACES i_NUMBERS_OF_A_PLACE i_LEAST_WORTH i_GREATEST_WORTH i_GREATEST_LOWER_TOLD i_GREATEST_LOWER_AT_MORE i_GREATEST_LOWER_AT_NEXT i_MOST_GENERATIONS i_LEAST_PARTS i_MOST_PARTS i_START n_len n_min n_max n_sum n_all n_list n_tuple n_range n_zip f_common_divisor f_lowest f_lack f_first_part f_second_part f_mean_part f_first_worth f_second_worth f_mean_worth f_chosen_parts f_chosen_share f_over_all_places f_share_next f_share_after f_direction f_share_way f_first_growth f_second_growth f_is_above_one f_are_both_kept f_best_place f_power f_product_of_means f_product_way f_is_place f_are_worths f_is_share f_are_whole_places f_seeds_of f_worths_of f_start f_move_seeds f_set_worths f_set_share f_tell_share f_tell_mean f_tell_kinds f_pass_generation f_tell_after f_tell_way f_tell_way_at f_tell_enters f_tell_enters_other f_tell_both f_tell_at_place f_tell_more f_tell_best f_tell_near f_tell_place f_tell_state f_numbers_begin f_numbers_end f_answer r_HOW_MANY_NUMBERS t_HOW_MANY_NUMBERS r_ANSWERED_BY d_ANSWERED_BY m_start (by decide +kernel) m_move_seeds (by decide +kernel) m_set_worths (by decide +kernel) m_set_share (by decide +kernel) m_tell_share (by decide +kernel) m_tell_mean (by decide +kernel) m_tell_kinds (by decide +kernel) m_pass_generation (by decide +kernel) m_tell_after (by decide +kernel) m_tell_way (by decide +kernel) m_tell_way_at (by decide +kernel) m_tell_enters (by decide +kernel) m_tell_enters_other (by decide +kernel) m_tell_both (by decide +kernel) m_tell_at_place (by decide +kernel) m_tell_more (by decide +kernel) m_tell_best (by decide +kernel) m_tell_near (by decide +kernel) m_tell_place (by decide +kernel) m_tell_state (by decide +kernel) T M Fi mC FA
  case S =>
    intro K H xs a hO hwi hask hx
    cases hx with
    | cons h1 h2 =>
      cases h2
      cases h1 with
      | lst hs ha =>
        have e := L2.ints_dw a.1 _ ha
        subst e
        have q : ((Codec.inLen 0 14000 a.1 && a.1.all (Codec.inInt 0 4294967295)) && true) = true := hwi
        rw [Bool.and_eq_true, Bool.and_eq_true] at q
        refine ⟨_, a.1, rfl, hs, (Codec.inNat_iff.mp q.1.1).2, fun x hx => ?_, hask, fun H' p hp => .lst (L2.SqL.of hp) (L2.dw_ints _)⟩
        have z := List.all_eq_true.mp q.1.2 x hx
        exact (Codec.inInt_iff.mp z).1
