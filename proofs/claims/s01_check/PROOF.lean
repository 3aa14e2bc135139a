import PyProof.Rows.All
import Wide.All
import OpenK.AllK
import Wide.FinOn
import PyProof.EqAt
import PyProof.EqKinds
import PyProof.TupleCall
import KE.BitLaws
import Open.SpecLaws
import KE.OsHead
import KE.OsGo
import PyProof.SetKind
import PyProof.DictKinds
import PyProof.Rows.SetFrom
import PyProof.CollectWalk
import PyProof.Rows.SortShellAny
import KE.KDictList
import PyProof.P3In
import PySem.Challenge.RW_partscript_s01_check
set_option Elab.async false
set_option linter.all false
set_option maxRecDepth 100000
namespace L2
open PySem PySem.Spec PyProof.Rows
abbrev Key := Sum Int Str
def keyIs : Key → Value → Bool
  | .inl k, v => Value.isInt k v
  | .inr x, v => Value.isStrOf x v
def keyH (w : World) : Key → Int
  | .inl k => hashInt k
  | .inr x => hashStr w x
theorem keyIs_shape : ∀ {k : Key} {v : Value}, keyIs k v = true → (∃ i t, k = Sum.inl i ∧ v = Value.int i t) ∨ (∃ x t, k = Sum.inr x ∧ v = Value.str x t)
  | .inl i, v, h => by
    obtain ⟨t, e⟩ := Value.isInt_shape (k := i) (v := v) h
    exact .inl ⟨i, t, rfl, e⟩
  | .inr x, v, h => by
    obtain ⟨t, e⟩ := Value.isStrOf_shape (x := x) (v := v) h
    exact .inr ⟨x, t, rfl, e⟩
theorem keyIs_int (i : Int) (t : Tok) : keyIs (.inl i) (.int i t) = true := by simp [keyIs, Value.isInt]
theorem keyIs_str (x : Str) (t : Tok) : keyIs (.inr x) (.str x t) = true := by simp [keyIs, Value.isStrOf]
theorem key_ll (a b : Int) : decide ((Sum.inl a : Key) = Sum.inl b) = (a == b) := by
  by_cases e : a = b
  · subst e; simp
  · have h : ¬ (Sum.inl a : Key) = Sum.inl b := fun q => e (Sum.inl.inj q)
    rw [decide_eq_false h]
    exact (beq_eq_false_iff_ne.mpr e).symm
theorem key_rr (a b : Str) : decide ((Sum.inr a : Key) = Sum.inr b) = decide (a = b) := by
  by_cases e : a = b
  · subst e; simp
  · have h : ¬ (Sum.inr a : Key) = Sum.inr b := fun q => e (Sum.inr.inj q)
    rw [decide_eq_false h, decide_eq_false e]
theorem key_lr (a : Int) (b : Str) : decide ((Sum.inl a : Key) = Sum.inr b) = false := decide_eq_false (fun q => nomatch q)
theorem key_rl (a : Str) (b : Int) : decide ((Sum.inr a : Key) = Sum.inl b) = false := decide_eq_false (fun q => nomatch q)
def mixKind (prog : Program) (w : World) : PySem.KeyKind prog w Key where
  is := keyIs
  hash := keyH w
  inj := fun v a b ha hb => by
    rcases keyIs_shape ha with ⟨i, t, rfl, rfl⟩ | ⟨x, t, rfl, rfl⟩
    · rcases keyIs_shape hb with ⟨j, u, rfl, e⟩ | ⟨y, u, rfl, e⟩
      · injection e with e1 _; rw [e1]
      · exact nomatch e
    · rcases keyIs_shape hb with ⟨j, u, rfl, e⟩ | ⟨y, u, rfl, e⟩
      · exact nomatch e
      · injection e with e1 _; rw [e1]
  byValue := fun k v h => by
    rcases keyIs_shape h with ⟨i, t, rfl, rfl⟩ | ⟨x, t, rfl, rfl⟩ <;> rfl
  pyHash := fun hv h => by
    rcases keyIs_shape hv with ⟨i, t, rfl, rfl⟩ | ⟨x, t, rfl, rfl⟩
    · exact wpAny_pyHash_int h
    · exact wpAny_pyHash_str h
  eqBool := fun hu hv h => by
    rcases keyIs_shape hu with ⟨i, t, rfl, rfl⟩ | ⟨x, t, rfl, rfl⟩
    · rcases keyIs_shape hv with ⟨j, u, rfl, rfl⟩ | ⟨y, u, rfl, rfl⟩
      · rw [key_ll] at h; exact wpAny_eqBool_int h
      · rw [key_lr] at h; exact SeqAt.EqAt.int_str i t y u _ _ _ _ h
    · rcases keyIs_shape hv with ⟨j, u, rfl, rfl⟩ | ⟨y, u, rfl, rfl⟩
      · rw [key_rl] at h; exact SeqAt.EqAt.str_int x t j u _ _ _ _ h
      · rw [key_rr] at h; exact wpAny_eqBool_str h
  «strs» := fun k x t v h => by
    rcases keyIs_shape h with ⟨i, u, rfl, e⟩ | ⟨y, u, rfl, e⟩
    · exact nomatch e
    · injection e with e1 _
      subst e1
      cases v <;> rfl
theorem mixKind_int (prog : Program) (w : World) (i : Int) (t : Tok) : (mixKind prog w).is (.inl i) (.int i t) = true := keyIs_int i t
theorem mixKind_str (prog : Program) (w : World) (x : Str) (t : Tok) : (mixKind prog w).is (.inr x) (.str x t) = true := keyIs_str x t
end L2
namespace L2
open PySem PySem.Spec PyProof.Rows
inductive V where
  | non | bl (b : Bool) | int (i : Int) | str (x : Str) | byt (b : Array UInt8) | flt (b : UInt64) | ref (a : Addr) | ty (n : String)
  deriving DecidableEq
def RelV : V → Value → Prop
  | .non, u => u = Value.none
  | .bl b, u => u = Value.bool b
  | .int i, u => ∃ t, u = Value.int i t
  | .str x, u => ∃ t, u = Value.str x t
  | .byt b, u => ∃ t, u = Value.bytes b t
  | .flt b, u => ∃ t, u = Value.float b t
  | .ref a, u => u = Value.ref a
  | .ty n, u => u = Value.type n
abbrev Vals : List V → List Value → Prop := Paired RelV
theorem Vals.length {xs : List V} {us : List Value} (r : Vals xs us) : xs.length = us.length := Paired.length r
theorem Vals.get : ∀ {xs : List V} {us : List Value} {i : Nat} {x : V}, Vals xs us → xs[i]? = some x → ∃ u, us[i]? = some u ∧ RelV x u
  | _, _, _, _, .nil, e => by simp at e
  | _, _, 0, _, .cons r _, e => by simp at e; subst e; exact ⟨_, rfl, r⟩
  | _, _, i + 1, x, .cons _ t, e => by
    obtain ⟨u, h1, h2⟩ := Vals.get (i := i) (x := x) t (by simpa using e)
    exact ⟨u, by simpa using h1, h2⟩
theorem Vals.set {x : V} {u : Value} (r : RelV x u) : ∀ {xs : List V} {us : List Value} (i : Nat), Vals xs us → Vals (xs.set i x) (us.set i u)
  | _, _, _, .nil => .nil
  | _, _, 0, .cons _ t => .cons r t
  | _, _, i + 1, .cons q t => .cons q (Vals.set r i t)
theorem Vals.append : ∀ {xs ys : List V} {us ws : List Value}, Vals xs us → Vals ys ws → Vals (xs ++ ys) (us ++ ws)
  | _, _, _, _, .nil, s => s
  | _, _, _, _, .cons r t, s => .cons r (Vals.append t s)
theorem Vals.take : ∀ {xs : List V} {us : List Value} (n : Nat), Vals xs us → Vals (xs.take n) (us.take n)
  | _, _, 0, _ => .nil
  | _, _, _ + 1, .nil => .nil
  | _, _, n + 1, .cons r t => .cons r (Vals.take n t)
theorem Vals.drop : ∀ {xs : List V} {us : List Value} (n : Nat), Vals xs us → Vals (xs.drop n) (us.drop n)
  | _, _, 0, r => r
  | _, _, _ + 1, .nil => .nil
  | _, _, n + 1, .cons _ t => Vals.drop n t
def RelO : Option V → Option Value → Prop
  | some v, some u => RelV v u
  | none, none => True
  | _, _ => False
def KV {κ : Type} : List (κ × V) → List (κ × Value) → Prop := Paired fun (p : κ × V) (q : κ × Value) => p.1 = q.1 ∧ RelV p.2 q.2
def kV : Key → V
  | .inl i => .int i
  | .inr x => .str x
inductive HO where
    | lst (xs : List V)
    | tup (xs : List V)
    | dK (kvs : List (Key × V)) | dT (kvs : List (List Key × V))
    | set (S : Int → Bool) (n : Nat)
    | ins (C dx : Addr) (fs : List (Str × V))
    | own (x : Addr)
    | xd (fs : List (Str × V))
    | met (f x : Addr)
    | rng (lo hi : Int)
    | frz (o : Obj) (u : HO)
    | tbl (ps : Array Value)
    | ext (φ : Heap → Prop)
abbrev Hp := Addr → Option HO
def upd (H : Hp) (a : Addr) (o : HO) : Hp := fun b => if b = a then some o else H b
theorem upd_same {H : Hp} {a : Addr} {o : HO} : upd H a o a = some o := by unfold upd; rw [if_pos rfl]
theorem upd_ne {H : Hp} {a b : Addr} {o : HO} (h : b ≠ a) : upd H a o b = H b := by unfold upd; rw [if_neg h]
theorem ne_of {H : Hp} {a b : Addr} {o u : HO} (h : H a = some o) (h' : H b = some u) (d : o ≠ u) : a ≠ b := by
  intro e; subst e; rw [h] at h'; exact d (Option.some.inj h')
theorem ne_of_none {H : Hp} {a b : Addr} {o : HO} (h : H a = some o) (h' : H b = none) : a ≠ b := by
  intro e; subst e; rw [h] at h'; cases h'
section
variable (P : Program) (w : World)
def ObjOk (H : Hp) (h : Heap) (a : Addr) : HO → Prop
  | .lst xs => xs.length ≤ sizeLine ∧ ∃ (its : List Value) (n : Nat), Vals xs its ∧ h.get? a = some { cls := .type "list", data := .seq its.toArray n }
  | .tup xs => xs.length ≤ sizeLine ∧ ∃ its : List Value, Vals xs its ∧ IsTup h a its.toArray
  | .dK kvs => kvs.length ≤ sizeLine ∧ (a == sysModules) = false ∧ ∃ vs, KV kvs vs ∧ h.DictOf (mixKind P w) a vs
  | .dT kvs => kvs.length ≤ sizeLine ∧ (a == sysModules) = false ∧ ∃ xs : List (List Key × Addr × Value),
      Paired (fun (p : List Key × V) (q : List Key × Addr × Value) => p.1 = q.1 ∧ H q.2.1 = some (.tup (p.1.map kV)) ∧ RelV p.2 q.2.2) kvs xs ∧
      ∃ o es ep, h.get? a = some o ∧ o.ExactDict ∧ o.data = .dict es ep ∧ es.toList = xs.map (entryOfKey (tupleKind (mixKind P w))) ∧ (xs.map (·.1)).Nodup
  | .set S n => h.SetOf (intKind P w) a S n
  | .ins C dx fs => H dx = some (.own a) ∧ fs.length ≤ 1000 ∧ dx ≠ a ∧ h.get? a = some (PySem.W.instObj C dx) ∧
      ∃ mA, h.Ns1 dx mA ∧ (∀ f, RelO (fs.lookup f) (mA f)) ∧ PySem.Within mA (fs.map (·.1))
  | .own _ => ∃ o, h.get? a = some o
  | .xd fs => ∃ mA, h.Ns1 a mA ∧ ∀ f, RelO (fs.lookup f) (mA f)
  | .rng lo hi => ∃ t u v, h.get? a = some { cls := .type "range", data := .fields #[.int lo t, .int hi u, .int 1 v] }
  | .frz o u => h.get? a = some o ∧ ObjOk H h a u
  | .tbl ps => h.get? a = some { cls := .none, data := .fields ps }
  | .met f x => h.get? a = some (PySem.W.methodObj (.ref f) (.ref x))
  | .ext φ => φ h ∧ (∃ o, h.get? a = some o) ∧ ∀ h1 h2 : Heap, φ h1 → (∀ o, h1.get? a = some o → h2.get? a = some o) → φ h2
def HOk (H : Hp) (h : Heap) : Prop := ∀ a o, H a = some o → ObjOk P w H h a o
end
section
variable {P : Program} {w : World} {H H' : Hp} {h h' : Heap} {a : Addr} {o : HO}
theorem ObjOk.lt (x : ObjOk P w H h a o) : a < h.objs.size := by
  cases o with
  | lst xs => obtain ⟨_, _, _, _, e⟩ := x; exact Heap.lt_size e
  | tup xs => obtain ⟨_, _, _, p⟩ := x; exact p.lt
  | dK kvs => obtain ⟨_, _, _, _, o, _, _, e, _⟩ := x; exact Heap.lt_size e
  | dT kvs => obtain ⟨_, _, _, _, o, _, _, e, _⟩ := x; exact Heap.lt_size e
  | set S n => obtain ⟨o, _, _, _, e, _⟩ := x; exact Heap.lt_size e
  | ins C dx fs => obtain ⟨_, _, _, e, _⟩ := x; exact Heap.lt_size e
  | own y => obtain ⟨_, e⟩ := x; exact Heap.lt_size e
  | xd fs => obtain ⟨_, ⟨_, _, _, e, _⟩, _⟩ := x; exact Heap.lt_size e
  | rng lo hi => obtain ⟨_, _, _, e⟩ := x; exact Heap.lt_size e
  | frz ob u => obtain ⟨e, _⟩ := x; exact Heap.lt_size e
  | tbl ps => exact Heap.lt_size (show h.get? a = some _ from x)
  | met f y => exact Heap.lt_size (show h.get? a = some _ from x)
  | ext φ => obtain ⟨_, ⟨_, e⟩, _⟩ := x; exact Heap.lt_size e
theorem Paired.mapP {α β : Type} {F G : α → β → Prop} : ∀ {l₁ : List α} {l₂ : List β}, Paired F l₁ l₂ → (∀ a b, F a b → G a b) → Paired G l₁ l₂
  | _, _, .nil, _ => .nil
  | _, _, .cons r t, f => .cons (f _ _ r) (Paired.mapP t f)
theorem ObjOk.stay (x : ObjOk P w H h a o) (k : ∀ b u, (b = a ∨ H b = some (.own a)) → h.get? b = some u → h'.get? b = some u)
    (ho : ∀ b, H b = some (.own a) → H' b = some (.own a)) (ht : ∀ b xs, H b = some (.tup xs) → H' b = some (.tup xs)) : ObjOk P w H' h' a o := by
  induction o with
  | lst xs => obtain ⟨z, its, n, r, e⟩ := x; exact ⟨z, its, n, r, k _ _ (.inl rfl) e⟩
  | tup xs => obtain ⟨z, its, r, ob, e, c⟩ := x; exact ⟨z, its, r, ob, k _ _ (.inl rfl) e, c⟩
  | dK kvs => obtain ⟨z, y, vs, r, ob, es, ep, e, c⟩ := x; exact ⟨z, y, vs, r, ob, es, ep, k _ _ (.inl rfl) e, c⟩
  | dT kvs =>
    obtain ⟨z, y, xs, r, ob, es, ep, e, c⟩ := x
    exact ⟨z, y, xs, Paired.mapP r fun p q z => ⟨z.1, ht _ _ z.2.1, z.2.2⟩, ob, es, ep, k _ _ (.inl rfl) e, c⟩
  | set S n => obtain ⟨ob, es, ep, t, e, c⟩ := x; exact ⟨ob, es, ep, t, k _ _ (.inl rfl) e, c⟩
  | ins C dx fs =>
    obtain ⟨d, z, ne, e, mA, ⟨od, es, ep, e2, c⟩, r⟩ := x
    exact ⟨ho _ d, z, ne, k _ _ (.inl rfl) e, mA, ⟨od, es, ep, k _ _ (.inr d) e2, c⟩, r⟩
  | own y => obtain ⟨ob, e⟩ := x; exact ⟨ob, k _ _ (.inl rfl) e⟩
  | xd fs => obtain ⟨mA, ⟨od, es, ep, e, c⟩, r⟩ := x; exact ⟨mA, ⟨od, es, ep, k _ _ (.inl rfl) e, c⟩, r⟩
  | rng lo hi => obtain ⟨t, u, v, e⟩ := x; exact ⟨t, u, v, k _ _ (.inl rfl) e⟩
  | frz ob u ih => obtain ⟨e, q⟩ := x; exact ⟨k _ _ (.inl rfl) e, ih q⟩
  | tbl ps =>
    have e : h.get? a = some { cls := .none, data := .fields ps } := x
    show h'.get? a = some { cls := .none, data := .fields ps }
    exact k a _ (.inl rfl) e
  | met f y =>
    have e : h.get? a = some (PySem.W.methodObj (.ref f) (.ref y)) := x
    show h'.get? a = some (PySem.W.methodObj (.ref f) (.ref y))
    exact k a _ (.inl rfl) e
  | ext φ => obtain ⟨p, ⟨o, e⟩, st⟩ := x; exact ⟨st _ _ p fun o q => k _ _ (.inl rfl) q, ⟨o, k _ _ (.inl rfl) e⟩, st⟩
theorem HOk.lt (x : HOk P w H h) (e : H a = some o) : a < h.objs.size := (x a o e).lt
theorem HOk.fresh (x : HOk P w H h) (e : h.objs.size ≤ a) : H a = none := by
  cases q : H a with
  | none => rfl
  | some u => exact absurd (Nat.lt_of_lt_of_le (x.lt q) e) (Nat.lt_irrefl _)
theorem HOk.kept (x : HOk P w H h) (k : ∀ b u, h.get? b = some u → h'.get? b = some u) : HOk P w H h' := fun a o e =>
  (x a o e).stay (fun b u _ q => k b u q) (fun _ q => q) fun _ _ q => q
theorem HOk.laid (x : HOk P w H h) (k : ∀ b u, h.get? b = some u → h'.get? b = some u) (hp : h.objs.size ≤ a) (new : ObjOk P w (upd H a o) h' a o) : HOk P w (upd H a o) h' := fun b u e => by
  have hn := x.fresh hp
  by_cases hb : b = a
  · subst hb; rw [upd_same] at e; cases e; exact new
  · rw [upd_ne hb] at e
    exact (x b u e).stay (fun c v _ q => k c v q) (fun c q => by rw [upd_ne (ne_of_none q hn)]; exact q) fun c xs q => by rw [upd_ne (ne_of_none q hn)]; exact q
end
def Rd (H : Hp) (a : Addr) (u : HO) : Prop := H a = some u ∨ ∃ o, H a = some (.frz o u)
theorem Rd.of {H : Hp} {a : Addr} {u : HO} (h : H a = some u) : Rd H a u := .inl h
theorem Rd.ok {P : Program} {w : World} {H : Hp} {h : Heap} {a : Addr} {u : HO} (r : Rd H a u) (x : HOk P w H h) : ObjOk P w H h a u := by
  rcases r with r | ⟨o, r⟩
  · exact x a u r
  · obtain ⟨_, q⟩ := x a _ r
    exact q
def Mut : Option HO → Prop
  | some (.lst _) => True
  | some (.dK _) => True
  | some (.dT _) => True
  | some (.set _ _) => True
  | some (.ins _ _ _) => True
  | some (.ext _) => True
  | _ => False
section
variable {P : Program} {w : World} {H : Hp} {h h' : Heap} {x e : Addr} {o' : HO}
theorem HOk.write (ok : HOk P w H h) (mu : Mut (H x)) (he : e = x ∨ H e = some (.own x)) (k : ∀ b u, b ≠ e → h.get? b = some u → h'.get? b = some u) (heo : ∃ u, h'.get? e = some u)
    (new : ObjOk P w (upd H x o') h' x o') : HOk P w (upd H x o') h' := fun b u q => by
  have nown : ∀ c y, H c = some (.own y) → c ≠ x := fun c y r z => by subst z; rw [r] at mu; exact mu
  have ntup : ∀ c xs, H c = some (.tup xs) → c ≠ x := fun c xs r z => by subst z; rw [r] at mu; exact mu
  by_cases hb : b = x
  · subst hb; rw [upd_same] at q; cases q; exact new
  · rw [upd_ne hb] at q
    by_cases hbe : b = e
    · have q' : H b = some (.own x) := by
        rcases he with z | z
        · exact absurd (hbe.trans z) hb
        · rw [hbe]; exact z
      rw [q] at q'; cases q'
      obtain ⟨v, hv⟩ := heo
      exact ⟨v, by rw [hbe]; exact hv⟩
    · refine (ok b u q).stay (fun c v hc r => k c v ?_ r) (fun c r => by rw [upd_ne (nown c b r)]; exact r) fun c xs r => by rw [upd_ne (ntup c xs r)]; exact r
      rcases hc with rfl | hc
      · exact hbe
      · rintro rfl
        rcases he with z | z
        · exact nown c b hc z
        · rw [hc] at z; cases z; exact hb rfl
end
structure Un (fs ex : List Addr) (H H' : Hp) (h h' : Heap) : Prop where
  keep : ∀ b o, h.get? b = some o → H b = none → b ∉ fs → b ∉ ex → h'.get? b = some o
  slot : ∀ b o, h.get? b = some o → H b = none → b ∈ fs → b ∉ ex → ∃ sl, h'.get? b = some { o with slots := sl }
  free : ∀ b o, h.get? b = some o → H b = none → b ∉ ex → H' b = none
  there : ∀ b o, h.get? b = some o → b ∉ ex → ∃ o', h'.get? b = some o'
  tups : ∀ b xs, H b = some (.tup xs) → H' b = some (.tup xs)
  frzs : ∀ b o u, H b = some (.frz o u) → H' b = some (.frz o u)
  tbls : ∀ b ps, H b = some (.tbl ps) → ∃ more, H' b = some (.tbl (ps ++ more))
section
variable {fs fs' ex ex' : List Addr} {H H1 H2 : Hp} {h h1 h2 h' : Heap} {a x e : Addr} {o : HO}
theorem Un.any (u : Un fs ex H H1 h h1) {b : Addr} {ob : Obj} (q : h.get? b = some ob) (n : H b = none) (hx : b ∉ ex) : ∃ sl, h1.get? b = some { ob with slots := sl } := by
  by_cases hb : b ∈ fs
  · exact u.slot b ob q n hb hx
  · exact ⟨ob.slots, u.keep b ob q n hb hx⟩
theorem Un.trans (a : Un fs ex H H1 h h1) (b : Un fs ex H1 H2 h1 h2) : Un fs ex H H2 h h2 where
  keep := fun c ob q n hc hx => b.keep c ob (a.keep c ob q n hc hx) (a.free c ob q n hx) hc hx
  slot := fun c ob q n hc hx => by
    obtain ⟨sl, e1⟩ := a.slot c ob q n hc hx
    obtain ⟨sl', e2⟩ := b.slot c _ e1 (a.free c ob q n hx) hc hx
    exact ⟨sl', e2⟩
  free := fun c ob q n hx => by
    obtain ⟨o', e1⟩ := a.there c ob q hx
    exact b.free c o' e1 (a.free c ob q n hx) hx
  there := fun c ob q hx => by
    obtain ⟨o', e1⟩ := a.there c ob q hx
    exact b.there c o' e1 hx
  tups := fun c xs q => b.tups c xs (a.tups c xs q)
  frzs := fun c ob xs q => b.frzs c ob xs (a.frzs c ob xs q)
  tbls := fun c ps q => by
    obtain ⟨m1, e1⟩ := a.tbls c ps q
    obtain ⟨m2, e2⟩ := b.tbls c _ e1
    exact ⟨m1 ++ m2, by rw [e2, Array.append_assoc]⟩
theorem Un.kept (k : ∀ b u, h.get? b = some u → h'.get? b = some u) : Un fs ex H H h h' :=
  ⟨fun b ob q _ _ _ => k b ob q, fun b ob q _ _ _ => ⟨ob.slots, k b ob q⟩, fun _ _ _ n _ => n, fun b ob q _ => ⟨ob, k b ob q⟩, fun _ _ q => q, fun _ _ _ q => q, fun _ ps q => ⟨#[], by rw [q]; simp⟩⟩
theorem Un.refl : Un fs ex H H h h := Un.kept fun _ _ q => q
theorem Un.laid (k : ∀ b u, h.get? b = some u → h'.get? b = some u) (hp : h.objs.size ≤ a) (hn : H a = none) : Un fs ex H (upd H a o) h h' where
  keep := fun b u q _ _ _ => k b u q
  slot := fun b u q _ _ _ => ⟨u.slots, k b u q⟩
  free := fun b u q n _ => by rw [upd_ne (Nat.ne_of_lt (Nat.lt_of_lt_of_le (Heap.lt_size q) hp))]; exact n
  there := fun b u q _ => ⟨u, k b u q⟩
  tups := fun b xs q => by rw [upd_ne (ne_of_none q hn)]; exact q
  frzs := fun b u xs q => by rw [upd_ne (ne_of_none q hn)]; exact q
  tbls := fun b ps q => ⟨#[], by rw [upd_ne (ne_of_none q hn), q]; simp⟩
theorem Un.write (mu : Mut (H x)) (he : e = x ∨ H e = some (.own x)) (k : ∀ b u, b ≠ e → h.get? b = some u → h'.get? b = some u) (heo : ∃ u, h'.get? e = some u) : Un fs ex H (upd H x o) h h' := by
  have hx : ∀ b, H b = none → b ≠ x := fun b n z => by subst z; rw [n] at mu; exact mu
  have hb : ∀ b, H b = none → b ≠ e := fun b n z => by
    subst z
    rcases he with r | r
    · exact hx b n r
    · rw [n] at r; cases r
  have hm : ∀ b u, H b = some u → ¬ Mut (some u) → b ≠ x := fun b u q nm z => by subst z; rw [q] at mu; exact nm mu
  refine ⟨fun b u q n _ _ => k b u (hb b n) q, fun b u q n _ _ => ⟨u.slots, k b u (hb b n) q⟩, fun b u q n _ => by rw [upd_ne (hx b n)]; exact n, fun b u q _ => ?_,
    fun b xs q => by rw [upd_ne (hm b _ q fun z => z)]; exact q, fun b u xs q => by rw [upd_ne (hm b _ q fun z => z)]; exact q, fun b ps q => ⟨#[], by rw [upd_ne (hm b _ q fun z => z), q]; simp⟩⟩
  by_cases hbe : b = e
  · subst hbe; exact heo
  · exact ⟨u, k b u hbe q⟩
theorem Un.mono (u : Un fs ex H H1 h h1) (hs : ∀ b ∈ fs, b ∈ fs') (hx : ∀ b ∈ ex, b ∈ ex') : Un fs' ex' H H1 h h1 :=
  ⟨fun b ob q n hb he => u.keep b ob q n (fun z => hb (hs b z)) fun z => he (hx b z), fun _ _ q n _ he => u.any q n fun z => he (hx _ z), fun b ob q n he => u.free b ob q n fun z => he (hx b z), fun b ob q he => u.there b ob q fun z => he (hx b z), u.tups, u.frzs, u.tbls⟩
end
def trk (h : Heap) (H : Hp) : List Addr := (List.range h.objs.size).filter fun a => (H a).isSome
def hidT (h : Heap) (H : Hp) : Heap := PySem.W.hideAll h (trk h H)
theorem hidT_size (h : Heap) (H : Hp) : (hidT h H).objs.size = h.objs.size := PySem.W.hideAll_size _ _
theorem hidT_get {h : Heap} {H : Hp} {b : Addr} {o : Obj} (e : h.get? b = some o) (n : H b = none) : (hidT h H).get? b = some o :=
  PySem.W.hideAll_get _ e fun hm => by
    have q : (H b).isSome = true := (List.mem_filter.mp hm).2
    rw [n] at q; simp at q
theorem of_hidT {h : Heap} {H : Hp} {b : Addr} {o : Obj} (e : (hidT h H).get? b = some o) : h.get? b = some o ∧ H b = none := by
  have e' : h.get? b = some o := PySem.W.of_hideAll (trk h H) e
  refine ⟨e', ?_⟩
  cases q : H b with
  | none => rfl
  | some x =>
    have hm : b ∈ trk h H := List.mem_filter.mpr ⟨List.mem_range.mpr (Heap.lt_size e'), by simp [q]⟩
    have z : (hidT h H).get? b = none := PySem.W.hideAll_none (trk h H) hm
    rw [z] at e; cases e
def allNews (g h : Heap) (L : Addr) : List (Addr × Obj) := (List.range h.objs.size).filterMap fun a => if a = L ∨ (g.get? a).isSome = true then none else (h.get? a).map fun o => (a, o)
def rest (g h : Heap) (L d : Addr) : List (Addr × Obj) := (allNews g h L).filter fun p => decide (p.1 ≠ d)
end L2
namespace L2
open PySem PySem.Spec PyProof.Rows
structure Mod (K : PySem.W.Frag) (mg : Str → Option Value) (base : Heap) : Prop where
  kin : K.In base
  glob : base.Ns mainGlobals mg
  blt : ∃ mb, base.Ns builtinsNs mb ∧ ∀ x : Str, x ≠ "__name__" → mb x = bootBuiltins x
  nolimit : base.NoLimit
structure Cx where
  prog : Program
  w : World
  K : PySem.W.Frag
  mg : Str → Option Value
  base : Heap
  A : Around
  N : List Str
  s_0 : Shared
  H_0 : Hp
  env : Env
  outer : List Env
  stack : List Env
  ex : List Addr
  fn : Str → Bool
  calm : Bool
  pn : List (Addr × Obj)
  xe : Value → Shared → Prop
def frs (l : List Env) : List Addr := l.filterMap (·.frame)
abbrev Cx.fs (X : Cx) : List Addr := frs X.outer
def Vis (sc : Scope) (x : Str) : Prop := sc.names.lookup x = some .local ∨ sc.names.lookup x = some .cell ∨ sc.names.lookup x = some .free
def Loc (sc : Scope) (x : Str) : Prop := sc.names.lookup x = some .local ∨ sc.names.lookup x = some .cell
def Look (env : Env) (h : Heap) (m : Str → Option Value) (x : Str) (u : Value) : Prop :=
  (env.kindOf x = some .local ∧ m x = some u) ∨ ((env.kindOf x = some .cell ∨ env.kindOf x = some .free) ∧ ∃ c, env.cells.lookup x = some c ∧ h.IsCell c (some u))
structure Cx.Ok (X : Cx) : Prop where
  mod : Mod X.K X.mg X.base
  kind : X.env.scope.kind = .function
  glob : X.env.globals = mainGlobals
  blt : X.env.builtins = builtinsNs
  above : X.s_0.heap.objs.size ≤ X.env.locals
  inj : ∀ x y c, X.env.cells.lookup x = some c → X.env.cells.lookup y = some c → x = y
  has : ∀ x, (X.env.kindOf x = some .cell ∨ X.env.kindOf x = some .free) → ∃ c, X.env.cells.lookup x = some c
  cab : ∀ x c, X.fn x = true → X.env.cells.lookup x = some c → X.s_0.heap.objs.size ≤ c
  hd : X.calm = true → X.A.handled = none
  frames : X.A.frames = some X.stack
  stk : X.stack = X.outer ∨ (X.stack = X.env :: X.outer ∧ X.env.frame = some X.env.locals)
  exf : ∀ b ∈ X.ex, b ≠ X.env.locals ∧ ∀ x c, X.env.cells.lookup x = some c → c ≠ b
  bs : ∀ b o, X.base.get? b = some o → X.s_0.heap.get? b = some o ∧ X.H_0 b = none
  bsz : X.base.objs.size ≤ X.s_0.heap.objs.size
  noex : ∀ b o, X.base.get? b = some o → b ∉ X.ex
  exfs : ∀ b ∈ X.ex, b ∉ X.fs
  funs : X.s_0.heap.FunFrames X.base X.outer
  frf : ∀ b ∈ X.fs, X.H_0 b = none
structure Inv (X : Cx) (pins : List (Addr × Obj)) (σ : List (Option V)) (H : Hp) (s : Shared) : Prop where
  ok : X.Ok
  os : s.os = X.s_0.os
  bare : AllBare s.gens
  base : Un X.fs X.ex X.H_0 H X.s_0.heap s.heap
  loc : ∃ m, s.heap.Ns X.env.locals m ∧ ∀ (i : Nat) (x : Str) (v : V), X.N[i]? = some x → σ[i]? = some (some v) → Vis X.env.scope x → ∃ u, RelV v u ∧ Look X.env s.heap m x u
  cell : ∀ x c, X.env.cells.lookup x = some c → ∃ v, s.heap.IsCell c v
  free : H X.env.locals = none
  freeC : ∀ x c, X.env.cells.lookup x = some c → H c = none
  pin : ∀ p ∈ X.pn ++ pins, s.heap.get? p.1 = some p.2 ∧ H p.1 = none ∧ p.1 ≠ X.env.locals ∧ p.1 ∉ X.fs ∧ ∀ v, p.2.data ≠ .cell v
  hok : HOk X.prog X.w H s.heap
  len : σ.length = X.N.length
section
variable {X : Cx} {pins : List (Addr × Obj)} {σ : List (Option V)} {H H' : Hp} {s : Shared} {h' : Heap}
theorem Cx.Ok.nofr (ok : X.Ok) {b : Addr} {o : Obj} (e : X.base.get? b = some o) : b ∉ X.fs := fun hb => by
  have := (ok.funs.mem hb).1
  rw [e] at this; cases this
theorem Inv.bs (I : Inv X pins σ H s) : ∀ b o, X.base.get? b = some o → s.heap.get? b = some o ∧ H b = none := fun b o e =>
  ⟨I.base.keep b o (I.ok.bs b o e).1 (I.ok.bs b o e).2 (I.ok.nofr e) (I.ok.noex b o e), I.base.free b o (I.ok.bs b o e).1 (I.ok.bs b o e).2 (I.ok.noex b o e)⟩
theorem Inv.bk (I : Inv X pins σ H s) : ∀ b o, X.base.get? b = some o → s.heap.get? b = some o := fun b o e => (I.bs b o e).1
theorem Inv.mod (I : Inv X pins σ H s) : Mod X.K X.mg X.base := I.ok.mod
theorem Inv.kIn (I : Inv X pins σ H s) : X.K.In s.heap := I.ok.mod.kin.keeps I.bk
theorem Inv.nolimit (I : Inv X pins σ H s) : s.heap.NoLimit := I.ok.mod.nolimit.keeps I.bk
theorem Inv.fr (I : Inv X pins σ H s) : ∃ m, Fr X.base X.env.locals s.heap m :=
  let ⟨m, hn, _⟩ := I.loc
  ⟨m, hn, I.bk, Nat.le_trans I.ok.bsz I.ok.above⟩
theorem Inv.lt (I : Inv X pins σ H s) : X.env.locals < s.heap.objs.size := let ⟨_, hn, _⟩ := I.loc; hn.lt
theorem Inv.sz (I : Inv X pins σ H s) : X.s_0.heap.objs.size ≤ s.heap.objs.size := Nat.le_trans I.ok.above (Nat.le_of_lt I.lt)
theorem Inv.nofs (I : Inv X pins σ H s) {a : Addr} (h : s.heap.objs.size ≤ a) : a ∉ X.fs := fun hb => by
  obtain ⟨_, o, ho, _⟩ := I.ok.funs.mem hb
  exact absurd (Nat.lt_of_lt_of_le (Heap.lt_size ho) (Nat.le_trans I.sz h)) (Nat.lt_irrefl _)
theorem Inv.cne (I : Inv X pins σ H s) : ∀ x c, X.env.cells.lookup x = some c → c ≠ X.env.locals := fun x c e z => by
  obtain ⟨v, o, ho, hd⟩ := I.cell x c e
  obtain ⟨m, ⟨o', es, ep, ho', hd', _⟩, _⟩ := I.loc
  rw [z, ho'] at ho; cases ho; rw [hd'] at hd; cases hd
theorem Inv.funs (I : Inv X pins σ H s) : s.heap.FunFrames X.base X.outer := by
  have all : ∀ (l : List Env), (∀ b ∈ frs l, b ∈ X.fs) → X.s_0.heap.FunFrames X.base l → s.heap.FunFrames X.base l := by
    intro l
    induction l with
    | nil => intro _ _; trivial
    | cons env r ih =>
      intro hs hl
      obtain ⟨hk, ⟨L, o, hf, hn, ho, hd⟩, hr⟩ := hl
      have hL : L ∈ X.fs := hs L (by unfold frs; rw [List.filterMap_cons, hf]; exact List.mem_cons_self)
      obtain ⟨sl, e⟩ := I.base.slot L o ho (I.ok.frf L hL) hL fun z => I.ok.exfs L z hL
      exact ⟨hk, ⟨L, _, hf, hn, e, hd⟩, ih (fun b hb => hs b (by unfold frs; rw [List.filterMap_cons, hf]; exact List.mem_cons_of_mem _ hb)) hr⟩
  exact all X.outer (fun _ hb => hb) I.ok.funs
theorem Inv.stack (I : Inv X pins σ H s) : s.heap.FunFrames X.base X.stack := by
  rcases I.ok.stk with e | ⟨e, hf⟩
  · rw [e]; exact I.funs
  · rw [e]
    obtain ⟨m, hn, _⟩ := I.loc
    refine .cons (by rw [I.ok.kind]; decide) hf hn ?_ I.funs
    exact Heap.get?_none_of_le (Nat.le_trans I.ok.bsz I.ok.above)
theorem Inv.stkSub (I : Inv X pins σ H s) : ∀ b ∈ frs X.stack, b ∈ X.env.locals :: X.fs := fun b hb => by
  rcases I.ok.stk with e | ⟨e, hf⟩
  · rw [e] at hb; exact List.mem_cons_of_mem _ hb
  · rw [e] at hb
    unfold frs at hb
    rw [List.filterMap_cons, hf] at hb
    exact hb
theorem Inv.stkFree (I : Inv X pins σ H s) : ∀ b ∈ frs X.stack, H b = none := fun b hb => by
  rcases List.mem_cons.mp (I.stkSub b hb) with e | hb
  · rw [e]; exact I.free
  · obtain ⟨_, o, ho, _⟩ := I.ok.funs.mem hb
    exact I.base.free b o ho (I.ok.frf b hb) fun z => I.ok.exfs b z hb
theorem Inv.step {g' : Array GenState} {t' : Nat} {d' : Drawn} {ch : List Addr} (I : Inv X pins σ H s)
    (hch : ∀ b ∈ ch, (b ∈ X.ex ∨ X.s_0.heap.objs.size ≤ b) ∧ b ≠ X.env.locals ∧ (∀ x c, X.env.cells.lookup x = some c → c ≠ b) ∧ ∀ p ∈ X.pn ++ pins, p.1 ≠ b)
    (keep : ∀ b o, b ≠ X.env.locals → b ∉ X.fs → b ∉ ch → s.heap.get? b = some o → H b = none → h'.get? b = some o)
    (slot : ∀ b o, b ≠ X.env.locals → b ∈ X.fs → b ∉ ch → s.heap.get? b = some o → H b = none → ∃ sl, h'.get? b = some { o with slots := sl }) (free : ∀ b o, b ∉ ch → s.heap.get? b = some o → H b = none → H' b = none)
    (there : ∀ b o, b ∉ ch → s.heap.get? b = some o → ∃ o', h'.get? b = some o')
    (tups : ∀ b xs, H b = some (.tup xs) → H' b = some (.tup xs)) (frzs : ∀ b o u, H b = some (.frz o u) → H' b = some (.frz o u)) (tbls : ∀ b ps, H b = some (.tbl ps) → ∃ more, H' b = some (.tbl (ps ++ more)))
    (ns : ∀ m, s.heap.Ns X.env.locals m → h'.Ns X.env.locals m) (hok : HOk X.prog X.w H' h') (hg : AllBare g') :
    Inv X pins σ H' { s with heap := h', gens := g', drawn := d', toks := t' } := by
  have neL : ∀ b o, X.s_0.heap.get? b = some o → b ≠ X.env.locals := fun b o e => Nat.ne_of_lt (Nat.lt_of_lt_of_le (Heap.lt_size e) I.ok.above)
  have neC : ∀ b o, X.s_0.heap.get? b = some o → b ∉ X.ex → b ∉ ch := fun b o e hx hb => by
    rcases (hch b hb).1 with z | z
    · exact hx z
    · exact absurd (Nat.lt_of_lt_of_le (Heap.lt_size e) z) (Nat.lt_irrefl _)
  have cellK : ∀ x c, X.env.cells.lookup x = some c → ∀ v, s.heap.IsCell c v → h'.IsCell c v := fun x c e v ⟨o, ho, hd⟩ => by
    have nch : c ∉ ch := fun z => (hch c z).2.2.1 x c e rfl
    by_cases hc : c ∈ X.fs
    · obtain ⟨sl, q⟩ := slot c o (I.cne x c e) hc nch ho (I.freeC x c e)
      exact ⟨_, q, hd⟩
    · exact ⟨o, keep c o (I.cne x c e) hc nch ho (I.freeC x c e), hd⟩
  refine ⟨I.ok, I.os, hg, ⟨fun b o e n hb hx => ?_, fun b o e n hb hx => ?_, fun b o e n hx => ?_, fun b o e hx => ?_, fun b xs e => tups b xs (I.base.tups b xs e), fun b o xs e => frzs b o xs (I.base.frzs b o xs e), fun b ps e => ?_⟩, ?_, fun x c e => ?_, ?_, fun x c e => ?_, fun p hp => ?_, hok, I.len⟩
  · exact keep b o (neL b o e) hb (neC b o e hx) (I.base.keep b o e n hb hx) (I.base.free b o e n hx)
  · obtain ⟨sl, e1⟩ := I.base.slot b o e n hb hx
    obtain ⟨sl', e2⟩ := slot b _ (neL b o e) hb (neC b o e hx) e1 (I.base.free b o e n hx)
    exact ⟨sl', e2⟩
  · obtain ⟨o', e1⟩ := I.base.there b o e hx
    exact free b o' (neC b o e hx) e1 (I.base.free b o e n hx)
  · obtain ⟨o', e1⟩ := I.base.there b o e hx
    exact there b o' (neC b o e hx) e1
  · obtain ⟨m1, e1⟩ := I.base.tbls b ps e
    obtain ⟨m2, e2⟩ := tbls b _ e1
    exact ⟨m1 ++ m2, by rw [e2, Array.append_assoc]⟩
  · obtain ⟨m, hn, hl⟩ := I.loc
    refine ⟨m, ns m hn, fun i x v e1 e2 e3 => ?_⟩
    obtain ⟨u, r, l⟩ := hl i x v e1 e2 e3
    refine ⟨u, r, ?_⟩
    rcases l with l | ⟨k, c, e, z⟩
    · exact .inl l
    · exact .inr ⟨k, c, e, cellK x c e _ z⟩
  · obtain ⟨v, z⟩ := I.cell x c e
    exact ⟨v, cellK x c e v z⟩
  · obtain ⟨m, ⟨o, _, _, ho, _⟩, _⟩ := I.loc
    exact free _ o (fun z => (hch _ z).2.1 rfl) ho I.free
  · obtain ⟨v, o, ho, hd⟩ := I.cell x c e
    exact free c o (fun z => (hch c z).2.2.1 x c e rfl) ho (I.freeC x c e)
  · obtain ⟨e, n, ne, nf, d⟩ := I.pin p hp
    have nch : p.1 ∉ ch := fun z => (hch p.1 z).2.2.2 p hp rfl
    exact ⟨keep p.1 p.2 ne nf nch e n, free p.1 p.2 nch e n, ne, nf, d⟩
theorem Inv.un {t' : Nat} (I : Inv X pins σ H s) (u : Un X.fs [] H H' s.heap h') (hok : HOk X.prog X.w H' h') : Inv X pins σ H' { s with heap := h', toks := t' } := by
  obtain ⟨m, ⟨o, es, ep, ho, r⟩, _⟩ := id I.loc
  obtain ⟨sl, hL⟩ := u.any ho I.free (by simp)
  exact I.step (g' := s.gens) (d' := s.drawn) (ch := []) (fun _ z => nomatch z) (fun b o _ hb _ e n => u.keep b o e n hb (by simp)) (fun b o _ hb _ e n => u.slot b o e n hb (by simp)) (fun b o _ e n => u.free b o e n (by simp)) (fun b o _ e => u.there b o e (by simp)) u.tups u.frzs u.tbls (fun m' hm => by
    obtain ⟨o', es', ep', ho', r'⟩ := hm
    rw [ho] at ho'; cases ho'
    exact ⟨_, es', ep', hL, r'⟩) hok I.bare
theorem Inv.call {g' : Array GenState} {t' : Nat} {d' : Drawn} {ch : List Addr} (I : Inv X pins σ H s) (u : Un (frs X.stack) ch H H' s.heap h') (hok : HOk X.prog X.w H' h') (hg : AllBare g')
    (hch : ∀ b ∈ ch, (b ∈ X.ex ∨ X.s_0.heap.objs.size ≤ b) ∧ b ≠ X.env.locals ∧ (∀ x c, X.env.cells.lookup x = some c → c ≠ b) ∧ ∀ p ∈ X.pn ++ pins, p.1 ≠ b) :
    Inv X pins σ H' { s with heap := h', gens := g', drawn := d', toks := t' } := by
  obtain ⟨m, ⟨o, es, ep, ho, r⟩, _⟩ := id I.loc
  obtain ⟨sl, hL⟩ := u.any ho I.free fun z => (hch _ z).2.1 rfl
  exact I.step (ch := ch) hch (fun b o hL hb hc e n => u.keep b o e n (fun z => (List.mem_cons.mp (I.stkSub b z)).elim hL hb) hc) (fun b o _ _ hc e n => u.any e n hc) (fun b o hc e n => u.free b o e n hc) (fun b o hc e => u.there b o e hc) u.tups u.frzs u.tbls (fun m' hm => by
    obtain ⟨o', es', ep', ho', r'⟩ := hm
    rw [ho] at ho'; cases ho'
    exact ⟨_, es', ep', hL, r'⟩) hok hg
theorem Inv.turned {t' : Nat} {it : Addr} (I : Inv X pins σ H s) (k : ∀ b o, b ≠ it → s.heap.get? b = some o → h'.get? b = some o) (hn : H it = none) (hL : it ≠ X.env.locals)
    (h1 : it ∈ X.ex ∨ X.s_0.heap.objs.size ≤ it) (h2 : ∀ x c, X.env.cells.lookup x = some c → c ≠ it) (h3 : ∀ p ∈ X.pn ++ pins, p.1 ≠ it) : Inv X pins σ H { s with heap := h', toks := t' } := by
  have nit : ∀ b u, H b = some u → b ≠ it := fun b u e z => by rw [z, hn] at e; cases e
  refine I.step (g' := s.gens) (d' := s.drawn) (ch := [it]) (fun b hb => ?_) (fun b o _ _ hc e _ => k b o (fun z => hc (by simp [z])) e) (fun b o _ _ hc e _ => ⟨o.slots, k b o (fun z => hc (by simp [z])) e⟩) (fun _ _ _ _ n => n)
    (fun b o hc e => ⟨o, k b o (fun z => hc (by simp [z])) e⟩) (fun _ _ e => e) (fun _ _ _ e => e) (fun b ps e => ⟨#[], by rw [e]; simp⟩) (fun m hm => ?_) (fun b u e => ?_) I.bare
  · have e : b = it := by simpa using hb
    subst e
    exact ⟨h1, hL, h2, h3⟩
  · obtain ⟨o, es, ep, ho, r⟩ := hm
    exact ⟨o, es, ep, k _ o (Ne.symm hL) ho, r⟩
  · refine (I.hok b u e).stay (fun c v hc q => k c v ?_ q) (fun _ q => q) fun _ _ q => q
    rcases hc with z | z
    · rw [z]; exact nit b u e
    · exact nit c _ z
theorem Inv.tok (I : Inv X pins σ H s) (t : Nat) : Inv X pins σ H { s with toks := t } := I.un (h' := s.heap) (t' := t) Un.refl I.hok
theorem Inv.kept {t' : Nat} (I : Inv X pins σ H s) (k : ∀ b u, s.heap.get? b = some u → h'.get? b = some u) : Inv X pins σ H { s with heap := h', toks := t' } := I.un (Un.kept k) (I.hok.kept k)
theorem Inv.laid {a : Addr} {o : HO} {t' : Nat} (I : Inv X pins σ H s) (k : ∀ b u, s.heap.get? b = some u → h'.get? b = some u) (hp : s.heap.objs.size ≤ a) (new : ObjOk X.prog X.w (upd H a o) h' a o) :
    Inv X pins σ (upd H a o) { s with heap := h', toks := t' } := I.un (Un.laid k hp (I.hok.fresh hp)) (I.hok.laid k hp new)
theorem Inv.write {x e : Addr} {o : HO} {t' : Nat} (I : Inv X pins σ H s) (mu : Mut (H x)) (he : e = x ∨ H e = some (.own x)) (k : ∀ b u, b ≠ e → s.heap.get? b = some u → h'.get? b = some u) (heo : ∃ u, h'.get? e = some u)
    (new : ObjOk X.prog X.w (upd H x o) h' x o) : Inv X pins σ (upd H x o) { s with heap := h', toks := t' } := I.un (Un.write mu he k heo) (I.hok.write mu he k heo new)
theorem Inv.weak {σ' : List (Option V)} (I : Inv X pins σ H s) (hl : σ'.length = σ.length) (w : ∀ (i : Nat) v, σ'[i]? = some (some v) → σ[i]? = some (some v)) : Inv X pins σ' H s :=
  ⟨I.ok, I.os, I.bare, I.base, let ⟨m, hn, hl'⟩ := I.loc; ⟨m, hn, fun i x v e1 e2 e3 => hl' i x v e1 (w i v e2) e3⟩, I.cell, I.free, I.freeC, I.pin, I.hok, hl.trans I.len⟩
theorem Inv.pins_of {pins' : List (Addr × Obj)} (I : Inv X pins σ H s) (h : ∀ p ∈ pins', s.heap.get? p.1 = some p.2 ∧ H p.1 = none ∧ p.1 ≠ X.env.locals ∧ p.1 ∉ X.fs ∧ ∀ v, p.2.data ≠ .cell v) : Inv X pins' σ H s :=
  ⟨I.ok, I.os, I.bare, I.base, I.loc, I.cell, I.free, I.freeC, fun p hp => (List.mem_append.mp hp).elim (fun z => I.pin p (List.mem_append_left _ z)) (h p), I.hok, I.len⟩
theorem nodup_ix {N : List Str} (hN : N.Nodup) {i j : Nat} {x : Str} (a : N[i]? = some x) (b : N[j]? = some x) : i = j := by
  obtain ⟨h1, e1⟩ := List.getElem?_eq_some_iff.mp a
  obtain ⟨h2, e2⟩ := List.getElem?_eq_some_iff.mp b
  exact (List.getElem_inj hN).mp (e1.trans e2.symm)
theorem store_ok2 {M : Model} {A : Around} {E : Value → Shared → Prop} {i : Nat} {x : Str} {v : V} {u : Value} {Q : Unit → Shared → Prop} (I : Inv X pins σ H s) (hN : X.N.Nodup) (hi : X.N[i]? = some x) (hx : Loc X.env.scope x) (r : RelV v u)
    (h : ∀ s', Inv X pins (σ.set i (some v)) H s' → (∃ a, Heap.SameBut a s.heap s'.heap ∧ (a = X.env.locals ∨ X.env.cells.lookup x = some a)) → Q () s') (hf : X.fn x = true ∨ X.env.scope.names.lookup x = some .local := by first | exact .inl rfl | exact .inr rfl | assumption) : wpAny M A (storeName X.env x u) Q E s := by
  obtain ⟨m, hn, hl⟩ := id I.loc
  have hcls : (X.env.scope.kind == .class || (X.env.scope.kind == .module && X.env.locals != X.env.globals)) = false := by rw [I.ok.kind]; rfl
  have hiσ : i < σ.length := by rw [I.len]; exact (List.getElem?_eq_some_iff.mp hi).1
  have cne := I.cne
  have tracked : ∀ {a : Addr} {h' : Heap}, (∃ o, s.heap.get? a = some o ∧ H a = none) → Heap.SameBut a s.heap h' → HOk X.prog X.w H h' := fun {a h'} ha hs b ob e => by
    obtain ⟨_, _, hfree⟩ := ha
    refine (I.hok b ob e).stay (fun c w' hc q => (hs.2 c ?_).trans q) (fun _ q => q) fun _ _ q => q
    rintro rfl
    rcases hc with rfl | hc
    · rw [hfree] at e; cases e
    · rw [hfree] at hc; cases hc
  rcases hx with hk | hk
  · refine wpAny_storeName_local hk hn (fun h' hn' hs => ?_) hcls
    obtain ⟨oL, _, _, hoL, _⟩ := id hn
    refine h _ ⟨I.ok, I.os, I.bare, ⟨fun b o e n hb hx => ?_, fun b o e n hb hx => ?_, I.base.free, fun b o e hx => ?_, I.base.tups, I.base.frzs, I.base.tbls⟩, ⟨_, hn', fun j y v' e1 e2 e3 => ?_⟩, fun y c e => ?_, I.free, I.freeC, fun p hp => ?_, tracked ⟨oL, hoL, I.free⟩ hs, by simpa using I.len⟩ ⟨_, hs, .inl rfl⟩
    · exact (hs.2 b (Nat.ne_of_lt (Nat.lt_of_lt_of_le (Heap.lt_size e) I.ok.above))).trans (I.base.keep b o e n hb hx)
    · obtain ⟨sl, e1⟩ := I.base.slot b o e n hb hx
      exact ⟨sl, (hs.2 b (Nat.ne_of_lt (Nat.lt_of_lt_of_le (Heap.lt_size e) I.ok.above))).trans e1⟩
    · obtain ⟨o', e1⟩ := I.base.there b o e hx
      exact ⟨o', (hs.2 b (Nat.ne_of_lt (Nat.lt_of_lt_of_le (Heap.lt_size e) I.ok.above))).trans e1⟩
    · by_cases hj : j = i
      · subst hj
        rw [hi] at e1; cases e1
        rw [List.getElem?_set_self hiσ] at e2
        cases e2
        exact ⟨u, r, .inl ⟨hk, by simp⟩⟩
      · rw [List.getElem?_set_ne (Ne.symm hj)] at e2
        obtain ⟨u', r', q⟩ := hl j y v' e1 e2 e3
        refine ⟨u', r', ?_⟩
        rcases q with ⟨k, e⟩ | ⟨k, c, e, z⟩
        · refine .inl ⟨k, ?_⟩
          have : y ≠ x := fun e => hj (nodup_ix hN e1 (e ▸ hi))
          simp [this, e]
        · exact .inr ⟨k, c, e, z.sameBut hs (cne y c e)⟩
    · obtain ⟨w', z⟩ := I.cell y c e
      exact ⟨w', z.sameBut hs (cne y c e)⟩
    · obtain ⟨e, n, ne, nf, d⟩ := I.pin p hp
      exact ⟨(hs.2 p.1 ne).trans e, n, ne, nf, d⟩
  · have hfn : X.fn x = true := by
      rcases hf with z | z
      · exact z
      · rw [z] at hk; cases hk
    obtain ⟨c, hc⟩ := I.ok.has x (.inl hk)
    obtain ⟨w', z⟩ := I.cell x c hc
    refine wpAny_storeName_cell I.ok.kind hk hc z (fun h' hc' hs => ?_)
    obtain ⟨oc, hoc, hocd⟩ := id z
    refine h { s with heap := h' } ⟨I.ok, I.os, I.bare, ⟨fun b o e n hb hx => ?_, fun b o e n hb hx => ?_, I.base.free, fun b o e hx => ?_, I.base.tups, I.base.frzs, I.base.tbls⟩, ⟨m, hn.sameBut hs (Ne.symm (cne x c hc)), fun j y v' e1 e2 e3 => ?_⟩, fun y c' e => ?_, I.free, I.freeC, fun p hp => ?_, tracked ⟨oc, hoc, I.freeC x c hc⟩ hs, by simpa using I.len⟩ ⟨c, hs, .inr hc⟩
    · exact (hs.2 b (Nat.ne_of_lt (Nat.lt_of_lt_of_le (Heap.lt_size e) (I.ok.cab x c hfn hc)))).trans (I.base.keep b o e n hb hx)
    · obtain ⟨sl, e1⟩ := I.base.slot b o e n hb hx
      exact ⟨sl, (hs.2 b (Nat.ne_of_lt (Nat.lt_of_lt_of_le (Heap.lt_size e) (I.ok.cab x c hfn hc)))).trans e1⟩
    · obtain ⟨o', e1⟩ := I.base.there b o e hx
      exact ⟨o', (hs.2 b (Nat.ne_of_lt (Nat.lt_of_lt_of_le (Heap.lt_size e) (I.ok.cab x c hfn hc)))).trans e1⟩
    · by_cases hj : j = i
      · subst hj
        rw [hi] at e1; cases e1
        rw [List.getElem?_set_self hiσ] at e2
        cases e2
        exact ⟨u, r, .inr ⟨.inl hk, c, hc, hc'⟩⟩
      · rw [List.getElem?_set_ne (Ne.symm hj)] at e2
        obtain ⟨u', r', q⟩ := hl j y v' e1 e2 e3
        refine ⟨u', r', ?_⟩
        rcases q with q | ⟨k, c', e, z'⟩
        · exact .inl q
        · refine .inr ⟨k, c', e, z'.sameBut hs ?_⟩
          rintro rfl
          exact hj (nodup_ix hN e1 (I.ok.inj _ _ _ e hc ▸ hi))
    · by_cases hcc : c' = c
      · subst hcc; exact ⟨_, hc'⟩
      · obtain ⟨w2, z2⟩ := I.cell y c' e
        exact ⟨w2, z2.sameBut hs hcc⟩
    · obtain ⟨e, n, ne, nf, d⟩ := I.pin p hp
      refine ⟨(hs.2 p.1 ?_).trans e, n, ne, nf, d⟩
      intro q
      rw [q, hoc] at e
      have q' : oc = p.2 := Option.some.inj e
      exact d w' (by rw [← q']; exact hocd)
theorem store_ok {M : Model} {A : Around} {E : Value → Shared → Prop} {i : Nat} {x : Str} {v : V} {u : Value} {Q : Unit → Shared → Prop} (I : Inv X pins σ H s) (hN : X.N.Nodup) (hi : X.N[i]? = some x) (hx : Loc X.env.scope x) (r : RelV v u)
    (h : ∀ s', Inv X pins (σ.set i (some v)) H s' → Q () s') (hf : X.fn x = true ∨ X.env.scope.names.lookup x = some .local := by first | exact .inl rfl | exact .inr rfl | assumption) : wpAny M A (storeName X.env x u) Q E s :=
  store_ok2 I hN hi hx r (fun s' I' _ => h s' I') hf
theorem Inv.call' {s' : Shared} {ch : List Addr} (I : Inv X pins σ H s) (ho : s'.os = s.os) (u : Un (frs X.stack) ch H H' s.heap s'.heap) (hok : HOk X.prog X.w H' s'.heap) (hg : AllBare s'.gens)
    (hch : ∀ b ∈ ch, (b ∈ X.ex ∨ X.s_0.heap.objs.size ≤ b) ∧ b ≠ X.env.locals ∧ (∀ x c, X.env.cells.lookup x = some c → c ≠ b) ∧ ∀ p ∈ X.pn ++ pins, p.1 ≠ b) : Inv X pins σ H' s' := by
  obtain ⟨h', g', d', t', o'⟩ := s'
  have e : o' = s.os := ho
  subst e
  exact I.call (g' := g') (t' := t') (d' := d') u hok hg hch
end
abbrev XK := Value → Option Addr → Hp → Prop
abbrev St := List (Option V)
abbrev VK := V → Hp → Prop
abbrev TE := St → Hp → VK → Prop
abbrev TT := St → Hp → (Bool → Hp → Prop) → Prop
abbrev TA := St → Hp → (List V → Hp → Prop) → Prop
structure Ends where
  nx : St → Hp → Prop
  rt : VK
  bk : St → Hp → Prop := fun _ _ => False
  ct : St → Hp → Prop := fun _ _ => False
abbrev TS := Ends → St → Hp → Prop
def EP (X : Cx) (pins : List (Addr × Obj)) (σ : St) (Q : VK) (u : Value) (s' : Shared) : Prop := ∃ v H', Inv X pins σ H' s' ∧ RelV v u ∧ Q v H'
def TP (X : Cx) (pins : List (Addr × Obj)) (σ : St) (Q : Bool → Hp → Prop) (b : Bool) (s' : Shared) : Prop := ∃ H', Inv X pins σ H' s' ∧ Q b H'
def AP (X : Cx) (pins : List (Addr × Obj)) (σ : St) (Q : List V → Hp → Prop) (us : List Value) (s' : Shared) : Prop := ∃ vs H', Inv X pins σ H' s' ∧ Vals vs us ∧ Q vs H'
def SP (X : Cx) (pins : List (Addr × Obj)) (D : Ends) (f : Flow) (s' : Shared) : Prop :=
  match f with
  | .next => ∃ σ' H', Inv X pins σ' H' s' ∧ D.nx σ' H'
  | .brk => ∃ σ' H', Inv X pins σ' H' s' ∧ D.bk σ' H'
  | .cont => ∃ σ' H', Inv X pins σ' H' s' ∧ D.ct σ' H'
  | .ret u => ∃ v σ' H', Inv X pins σ' H' s' ∧ RelV v u ∧ D.rt v H'
def PE (X : Cx) (e : Expr) (t : TE) : Prop :=
  ∀ (pins : List (Addr × Obj)) (s : Shared) (σ : St) (H : Hp) (Q : VK), Inv X pins σ H s → t σ H Q → wpAny (model X.prog X.w) X.A (eval e X.env) (EP X pins σ Q) X.xe s
def PT (X : Cx) (e : Expr) (t : TT) : Prop :=
  ∀ (pins : List (Addr × Obj)) (s : Shared) (σ : St) (H : Hp) (Q : Bool → Hp → Prop), Inv X pins σ H s → t σ H Q → wpAny (model X.prog X.w) X.A (isTrue e X.env (eval e X.env)) (TP X pins σ Q) X.xe s
def PW (X : Cx) (e : Expr) (t : TT) : Prop :=
  ∀ (whole : Sem Value) (pins : List (Addr × Obj)) (s : Shared) (σ : St) (H : Hp) (Q : Bool → Hp → Prop), Inv X pins σ H s → t σ H Q → wpAny (model X.prog X.w) X.A (isTrue e X.env whole) (TP X pins σ Q) X.xe s
theorem PW.pt {X : Cx} {e : Expr} {t : TT} (h : PW X e t) : PT X e t := h _
def PA (X : Cx) (es : List Expr) (t : TA) : Prop :=
  ∀ (pos : Pos) (pins : List (Addr × Obj)) (s : Shared) (σ : St) (H : Hp) (Q : List V → Hp → Prop), Inv X pins σ H s → t σ H Q → wpAny (model X.prog X.w) X.A (spliced (backTo pos (starEach es X.env))) (AP X pins σ Q) X.xe s
def PS (X : Cx) (st : Stmt) (t : TS) : Prop :=
  ∀ (pins : List (Addr × Obj)) (s : Shared) (σ : St) (H : Hp) (D : Ends), Inv X pins σ H s → t D σ H → wpAny (model X.prog X.w) X.A (exec st X.env) (SP X pins D) X.xe s
def PSs (X : Cx) (st : List Stmt) (t : TS) : Prop :=
  ∀ (pins : List (Addr × Obj)) (s : Shared) (σ : St) (H : Hp) (D : Ends), Inv X pins σ H s → t D σ H → wpAny (model X.prog X.w) X.A (execs st X.env) (SP X pins D) X.xe s
theorem thn {α : Type} {t : Sem α} {Q Q' : α → Shared → Prop} {M : Model} {A : Around} {E : Value → Shared → Prop} {s : Shared} (h : wpAny M A t Q E s) (hQ : ∀ a s, Q a s → Q' a s) : wpAny M A t Q' E s := wpAny_mono h hQ fun _ _ x => x
end L2
namespace L2
open PySem PySem.Spec PyProof.Rows
section
variable {X : Cx}
def tVar (i : Nat) : TE := fun σ H Q => ∃ v, σ[i]? = some (some v) ∧ Q v H
def tC (v : V) : TE := fun _ H Q => Q v H
theorem pe_var {i : Nat} {x : Str} {pos : Pos} (hN : X.N[i]? = some x) (hv : Vis X.env.scope x) (hd : (x == ("__debug__" : Str)) = false := by decide) (hcd : (x == ("__classdict__" : Str)) = false := by decide) : PE X (.Name x pos) (tVar i) := by
  intro pins s σ H Q I h
  obtain ⟨v, e, h⟩ := h
  obtain ⟨m, hn, hl⟩ := I.loc
  obtain ⟨u, r, l⟩ := hl i x v hN e hv
  have fin : EP X pins σ Q u s := ⟨v, H, I, r, h⟩
  rcases l with ⟨hk, hm⟩ | ⟨hk, c, hc, hcell⟩
  · exact wpAny_Name (wpAny_loadName_local I.ok.kind hk hn hm fin) hd
  · rcases hk with hk | hk
    · exact wpAny_Name (wpAny_loadName_cell I.ok.kind hk hc hcell fin) hd
    · exact wpAny_Name (wpAny_loadName_free I.ok.kind hk hc hcell fin hcd) hd
theorem pe_int {i j pos} : PE X (.Constant (.int i) j pos) (tC (.int i)) := fun _ _ _ H _ I h => wpAny_Constant_int ⟨.int i, H, I.tok _, ⟨_, rfl⟩, h⟩
theorem pe_bl {b j pos} : PE X (.Constant (.bool b) j pos) (tC (.bl b)) := fun _ _ _ H _ I h => Constant_bool ⟨.bl b, H, I, rfl, h⟩
def Gl (X : Cx) (x : Str) : Prop := X.env.kindOf x = some .globalImplicit
theorem ld_glob {E : Value → Shared → Prop} {pins : List (Addr × Obj)} {s : Shared} {σ : St} {H : Hp} {x : Str} {u : Value} {pos : Pos} {Q : Value → Shared → Prop} (I : Inv X pins σ H s) (hg : Gl X x) (hm : X.mg x = some u) (h : Q u s)
    (hd : (x == ("__debug__" : Str)) = false := by decide) : wpAny (model X.prog X.w) X.A (eval (.Name x pos) X.env) Q E s :=
  Calls.Name_function_global I.ok.kind hg (Calls.loadGlobal_global (by rw [I.ok.glob]; exact I.mod.glob.keeps I.bk) hm h) hd
theorem ld_blt {E : Value → Shared → Prop} {pins : List (Addr × Obj)} {s : Shared} {σ : St} {H : Hp} {x : Str} {u : Value} {pos : Pos} {Q : Value → Shared → Prop} (I : Inv X pins σ H s) (hg : Gl X x) (hm : X.mg x = none) (hv : bootBuiltins x = some u) (h : Q u s)
    (hn : x ≠ "__name__" := by decide) (hd : (x == ("__debug__" : Str)) = false := by decide) : wpAny (model X.prog X.w) X.A (eval (.Name x pos) X.env) Q E s := by
  obtain ⟨mb, h1, h2⟩ := I.mod.blt
  exact Calls.Name_function_global I.ok.kind hg (Calls.loadGlobal_builtin (by rw [I.ok.glob]; exact I.mod.glob.keeps I.bk) hm (by rw [I.ok.blt]; exact h1.keeps I.bk) ((h2 x hn).trans hv) h) hd
theorem pe_glob {x : Str} {v : V} {u : Value} {pos : Pos} (hg : Gl X x) (hm : X.mg x = some u) (r : RelV v u) (hd : (x == ("__debug__" : Str)) = false := by decide) : PE X (.Name x pos) (tC v) :=
  fun _ _ _ H _ I h => ld_glob I hg hm ⟨v, H, I, r, h⟩ hd
variable {a b : Expr} {ta tb : TE} {pos : Pos}
def tB (t : TE) : TT := fun σ H Q => t σ H fun x H1 => ∃ c, x = .bl c ∧ Q c H1
theorem pt_val {e : Expr} {t : TE} (h : PE X e t) (he : ∀ whole, isTrue e X.env whole = (do let v ← whole; standAt e.pos; holding [v] (truthy v)) := by intro _; rfl) : PT X e (tB t) := by
  intro pins s σ H Q I hw
  refine isTrue_plain (thn (h pins s σ H _ I hw) fun v s1 ⟨x, H1, I1, r1, q1⟩ => ?_) (he _)
  obtain ⟨d, rfl, q⟩ := q1
  cases r1
  exact wpAny_truthy_bool ⟨H1, I1, q⟩
variable {tA tB' : TT} {rest : List Expr}
def tAnd (t u : TT) : TT := fun σ H Q => t σ H fun c H1 => if c = true then u σ H1 Q else Q false H1
def tOr (t u : TT) : TT := fun σ H Q => t σ H fun c H1 => if c = true then Q true H1 else u σ H1 Q
def tNot (t : TT) : TT := fun σ H Q => t σ H fun c H1 => Q (!c) H1
theorem pw_and1 (ha : PT X a tA) : PW X (.BoolOp .And [a] pos) tA := by
  intro wh pins s σ H Q I h
  refine isTrue_and (thn (ha pins s σ H Q I h) fun c s1 e => ?_)
  cases c with
  | true => exact isTrue_and_nil e
  | false => exact e
theorem pw_or1 (ha : PT X a tA) : PW X (.BoolOp .Or [a] pos) tA := by
  intro wh pins s σ H Q I h
  refine isTrue_or (thn (ha pins s σ H Q I h) fun c s1 e => ?_)
  cases c with
  | false => exact isTrue_or_nil e
  | true => exact e
theorem pw_and (ha : PT X a tA) (hb : PW X (.BoolOp .And (b :: rest) pos) tB') : PW X (.BoolOp .And (a :: b :: rest) pos) (tAnd tA tB') := by
  intro wh pins s σ H Q I h
  refine isTrue_and (thn (ha pins s σ H _ I h) fun c s1 ⟨H1, I1, q1⟩ => ?_)
  cases c with
  | true => exact hb wh pins s1 σ H1 Q I1 q1
  | false => exact ⟨H1, I1, q1⟩
theorem pw_or (ha : PT X a tA) (hb : PW X (.BoolOp .Or (b :: rest) pos) tB') : PW X (.BoolOp .Or (a :: b :: rest) pos) (tOr tA tB') := by
  intro wh pins s σ H Q I h
  refine isTrue_or (thn (ha pins s σ H _ I h) fun c s1 ⟨H1, I1, q1⟩ => ?_)
  cases c with
  | true => exact ⟨H1, I1, q1⟩
  | false => exact hb wh pins s1 σ H1 Q I1 q1
theorem pt_not (ha : PT X a tA) : PT X (.UnaryOp .Not a pos) (tNot tA) := by
  intro pins s σ H Q I h
  exact isTrue_not (ha pins s σ H (fun c H1 => Q (!c) H1) I h)
def tAndV (ta tb : TE) : TE := fun σ H Q => ta σ H fun x H1 => ∃ c, x = .bl c ∧ if c = true then tb σ H1 Q else Q (.bl false) H1
def tOrV (ta tb : TE) : TE := fun σ H Q => ta σ H fun x H1 => ∃ c, x = .bl c ∧ if c = true then Q (.bl true) H1 else tb σ H1 Q
theorem pe_one {op} {t : TE} (h : PE X a t) : PE X (.BoolOp op [a] pos) t := fun pins s σ H Q I hw => BoolOp_one (h pins s σ H Q I hw)
theorem pe_and (ha : PE X a ta) (hb : PE X (.BoolOp .And (b :: rest) pos) tb) : PE X (.BoolOp .And (a :: b :: rest) pos) (tAndV ta tb) := by
  intro pins s σ H Q I h
  refine BoolOp_and (thn (ha pins s σ H _ I h) fun v s1 ⟨x, H1, I1, r1, q1⟩ => ?_)
  obtain ⟨c, rfl, q1⟩ := q1
  cases r1
  refine wpAny_truthy_bool ?_
  cases c with
  | true => exact hb pins s1 σ H1 Q I1 q1
  | false => exact ⟨.bl false, H1, I1, rfl, q1⟩
theorem pe_or (ha : PE X a ta) (hb : PE X (.BoolOp .Or (b :: rest) pos) tb) : PE X (.BoolOp .Or (a :: b :: rest) pos) (tOrV ta tb) := by
  intro pins s σ H Q I h
  refine BoolOp_or (thn (ha pins s σ H _ I h) fun v s1 ⟨x, H1, I1, r1, q1⟩ => ?_)
  obtain ⟨c, rfl, q1⟩ := q1
  cases r1
  refine wpAny_truthy_bool ?_
  cases c with
  | false => exact hb pins s1 σ H1 Q I1 q1
  | true => exact ⟨.bl true, H1, I1, rfl, q1⟩
def tIf (t : TT) (ta tb : TE) : TE := fun σ H Q => t σ H fun c H1 => if c = true then ta σ H1 Q else tb σ H1 Q
theorem pe_ifExp {c : Expr} (hc : PT X c tA) (ha : PE X a ta) (hb : PE X b tb) : PE X (.IfExp c a b pos) (tIf tA ta tb) := by
  intro pins s σ H Q I h
  refine wpAny_IfExp (thn (hc pins s σ H _ I h) fun d s1 ⟨H1, I1, q1⟩ => ?_)
  cases d with
  | true => exact ha pins s1 σ H1 Q I1 q1
  | false => exact hb pins s1 σ H1 Q I1 q1
end
end L2
namespace L2
open PySem PySem.Spec PyProof.Rows
def SqL (K : PySem.W.Frag) (H : Hp) (a : Addr) (xs : List V) : Prop :=
  Rd H a (.lst xs) ∨
    ∃ (o : Obj) (its : Array Value) (n : Nat), K.lookup a = some o ∧ o.cls = .type "list" ∧ o.dict = none ∧ o.data = .seq its n ∧ its.size ≤ sizeLine ∧ Vals xs its.toList
def SqT (K : PySem.W.Frag) (H : Hp) (a : Addr) (xs : List V) : Prop :=
  Rd H a (.tup xs) ∨
    ∃ (o : Obj) (its : Array Value) (n : Nat), K.lookup a = some o ∧ o.cls = .type "tuple" ∧ o.data = .seq its n ∧ its.size ≤ sizeLine ∧ Vals xs its.toList
def absV : Value → Option V
  | .none => some .non
  | .bool b => some (.bl b)
  | .int i _ => some (.int i)
  | .str x _ => some (.str x)
  | .bytes b _ => some (.byt b)
  | .float b _ => some (.flt b)
  | .ref a => some (.ref a)
  | .type n => some (.ty n)
  | _ => none
theorem RelV.abs {x : V} {u : Value} (r : RelV x u) : absV u = some x := by
  cases x with
  | non => cases r; rfl
  | bl _ => cases r; rfl
  | int _ => obtain ⟨t, rfl⟩ := r; rfl
  | str _ => obtain ⟨t, rfl⟩ := r; rfl
  | byt _ => obtain ⟨t, rfl⟩ := r; rfl
  | flt _ => obtain ⟨t, rfl⟩ := r; rfl
  | ref _ => cases r; rfl
  | ty _ => cases r; rfl
theorem RelV.inj {x y : V} {u : Value} (r : RelV x u) (q : RelV y u) : x = y := Option.some.inj (r.abs.symm.trans q.abs)
theorem Vals.inj : ∀ {xs ys : List V} {us : List Value}, Vals xs us → Vals ys us → xs = ys
  | _, _, _, .nil, .nil => rfl
  | _, _, _, .cons r t, .cons r' t' => by rw [r.inj r', Vals.inj t t']
section
variable {X : Cx} {pins : List (Addr × Obj)} {σ : St} {H : Hp} {s : Shared} {a : Addr} {xs ys : List V}
theorem SqL.of {K : PySem.W.Frag} (h : H a = some (.lst xs)) : SqL K H a xs := .inl (.inl h)
theorem SqT.of {K : PySem.W.Frag} (h : H a = some (.tup xs)) : SqT K H a xs := .inl (.inl h)
theorem Inv.list (I : Inv X pins σ H s) (h : SqL X.K H a xs) : ∃ its : List Value, Vals xs its ∧ PlainL s.heap a its.toArray ∧ xs.length ≤ sizeLine := by
  rcases h with h | ⟨o, its, n, hk, hc, hd, hs, hz, r⟩
  · obtain ⟨z, its, n, r, e⟩ := h.ok I.hok
    exact ⟨its, r, ⟨_, n, e, rfl, rfl, rfl⟩, z⟩
  · refine ⟨its.toList, r, ⟨o, n, I.kIn a o hk, hc, hd, by simpa using hs⟩, ?_⟩
    have e := r.length
    simp only [Array.length_toList] at e
    omega
theorem Inv.tuple (I : Inv X pins σ H s) (h : SqT X.K H a xs) : ∃ its : List Value, Vals xs its ∧ IsTup s.heap a its.toArray ∧ xs.length ≤ sizeLine := by
  rcases h with h | ⟨o, its, n, hk, hc, hs, hz, r⟩
  · obtain ⟨z, its, r, p⟩ := h.ok I.hok
    exact ⟨its, r, p, z⟩
  · refine ⟨its.toList, r, ⟨o, I.kIn a o hk, hc, n, by simpa using hs⟩, ?_⟩
    have e := r.length
    simp only [Array.length_toList] at e
    omega
theorem Inv.list_inj (I : Inv X pins σ H s) (h : SqL X.K H a xs) (h' : SqL X.K H a ys) : xs = ys := by
  obtain ⟨its, r, ⟨o, n, e, _, _, d⟩, _⟩ := I.list h
  obtain ⟨its', r', ⟨o', n', e', _, _, d'⟩, _⟩ := I.list h'
  rw [e] at e'; cases e'
  rw [d] at d'
  injection d' with d1 _
  have : its = its' := by simpa using congrArg Array.toList d1
  subst this
  exact r.inj r'
end
abbrev Cx.wish (X : Cx) (E : Value → Shared → Prop) : Cx := { X with xe := E }
abbrev Cx.nox (X : Cx) : Cx := X.wish fun _ _ => False
theorem Cx.Ok.wish {X : Cx} (ok : X.Ok) (E : Value → Shared → Prop) : (X.wish E).Ok :=
  ⟨ok.mod, ok.kind, ok.glob, ok.blt, ok.above, ok.inj, ok.has, ok.cab, ok.hd, ok.frames, ok.stk, ok.exf, ok.bs, ok.bsz, ok.noex, ok.exfs, ok.funs, ok.frf⟩
theorem Cx.Ok.unwish {X : Cx} {E : Value → Shared → Prop} (ok : (X.wish E).Ok) : X.Ok :=
  ⟨ok.mod, ok.kind, ok.glob, ok.blt, ok.above, ok.inj, ok.has, ok.cab, ok.hd, ok.frames, ok.stk, ok.exf, ok.bs, ok.bsz, ok.noex, ok.exfs, ok.funs, ok.frf⟩
section
variable {X : Cx} {pins : List (Addr × Obj)} {σ : St} {H : Hp} {s : Shared} {E : Value → Shared → Prop}
theorem Inv.wish (I : Inv X pins σ H s) (E : Value → Shared → Prop) : Inv (X.wish E) pins σ H s := ⟨I.ok.wish E, I.os, I.bare, I.base, I.loc, I.cell, I.free, I.freeC, I.pin, I.hok, I.len⟩
theorem Inv.unwish (I : Inv (X.wish E) pins σ H s) : Inv X pins σ H s := ⟨I.ok.unwish, I.os, I.bare, I.base, I.loc, I.cell, I.free, I.freeC, I.pin, I.hok, I.len⟩
theorem SP.unwish {D : Ends} {f : Flow} {s' : Shared} (h : SP (X.wish E) pins D f s') : SP X pins D f s' := by
  cases f with
  | next => obtain ⟨σ', H', I, q⟩ := h; exact ⟨σ', H', I.unwish, q⟩
  | brk => obtain ⟨σ', H', I, q⟩ := h; exact ⟨σ', H', I.unwish, q⟩
  | cont => obtain ⟨σ', H', I, q⟩ := h; exact ⟨σ', H', I.unwish, q⟩
  | ret u => obtain ⟨v, σ', H', I, r, q⟩ := h; exact ⟨v, σ', H', I.unwish, r, q⟩
theorem PE.nox {e : Expr} {t : TE} (h : PE X.nox e t) : PE X e t := fun pins s σ H Q I hw =>
  wpAny_mono (h pins s σ H Q (I.wish _) hw) (fun _ _ ⟨v, H', I', r, q⟩ => ⟨v, H', I'.unwish, r, q⟩) fun _ _ z => False.elim z
theorem PT.nox {e : Expr} {t : TT} (h : PT X.nox e t) : PT X e t := fun pins s σ H Q I hw =>
  wpAny_mono (h pins s σ H Q (I.wish _) hw) (fun _ _ ⟨H', I', q⟩ => ⟨H', I'.unwish, q⟩) fun _ _ z => False.elim z
theorem PSs.nox {st : List Stmt} {t : TS} (h : PSs X.nox st t) : PSs X st t := fun pins s σ H D I hw =>
  wpAny_mono (h pins s σ H D (I.wish _) hw) (fun _ _ q => q.unwish) fun _ _ z => False.elim z
end
section
variable {X : Cx} {st : Stmt} {rest : List Stmt} {t u : TS} {e : Expr} {te : TE} {pos : Pos}
def tNext : TS := fun D σ H => D.nx σ H
def tSeq (t u : TS) : TS := fun D σ H => t { D with nx := u D } σ H
theorem pss_nil : PSs X [] tNext := fun _ _ σ H _ I h => wpAny_execs_nil ⟨σ, H, I, h⟩
theorem pss_cons (h1 : PS X st t) (h2 : PSs X rest u) : PSs X (st :: rest) (tSeq t u) := by
  intro pins s σ H D I h
  refine wpAny_execs_cons (thn (h1 pins s σ H { D with nx := u D } I h) fun f s1 q => ?_)
  cases f with
  | next =>
    obtain ⟨σ', H', I', q⟩ := q
    exact h2 pins s1 σ' H' D I' q
  | ret v => exact q
  | brk => exact q
  | cont => exact q
theorem pss_one (h1 : PS X st t) : PSs X [st] t := by
  intro pins s σ H D I h
  refine wpAny_execs_cons (thn (h1 pins s σ H D I h) fun f s1 q => ?_)
  cases f with
  | next => exact wpAny_execs_nil q
  | ret v => exact q
  | brk => exact q
  | cont => exact q
theorem Inv.quiet {pins : List (Addr × Obj)} {σ : St} {H : Hp} {s : Shared} (I : Inv X pins σ H s) : interactive X.env = false := by simp [interactive, I.ok.kind]
def tDrop (te : TE) : TS := fun D σ H => te σ H fun _ H1 => D.nx σ H1
theorem ps_expr (he : PE X e te) (hs : swapsWith e none pos.line X.env = pure false := by rfl) : PS X (.Expr e pos) (tDrop te) := by
  intro pins s σ H D I h
  exact wpAny_Expr_any (thn (he pins s σ H _ I h) fun v s1 ⟨x, H1, I1, r1, q1⟩ => ⟨σ, H1, I1, q1⟩) I.quiet hs
def tRet (te : TE) : TS := fun D σ H => te σ H D.rt
theorem ps_ret (he : PE X e te) : PS X (.Return (some e) pos) (tRet te) := by
  intro pins s σ H D I h
  exact wpAny_Return_some (thn (he pins s σ H _ I h) fun v s1 ⟨x, H1, I1, r1, q1⟩ => ⟨x, σ, H1, I1, r1, q1⟩)
def tIfS (c : TT) (t u : TS) : TS := fun D σ H => c σ H fun b H1 => if b = true then t D σ H1 else u D σ H1
theorem ps_if {c : Expr} {a b : List Stmt} {tc : TT} (hc : PT X c tc) (ha : PSs X a t) (hb : PSs X b u) : PS X (.If c a b pos) (tIfS tc t u) := by
  intro pins s σ H D I h
  refine wpAny_If (thn (hc pins s σ H _ I h) fun d s1 ⟨H1, I1, q1⟩ => ?_)
  cases d with
  | true => exact ha pins s1 σ H1 D I1 q1
  | false => exact hb pins s1 σ H1 D I1 q1
end
abbrev TG := V → St → Hp → (St → Hp → Prop) → Prop
abbrev TGs := List V → St → Hp → (St → Hp → Prop) → Prop
def PG (X : Cx) (target : Expr) (t : TG) : Prop :=
  ∀ (pins : List (Addr × Obj)) (s : Shared) (σ : St) (H : Hp) (v : V) (u : Value) (Q : St → Hp → Prop), Inv X pins σ H s → RelV v u → t v σ H Q →
    wpAny (model X.prog X.w) X.A (assign target X.env u) (fun _ s' => ∃ σ' H', Inv X pins σ' H' s' ∧ Q σ' H') X.xe s
def PGs (X : Cx) (ts : List Expr) (t : TGs) : Prop :=
  ∀ (pins : List (Addr × Obj)) (s : Shared) (σ : St) (H : Hp) (vs : List V) (us : List Value) (Q : St → Hp → Prop), Inv X pins σ H s → Vals vs us → t vs σ H Q →
    wpAny (model X.prog X.w) X.A (assignInOrder ((assignEach ts X.env).map (·.2)) us) (fun _ s' => ∃ σ' H', Inv X pins σ' H' s' ∧ Q σ' H') X.xe s
abbrev TSet := V → V → V → Hp → (Hp → Prop) → Prop
def PSet (X : Cx) (t : TSet) : Prop :=
  ∀ (pins : List (Addr × Obj)) (s : Shared) (σ : St) (H : Hp) (o i v : V) (ov iv u : Value) (Q : Hp → Prop), Inv X pins σ H s → RelV o ov → RelV i iv → RelV v u → t o i v H Q →
    wpAny (model X.prog X.w) X.A (setItem ov iv u) (fun _ s' => ∃ H', Inv X pins σ H' s' ∧ Q H') X.xe s
abbrev TIp := V → V → Hp → VK → Prop
def PIp (X : Cx) (op : Operator) (t : TIp) : Prop :=
  ∀ (pins : List (Addr × Obj)) (s : Shared) (σ : St) (H : Hp) (x y : V) (v u : Value) (Q : VK), Inv X pins σ H s → RelV x v → RelV y u → t x y H Q →
    wpAny (model X.prog X.w) X.A (inplaceOp op v u) (EP X pins σ Q) X.xe s
section
variable {X : Cx} {pos : Pos}
def gName (i : Nat) : TG := fun v σ H Q => Q (σ.set i (some v)) H
theorem pg_name {i : Nat} {x : Str} (hN : X.N.Nodup) (hi : X.N[i]? = some x) (hx : Loc X.env.scope x) (hf : X.fn x = true ∨ X.env.scope.names.lookup x = some .local := by first | exact .inl rfl | exact .inr rfl | assumption) : PG X (.Name x pos) (gName i) := by
  intro pins s σ H v u Q I r h
  exact wpAny_assign_Name (store_ok I hN hi hx r (fun s' I' => ⟨_, H, I', h⟩) hf)
def gNil : TGs := fun vs σ H Q => vs = [] ∧ Q σ H
def gCons (t : TG) (u : TGs) : TGs := fun vs σ H Q => ∃ v r, vs = v :: r ∧ t v σ H fun σ' H' => u r σ' H' Q
theorem pgs_nil : PGs X [] gNil := by
  intro pins s σ H vs us Q I r h
  obtain ⟨e, h⟩ := h
  subst e
  cases r
  exact assignInOrder_nil ⟨σ, H, I, h⟩
theorem pgs_cons {e : Expr} {es : List Expr} {t : TG} {u : TGs} (h1 : PG X e t) (h2 : PGs X es u)
    (hs : (assignEach (e :: es) X.env).map (·.2) = assign e X.env :: (assignEach es X.env).map (·.2) := by rfl) : PGs X (e :: es) (gCons t u) := by
  intro pins s σ H vs us Q I r h
  obtain ⟨v, vr, e1, h⟩ := h
  subst e1
  cases r with
  | cons r rr =>
    rw [hs]
    refine assignInOrder_cons (thn (h1 pins s σ H _ _ _ I r h) fun _ s1 ⟨σ1, H1, I1, q1⟩ => ?_)
    exact h2 pins s1 σ1 H1 _ _ Q I1 rr q1
def gTup (K : PySem.W.Frag) (n : Nat) (t : TGs) : TG := fun v σ H Q => ∃ a xs, v = .ref a ∧ SqT K H a xs ∧ xs.length = n ∧ t xs σ H Q
theorem pg_tup {es : List Expr} {k : Nat} {t : TGs} {n : Nat} (hc : X.calm = true) (h : PGs X es t)
    (hn : (assignEach es X.env).length = n := by rfl) (hst : (assignEach es X.env).findIdx? (·.1) = none := by rfl) : PG X (.Tuple es k pos) (gTup X.K n t) := by
  intro pins s σ H v u Q I r hw
  obtain ⟨a, xs, e1, hq, hl, hw⟩ := hw
  subst e1
  cases r
  obtain ⟨its, rv, ht, hz⟩ := I.tuple hq
  refine assign_Tuple_tuple (I.ok.hd hc) ht (by simp [hn, ← hl, rv.length]) hst fun h' hx => ?_
  have I1 : Inv X pins σ H { s with heap := h' } := I.kept (t' := s.toks) fun b o e => hx b o (Nat.ne_of_lt (Heap.lt_size e)) e
  exact h pins _ σ H xs _ Q I1 (by simpa using rv) hw
def tAsg (te : TE) (g : TG) : TS := fun D σ H => te σ H fun x H1 => g x σ H1 D.nx
theorem ps_set {i : Nat} {x : Str} {e : Expr} {te : TE} {pos' : Pos} (hN : X.N.Nodup) (hi : X.N[i]? = some x) (hx : Loc X.env.scope x) (he : PE X e te) (hs : swapsWith e (some (.Name x pos')) pos.line X.env = pure false := by rfl) (hf : X.fn x = true ∨ X.env.scope.names.lookup x = some .local := by first | exact .inl rfl | exact .inr rfl | assumption) :
    PS X (.Assign [.Name x pos'] e pos) (tAsg te (gName i)) := by
  intro pins s σ H D I h
  refine wpAny_Assign_Name (thn (he pins s σ H _ I h) fun v s1 ⟨y, H1, I1, r1, q1⟩ => ?_) hs
  exact store_ok I1 hN hi hx r1 (fun s2 I2 => ⟨_, H1, I2, q1⟩) hf
def tAug (i : Nat) (te : TE) (ti : TIp) : TS := fun D σ H => ∃ x, σ[i]? = some (some x) ∧ te σ H fun y H1 => ti x y H1 fun z H2 => D.nx (σ.set i (some z)) H2
theorem ps_aug {i : Nat} {x : Str} {e : Expr} {te : TE} {op : Operator} {ti : TIp} {pos' : Pos} (hN : X.N.Nodup) (hi : X.N[i]? = some x) (hx : Loc X.env.scope x) (he : PE X e te) (ho : PIp X op ti) (hf : X.fn x = true ∨ X.env.scope.names.lookup x = some .local := by first | exact .inl rfl | exact .inr rfl | assumption) :
    PS X (.AugAssign (.Name x pos') op e pos) (tAug i te ti) := by
  intro pins s σ H D I h
  obtain ⟨v, e1, h⟩ := h
  obtain ⟨m, hn, hl⟩ := I.loc
  have vis : Vis X.env.scope x := by rcases hx with k | k; exact .inl k; exact .inr (.inl k)
  obtain ⟨u, r, l⟩ := hl i x v hi e1 vis
  refine wpAny_AugAssign_Name ?_
  have go : wpAny (model X.prog X.w) X.A (eval e X.env) (fun w s₂ => wpAny (model X.prog X.w) X.A (inplaceOp op u w) (fun r s₃ => wpAny (model X.prog X.w) X.A (storeName X.env x r) (fun _ => SP X pins D .next) X.xe s₃) X.xe s₂) X.xe s := by
    refine thn (he pins s σ H _ I h) fun w s1 ⟨y, H1, I1, r1, q1⟩ => ?_
    refine thn (ho pins s1 σ H1 v y u w _ I1 r r1 q1) fun z s2 ⟨zv, H2, I2, r2, q2⟩ => ?_
    exact store_ok I2 hN hi hx r2 (fun s3 I3 => ⟨_, H2, I3, q2⟩) hf
  rcases l with ⟨hk, hm⟩ | ⟨hk, c, hc, hcell⟩
  · exact wpAny_loadName_local I.ok.kind hk hn hm go
  · rcases hk with hk | hk
    · exact wpAny_loadName_cell I.ok.kind hk hc hcell go
    · rcases hx with k | k
      · have : X.env.scope.names.lookup x = some .free := hk
        rw [k] at this; cases this
      · have : X.env.scope.names.lookup x = some .free := hk
        rw [k] at this; cases this
def ipI (f : Int → Int → Int) : TIp := fun x y H Q => ∃ i j, x = .int i ∧ y = .int j ∧ Q (.int (f i j)) H
theorem ip_add : PIp X .Add (ipI fun i j => i + j) := by
  intro pins s σ H x y v u Q I r1 r2 h
  obtain ⟨i, j, e1, e2, q⟩ := h
  subst e1; subst e2
  obtain ⟨t, rfl⟩ := r1
  obtain ⟨t', rfl⟩ := r2
  exact iadd_int ⟨.int _, H, I.tok _, ⟨_, rfl⟩, q⟩
end
section
variable {X : Cx} {pos : Pos}
def tWhile (c : TT) (tb : TS) : TS := fun D σ H => ∃ W : Nat → St → Hp → Prop, (∃ m, W m σ H) ∧ ∀ m σ H, W m σ H →
  c σ H fun b H1 => if b = true then ∃ N : St → Hp → Prop, (∀ σ' H', N σ' H' → ∃ m', m' < m ∧ W m' σ' H') ∧ tb { D with nx := N, ct := N, bk := D.nx } σ H1 else D.nx σ H1
theorem ps_while {c : Expr} {body : List Stmt} {tc : TT} {tb : TS} (hp : PassesOwn (model X.prog X.w) X.A X.env X.xe) (hc : PT X c tc) (hb : PSs X body tb) : PS X (.While c body [] pos) (tWhile tc tb) := by
  intro pins s σ H D I h
  obtain ⟨W, ⟨m0, w0⟩, turn⟩ := h
  refine wpAny_While (codeAny_whileLoop (fun n s' => ∃ σ' H', Inv X pins σ' H' s' ∧ W n σ' H') ?_ m0 ⟨σ, H, I, w0⟩)
  rintro n s1 ⟨σ1, H1, I1, w1⟩
  refine wpAny_passesOwn hp (thn (hc pins s1 σ1 H1 _ I1 (turn n σ1 H1 w1)) fun b s2 ⟨H2, I2, q2⟩ => ?_)
  cases b with
  | true =>
    obtain ⟨N, hN, q2⟩ := q2
    rw [if_pos rfl]
    refine wpAny_passesOwn hp (thn (hb pins s2 σ1 H2 _ I2 q2) fun f s3 q3 => ?_)
    cases f with
    | next =>
      obtain ⟨σ3, H3, I3, n3⟩ := q3
      obtain ⟨m', hm, w3⟩ := hN σ3 H3 n3
      exact ⟨m', hm, σ3, H3, I3, w3⟩
    | cont =>
      obtain ⟨σ3, H3, I3, n3⟩ := q3
      obtain ⟨m', hm, w3⟩ := hN σ3 H3 n3
      exact ⟨m', hm, σ3, H3, I3, w3⟩
    | brk => exact q3
    | ret v => exact q3
  | false =>
    rw [if_neg Bool.false_ne_true]
    exact wpAny_execs_nil ⟨σ1, H2, I2, q2⟩
end
structure It where
  go : Nat → Hp → Prop
  yld : Nat → Hp → V → Hp → Prop
  stop : Nat → Hp → Prop
def FpOk (X : Cx) (pins : List (Addr × Obj)) (H : Hp) (b : Addr) : Prop :=
  H b = none ∧ b ≠ X.env.locals ∧ b ∉ X.fs ∧ (b ∈ X.ex ∨ X.s_0.heap.objs.size ≤ b) ∧ (∀ x c, X.env.cells.lookup x = some c → c ≠ b) ∧ ∀ p ∈ X.pn ++ pins, p.1 ≠ b
theorem Inv.fpOk {X : Cx} {pins : List (Addr × Obj)} {σ : St} {H H' : Hp} {s : Shared} {b : Addr} (I : Inv X pins σ H s) (hb : s.heap.objs.size ≤ b) (hn : H' b = none) : FpOk X pins H' b := by
  refine ⟨hn, Nat.ne_of_gt (Nat.lt_of_lt_of_le I.lt hb), I.nofs hb, .inr (Nat.le_trans I.sz hb), fun x c e z => ?_, fun p hp z => ?_⟩
  · obtain ⟨v, q⟩ := I.cell x c e
    exact absurd (Nat.lt_of_lt_of_le q.lt (by rw [z]; exact hb)) (Nat.lt_irrefl _)
  · exact absurd (Nat.lt_of_lt_of_le (Heap.lt_size (I.pin p hp).1) (by rw [z]; exact hb)) (Nat.lt_irrefl _)
structure Turn (P : Program) (w : World) (K : PySem.W.Frag) (tg : Expr) (J : It) (fp : List Addr) (it : Addr) (tn : Nat → Heap → Prop) : Prop where
  mem : it ∈ fp
  obj : ∀ i h, tn i h → ∀ b ∈ fp, ∃ o, h.get? b = some o ∧ ∀ v, o.data ≠ .cell v
  keep : ∀ i h h', tn i h → (∀ b ∈ fp, ∀ o, h.get? b = some o → h'.get? b = some o) → tn i h'
  item : ∀ (X : Cx), X.prog = P → X.w = w → X.K = K → X.calm = true → ∀ (i : Nat) (pins : List (Addr × Obj)) (s : Shared) (σ : St) (H : Hp) (E : Value → Shared → Prop), Inv X pins σ H s → (∀ b ∈ fp, FpOk X pins H b) → tn i s.heap → J.go i H →
    wpAny (model P w) X.A (pyNext (.ref it)) (fun r s1 => ∃ u, r = some u ∧
      wpAny (model P w) X.A (letOwnedTupleGo tg (.ref it) u) (fun _ s2 => ∃ x H', Inv X pins σ H' s2 ∧ RelV x u ∧ J.yld i H x H' ∧ tn (i + 1) s2.heap ∧ ∀ b ∈ fp, H' b = none) E s1) E s
  done : ∀ (X : Cx), X.prog = P → X.w = w → X.K = K → X.calm = true → ∀ (i : Nat) (pins : List (Addr × Obj)) (s : Shared) (σ : St) (H : Hp) (E : Value → Shared → Prop), Inv X pins σ H s → (∀ b ∈ fp, FpOk X pins H b) → tn i s.heap → J.stop i H →
    wpAny (model P w) X.A (pyNext (.ref it)) (fun r s1 => r = none ∧ Inv X pins σ H s1) E s
  self : ∀ (A : Around) (i : Nat) (s : Shared) (Q : Value → Shared → Prop) (E : Value → Shared → Prop), tn i s.heap → Q (.ref it) s → wpAny (model P w) A (pyIter (.ref it)) Q E s
abbrev TI := St → Hp → (It → Hp → Prop) → Prop
def PIE (X : Cx) (pins : List (Addr × Obj)) (σ : St) (tg : Expr) (R : It → Hp → Prop) (itv : Value) (s2 : Shared) : Prop :=
  ∃ (it : Addr) (fp : List Addr) (tn : Nat → Heap → Prop) (J : It) (H' : Hp), itv = .ref it ∧ Inv X pins σ H' s2 ∧ Turn X.prog X.w X.K tg J fp it tn ∧ tn 0 s2.heap ∧ (∀ b ∈ fp, FpOk X pins H' b) ∧ R J H'
def PI (X : Cx) (tg iter : Expr) (wi : TI) : Prop :=
  ∀ (pins : List (Addr × Obj)) (s : Shared) (σ : St) (H : Hp) (R : It → Hp → Prop), Inv X pins σ H s → wi σ H R →
    wpAny (model X.prog X.w) X.A (eval iter X.env) (fun v s1 => wpAny (model X.prog X.w) X.A (pyIter v) (PIE X pins σ tg R) X.xe s1) X.xe s
theorem go_of {M : Model} {A : Around} {E : Value → Shared → Prop} {s : Shared} {tg : Expr} {it : Addr} {u : Value} {o : Obj} {n : String} {vs : Array Value} {Q : Unit → Shared → Prop} (ho : s.heap.get? it = some o) (hc : o.cls = .type n) (hd : o.data = .fields vs)
    (hn : ["enumerate", "zip", "dict_itemiterator", "dict_reverseitemiterator", "odict_iterator", "itertools.zip_longest", "itertools.pairwise"].contains n = false) (hQ : Q () s) : wpAny M A (letOwnedTupleGo tg (.ref it) u) Q E s := by
  unfold letOwnedTupleGo
  cases tg <;> first
    | exact wpAny_pure hQ
    | (cases u <;> first
        | exact wpAny_pure hQ
        | (refine wpAny_bind (wpAny_load ho ?_)
           rw [hc, hd]
           show wpAny M A (if (["enumerate", "zip", "dict_itemiterator", "dict_reverseitemiterator", "odict_iterator", "itertools.zip_longest", "itertools.pairwise"].contains n && vs[0]? == some (rawInt _)) = true then _ else _) Q E s
           rw [if_neg (by intro h; rw [hn, Bool.false_and] at h; cases h)]
           exact wpAny_pure hQ))
def Itl (K : PySem.W.Frag) (a : Addr) : It :=
  ⟨fun i H => ∃ xs x, SqL K H a xs ∧ xs[i]? = some x, fun i H x H' => H' = H ∧ ∀ xs, SqL K H a xs → xs[i]? = some x, fun i H => ∃ xs, SqL K H a xs ∧ xs.length ≤ i⟩
def Itr (lo : Int) (n : Nat) : It := ⟨fun i _ => i < n, fun i H x H' => H' = H ∧ x = .int (lo + i), fun i _ => n ≤ i⟩
theorem turn_list {P : Program} {w : World} {K : PySem.W.Frag} {tg : Expr} (a it : Addr) : Turn P w K tg (Itl K a) [it] it (fun i h => h.IsListIter it a i) where
  mem := by simp
  obj := fun i h st b hb => by
    have e : b = it := by simpa using hb
    subst e
    obtain ⟨o, e, c, d⟩ := st
    exact ⟨o, e, fun v z => by rw [d] at z; cases z⟩
  keep := fun i h h' st k => st.at fun o e => k it (by simp) o e
  item := by
    intro X hP hw hK hc i pins s σ H E I hf st hg
    subst hP hw hK
    obtain ⟨xs, x, hq, hx⟩ := hg
    obtain ⟨its, rv, p, hz⟩ := I.list hq
    obtain ⟨u, hu, ru⟩ := rv.get hx
    obtain ⟨f0, f1, f2, f3, f4, f5⟩ := hf it (by simp)
    refine wpAny_pyNext_list_item st p.isList (x := u) (by simpa using hu) fun h' st' sb => ?_
    have I1 : Inv X pins σ H { s with heap := h' } := I.turned (t' := s.toks) (fun b o hb e => (sb.2 b hb).trans e) f0 f1 f3 f4 f5
    obtain ⟨o, e, c, d⟩ := id st'
    exact ⟨u, rfl, go_of (s := { s with heap := h' }) e c d (by decide) ⟨x, H, I1, ru, ⟨rfl, fun ys hy => by rw [I.list_inj hy hq]; exact hx⟩, st', fun b hb => (hf b hb).1⟩⟩
  done := by
    intro X hP hw hK hc i pins s σ H E I hf st hg
    subst hP hw hK
    obtain ⟨xs, hq, hx⟩ := hg
    obtain ⟨its, rv, p, hz⟩ := I.list hq
    obtain ⟨f0, f1, f2, f3, f4, f5⟩ := hf it (by simp)
    have hl := rv.length
    exact wpAny_pyNext_list_end (I.ok.hd hc) st p.isList (by simp; omega) fun h' eb => ⟨rfl, I.turned (t' := s.toks) (fun b o hb e => eb b o hb e) f0 f1 f3 f4 f5⟩
  self := fun _ _ _ _ _ st h => wpAny_pyIter_listiter st h
theorem turn_range {P : Program} {w : World} {K : PySem.W.Frag} {tg : Expr} (it : Addr) (lo : Int) (n : Nat) : Turn P w K tg (Itr lo n) [it] it (fun i h => IsRangeIter h it (lo + (i : Nat) * 1) ((n : Int) - (i : Nat)) 1) where
  mem := by simp
  obj := fun i h st b hb => by
    have e : b = it := by simpa using hb
    subst e
    exact ⟨_, st, fun v z => by
      have z' : Data.fields _ = Data.cell v := z
      cases z'⟩
  keep := fun i h h' st k => k it (by simp) _ st
  item := by
    intro X hP hw hK hc i pins s σ H E I hf st hg
    subst hP hw hK
    obtain ⟨f0, f1, f2, f3, f4, f5⟩ := hf it (by simp)
    have W := Walks.range (prog := X.prog) (w := X.w) (I.ok.hd hc) it lo 1 n
    refine W.item i s _ _ hg st fun v h' tk hv st' kk => ?_
    obtain ⟨t, rfl⟩ := hv
    have I1 : Inv X pins σ H { s with heap := h', toks := tk } := I.turned (fun b o hb e => kk b o (by simpa using hb) e) f0 f1 f3 f4 f5
    refine ⟨_, rfl, go_of (s := { s with heap := h', toks := tk }) (n := "range_iterator") st' rfl rfl (by decide) ⟨.int (lo + i), H, I1, ⟨t, ?_⟩, ⟨rfl, rfl⟩, st', fun b hb => (hf b hb).1⟩⟩
    rw [Int.mul_one]
  done := by
    intro X hP hw hK hc i pins s σ H E I hf st hg
    subst hP hw hK
    obtain ⟨f0, f1, f2, f3, f4, f5⟩ := hf it (by simp)
    exact wpAny_pyNext_range_end (I.ok.hd hc) st (by have : n ≤ i := hg; omega) fun h' eb => ⟨rfl, I.turned (t' := s.toks) (fun b o hb e => eb b o hb e) f0 f1 f3 f4 f5⟩
  self := fun _ _ _ _ _ st h => wpAny_pyIter_rangeiter st h
end L2
namespace L2
open PySem PySem.Spec PyProof.Rows
section
variable {X : Cx} {tg : Expr}
def iList (K : PySem.W.Frag) (tl : TE) : TI := fun σ H R => tl σ H fun x H1 => ∃ a, x = .ref a ∧ (∃ xs, SqL K H1 a xs) ∧ R (Itl K a) H1
theorem pi_list {l : Expr} {tl : TE} (hl : PE X l tl) : PI X tg l (iList X.K tl) := by
  intro pins s σ H R I h
  refine thn (hl pins s σ H _ I h) fun v s1 ⟨x, H1, I1, r1, q1⟩ => ?_
  obtain ⟨a, e, ⟨xs, hq⟩, q⟩ := q1
  subst e
  cases r1
  obtain ⟨its, rv, p, hz⟩ := I1.list hq
  refine wpAny_pyIter_list p.isList ?_
  refine ⟨s1.heap.objs.size, [s1.heap.objs.size], _, _, H1, rfl, I1.kept (t' := s1.toks) fun b o e => Heap.get?_push_of_some _ e, turn_list a _, ⟨_, Heap.get?_push_size _ rfl, rfl, rfl⟩, fun b hb => ?_, q⟩
  have e : b = s1.heap.objs.size := by simpa using hb
  subst e
  exact I1.fpOk (Nat.le_refl _) (I1.hok.fresh (Nat.le_refl _))
theorem range_it {pins : List (Addr × Obj)} {σ : St} {H : Hp} {s : Shared} {R : It → Hp → Prop} {E : Value → Shared → Prop} {lo hi : Int} {t u v : Tok} {tk : Nat} (I : Inv X pins σ H s) (h1 : -(2 ^ 62) ≤ lo) (h2 : lo < 2 ^ 62) (h3 : -(2 ^ 62) ≤ hi) (h4 : hi < 2 ^ 62)
    (q : R (Itr lo (hi - lo).toNat) H) : wpAny (model X.prog X.w) X.A (pyIter (.ref s.heap.objs.size)) (PIE X pins σ tg R) E { s with heap := s.heap.push { cls := .type "range", data := .fields #[.int lo t, .int hi u, .int 1 v] }, toks := tk } := by
  refine wpAny_pyIter_range (IsRange.new ..) (small_one h1 h2 h3 h4) ?_
  have I1 : Inv X pins σ H { s with heap := s.heap.push { cls := .type "range", data := .fields #[.int lo t, .int hi u, .int 1 v] }, toks := tk } := I.kept fun b o e => Heap.get?_push_of_some _ e
  refine ⟨(s.heap.push { cls := .type "range", data := .fields #[.int lo t, .int hi u, .int 1 v] }).objs.size, [(s.heap.push { cls := .type "range", data := .fields #[.int lo t, .int hi u, .int 1 v] }).objs.size], _, _, H, rfl,
    I1.kept (t' := tk) fun b o e => Heap.get?_push_of_some _ e, turn_range _ lo (hi - lo).toNat, ?_, fun b hb => ?_, q⟩
  · have e1 : lo + ((0 : Nat) : Int) * 1 = lo := by simp
    have e2 : (((hi - lo).toNat : Nat) : Int) - ((0 : Nat) : Int) = Builtin.Range.rangeSize lo hi 1 := by rw [rangeSize_one]; split <;> omega
    show IsRangeIter _ _ (lo + ((0 : Nat) : Int) * 1) ((((hi - lo).toNat : Nat) : Int) - ((0 : Nat) : Int)) 1
    rw [e1, e2]
    exact Heap.get?_push_size _ rfl
  · have e : b = (s.heap.push { cls := .type "range", data := .fields #[.int lo t, .int hi u, .int 1 v] }).objs.size := by simpa using hb
    subst e
    exact I1.fpOk (Nat.le_refl _) (I1.hok.fresh (Nat.le_refl _))
def iRng1 (ta : TA) : TI := fun σ H R => ta σ H fun vs H1 => ∃ j : Int, vs = [.int j] ∧ -(2 ^ 62) ≤ j ∧ j < 2 ^ 62 ∧ R (Itr 0 j.toNat) H1
theorem pi_range1 {a : Expr} {ta : TA} {p pos : Pos} (hg : Gl X "range") (hm : X.mg "range" = none) (ha : PA X [a] ta) (hs : starEach [a] X.env = [(false, eval a X.env)] := by rfl) : PI X tg (.Call (.Name "range" p) [a] [] pos) (iRng1 ta) := by
  intro pins s σ H R I h
  refine Call_ (ld_blt I hg hm boot_range (PyProof.Rows.callWith_type1 (thn (ha pos pins s σ H _ I h) fun us s1 ⟨vs, H1, I1, r1, q1⟩ => ?_) hs rfl))
  obtain ⟨j, e, q1, q2, q⟩ := q1
  subst e
  cases r1 with
  | cons r rr =>
    cases rr
    obtain ⟨t, rfl⟩ := r
    exact call_range_1 (range_it I1 (by omega) (by omega) q1 q2 (by simpa using q))
def tFor (wi : TI) (g : TG) (tb : TS) : TS := fun D σ H => wi σ H fun J H1 => ∃ W : Nat → Nat → St → Hp → Prop, (∃ m, W 0 m σ H1) ∧ ∀ i m σ H, W i m σ H →
  (J.stop i H ∧ D.nx σ H) ∨ (J.go i H ∧ ∃ N : St → Hp → Prop, (∀ σ' H', N σ' H' → ∃ m', m' < m ∧ W (i + 1) m' σ' H') ∧ ∀ x H', J.yld i H x H' → g x σ H' fun σ2 H2 => tb { D with nx := N, ct := N, bk := D.nx } σ2 H2)
def pinsAt (fp : List Addr) (h : Heap) : List (Addr × Obj) := fp.filterMap fun b => (h.get? b).map fun o => (b, o)
theorem mem_pinsAt {fp : List Addr} {h : Heap} {b : Addr} {o : Obj} (hb : b ∈ fp) (e : h.get? b = some o) : (b, o) ∈ pinsAt fp h := List.mem_filterMap.mpr ⟨b, hb, by rw [e]; rfl⟩
theorem of_pinsAt {fp : List Addr} {h : Heap} {p : Addr × Obj} (hp : p ∈ pinsAt fp h) : p.1 ∈ fp ∧ h.get? p.1 = some p.2 := by
  obtain ⟨b, hb, e⟩ := List.mem_filterMap.mp hp
  cases q : h.get? b with
  | none => rw [q] at e; cases e
  | some o =>
    rw [q] at e
    have e' : (b, o) = p := Option.some.inj e
    subst e'
    exact ⟨hb, q⟩
theorem Inv.pinned {pins : List (Addr × Obj)} {σ : St} {H : Hp} {s : Shared} {fp : List Addr} (I : Inv X pins σ H s) (hf : ∀ b ∈ fp, FpOk X pins H b) (ho : ∀ b ∈ fp, ∃ o, s.heap.get? b = some o ∧ ∀ v, o.data ≠ .cell v) : Inv X (pins ++ pinsAt fp s.heap) σ H s :=
  I.pins_of fun p hp => (List.mem_append.mp hp).elim (fun z => I.pin p (List.mem_append_right _ z)) fun z => by
    obtain ⟨hb, e⟩ := of_pinsAt z
    obtain ⟨f0, f1, f2, _⟩ := hf p.1 hb
    obtain ⟨o, e', d⟩ := ho p.1 hb
    rw [e] at e'; cases e'
    exact ⟨e, f0, f1, f2, d⟩
theorem Inv.unpinned {pins pl : List (Addr × Obj)} {σ : St} {H : Hp} {s : Shared} (I : Inv X (pins ++ pl) σ H s) : Inv X pins σ H s := I.pins_of fun p hp => I.pin p (List.mem_append_right _ (List.mem_append_left _ hp))
theorem ps_for {iter : Expr} {body : List Stmt} {wi : TI} {g : TG} {tb : TS} {pos : Pos} (hp : PassesOwn (model X.prog X.w) X.A X.env X.xe) (hc : X.calm = true) (hi : PI X tg iter wi) (hg : PG X tg g) (hb : PSs X body tb)
    (hs : ∀ x, foldedSetIterable iter X.env x = pure x := by intro _; rfl) : PS X (.For tg iter body [] pos) (tFor wi g tb) := by
  intro pins s σ H D I h
  refine wpAny_For (thn (hi pins s σ H _ I h) fun v s1 h1 => thn h1 fun itv s2 h2 => ?_) hs
  obtain ⟨it, fp, tn, J, H2, e, I2, T, st2, f2, W, ⟨m0, w0⟩, turn⟩ := h2
  subst e
  have stat : ∀ {H' : Hp}, (∀ b ∈ fp, H' b = none) → ∀ b ∈ fp, FpOk X pins H' b := fun hn b hb => ⟨hn b hb, (f2 b hb).2⟩
  refine codeAny_forLoop_any (fun n s' => ∃ i σ' H', Inv X pins σ' H' s' ∧ tn i s'.heap ∧ (∀ b ∈ fp, H' b = none) ∧ W i n σ' H') ?_ m0 ⟨0, σ, H2, I2, st2, fun b hb => (f2 b hb).1, w0⟩
  rintro n s3 ⟨i, σ3, H3, I3, st3, fr3, w3⟩
  rcases turn i n σ3 H3 w3 with ⟨stop, qn⟩ | ⟨go, N, hN, step⟩
  · refine wpAny_passesOwn hp (thn (T.done X rfl rfl rfl hc i pins s3 σ3 H3 X.xe I3 (stat fr3) st3 stop) fun r s4 ⟨hr, I4⟩ => ?_)
    subst hr
    exact wpAny_execs_nil ⟨σ3, H3, I4, qn⟩
  · refine wpAny_passesOwn hp (thn (T.item X rfl rfl rfl hc i pins s3 σ3 H3 X.xe I3 (stat fr3) st3 go) fun r s4 ⟨u, hr, h4⟩ => ?_)
    subst hr
    refine wpAny_passesOwn hp (thn h4 fun _ s5 ⟨x, H5, I5, r5, y5, st5, fr5⟩ => ?_)
    have I5' := I5.pinned (stat fr5) (T.obj _ _ st5)
    refine wpAny_passesOwn hp (thn (hg _ s5 σ3 H5 x u _ I5' r5 (step x H5 y5)) fun _ s6 ⟨σ6, H6, I6, q6⟩ => ?_)
    refine wpAny_passesOwn hp (thn (hb _ s6 σ6 H6 _ I6 q6) fun f s7 q7 => ?_)
    have again : ∀ {σ7 : St} {H7 : Hp}, Inv X (pins ++ pinsAt fp s5.heap) σ7 H7 s7 → N σ7 H7 → ∃ m, m < n ∧ ∃ i σ' H', Inv X pins σ' H' s7 ∧ tn i s7.heap ∧ (∀ b ∈ fp, H' b = none) ∧ W i m σ' H' := fun {σ7 H7} I7 n7 => by
      obtain ⟨m', hm, w7⟩ := hN σ7 H7 n7
      refine ⟨m', hm, i + 1, σ7, H7, I7.unpinned, T.keep _ _ _ st5 fun b hb o e => (I7.pin (b, o) (List.mem_append_right _ (List.mem_append_right _ (mem_pinsAt hb e)))).1, fun b hb => ?_, w7⟩
      obtain ⟨o, e, d⟩ := T.obj _ _ st5 b hb
      exact (I7.pin (b, o) (List.mem_append_right _ (List.mem_append_right _ (mem_pinsAt hb e)))).2.1
    cases f with
    | next => obtain ⟨σ7, H7, I7, n7⟩ := q7; exact again I7 n7
    | cont => obtain ⟨σ7, H7, I7, n7⟩ := q7; exact again I7 n7
    | brk => obtain ⟨σ7, H7, I7, q7⟩ := q7; exact ⟨σ7, H7, I7.unpinned, q7⟩
    | ret v => obtain ⟨x7, σ7, H7, I7, r7, q7⟩ := q7; exact ⟨x7, σ7, H7, I7.unpinned, r7, q7⟩
end
theorem for_list {K : PySem.W.Frag} {a : Addr} {xs : List V} {g : TG} {tb : TS} {D : Ends} {σ : St} {H : Hp} (Pv : Nat → St → Hp → Prop) (h0 : Pv 0 σ H) (hl : ∀ i σ H, i ≤ xs.length → Pv i σ H → SqL K H a xs)
    (hs : ∀ i x σ H, xs[i]? = some x → Pv i σ H → g x σ H fun σ2 H2 => tb { D with nx := Pv (i + 1), ct := Pv (i + 1), bk := D.nx } σ2 H2) (hd : ∀ σ H, Pv xs.length σ H → D.nx σ H) :
    ∃ W : Nat → Nat → St → Hp → Prop, (∃ m, W 0 m σ H) ∧ ∀ i m σ H, W i m σ H →
      ((Itl K a).stop i H ∧ D.nx σ H) ∨ ((Itl K a).go i H ∧ ∃ N : St → Hp → Prop, (∀ σ' H', N σ' H' → ∃ m', m' < m ∧ W (i + 1) m' σ' H') ∧ ∀ x H', (Itl K a).yld i H x H' → g x σ H' fun σ2 H2 => tb { D with nx := N, ct := N, bk := D.nx } σ2 H2) := by
  refine ⟨fun i m σ H => m = xs.length - i ∧ i ≤ xs.length ∧ Pv i σ H, ⟨xs.length, by simp, Nat.zero_le _, h0⟩, ?_⟩
  rintro i m σ H ⟨rfl, hi, p⟩
  have q := hl i σ H hi p
  by_cases hlt : i < xs.length
  · refine .inr ⟨⟨xs, xs[i], q, by simp [hlt]⟩, Pv (i + 1), fun σ' H' p' => ⟨xs.length - (i + 1), by omega, rfl, hlt, p'⟩, fun x H' y => ?_⟩
    obtain ⟨e, y⟩ := y
    subst e
    exact hs i x σ _ (y xs q) p
  · have e : i = xs.length := by omega
    subst e
    exact .inl ⟨⟨xs, q, Nat.le_refl _⟩, hd σ H p⟩
theorem for_range {lo : Int} {n : Nat} {g : TG} {tb : TS} {D : Ends} {σ : St} {H : Hp} (Pv : Nat → St → Hp → Prop) (h0 : Pv 0 σ H)
    (hs : ∀ i σ H, i < n → Pv i σ H → g (.int (lo + i)) σ H fun σ2 H2 => tb { D with nx := Pv (i + 1), ct := Pv (i + 1), bk := D.nx } σ2 H2) (hd : ∀ σ H, Pv n σ H → D.nx σ H) :
    ∃ W : Nat → Nat → St → Hp → Prop, (∃ m, W 0 m σ H) ∧ ∀ i m σ H, W i m σ H →
      ((Itr lo n).stop i H ∧ D.nx σ H) ∨ ((Itr lo n).go i H ∧ ∃ N : St → Hp → Prop, (∀ σ' H', N σ' H' → ∃ m', m' < m ∧ W (i + 1) m' σ' H') ∧ ∀ x H', (Itr lo n).yld i H x H' → g x σ H' fun σ2 H2 => tb { D with nx := N, ct := N, bk := D.nx } σ2 H2) := by
  refine ⟨fun i m σ H => m = n - i ∧ i ≤ n ∧ Pv i σ H, ⟨n, by simp, Nat.zero_le _, h0⟩, ?_⟩
  rintro i m σ H ⟨rfl, hi, p⟩
  by_cases hlt : i < n
  · refine .inr ⟨hlt, Pv (i + 1), fun σ' H' p' => ⟨n - (i + 1), by omega, rfl, hlt, p'⟩, fun x H' y => ?_⟩
    obtain ⟨e, y⟩ := y
    subst e y
    exact hs i σ _ hlt p
  · have e : i = n := by omega
    subst e
    exact .inl ⟨Nat.le_refl _, hd σ H p⟩
end L2
namespace L2
open PySem PySem.Spec PyProof.Rows
abbrev R2 := V → V → Hp → VK → Prop
def OpR (X : Cx) (f : Value → Value → Sem Value) (r : R2) : Prop :=
  ∀ (pins : List (Addr × Obj)) (s : Shared) (σ : St) (H : Hp) (x y : V) (v u : Value) (Q : VK), Inv X pins σ H s → RelV x v → RelV y u → r x y H Q →
    wpAny (model X.prog X.w) X.A (f v u) (EP X pins σ Q) X.xe s
def CallR (X : Cx) (f : Value) (r : List V → Hp → VK → Prop) : Prop :=
  ∀ (pins : List (Addr × Obj)) (s : Shared) (σ : St) (H : Hp) (xs : List V) (us : List Value) (Q : VK), Inv X pins σ H s → Vals xs us → r xs H Q →
    wpAny (model X.prog X.w) X.A (call f us) (EP X pins σ Q) X.xe s
def tOp (r : R2) (ta tb : TE) : TE := fun σ H Q => ta σ H fun x H1 => tb σ H1 fun y H2 => r x y H2 Q
def rI0 (g : Int → Int → V) : R2 := fun x y H Q => ∃ i j, x = .int i ∧ y = .int j ∧ Q (g i j) H
section
variable {X : Cx} {a b c : Expr} {ta tb tc : TE} {pos : Pos}
theorem binT (ha : PE X a ta) (hb : PE X b tb) {pins : List (Addr × Obj)} {s : Shared} {σ : St} {H : Hp} {R : V → V → Hp → Prop} (I : Inv X pins σ H s)
    (h : ta σ H fun x H1 => tb σ H1 fun y H2 => R x y H2) {Q : Value → Shared → Prop} {f : Value → Value → Sem Value}
    (hf : ∀ v u s2 x y H2, Inv X pins σ H2 s2 → RelV x v → RelV y u → R x y H2 → wpAny (model X.prog X.w) X.A (f v u) Q X.xe s2) :
    wpAny (model X.prog X.w) X.A (eval a X.env) (fun v s₁ => wpAny (model X.prog X.w) X.A (eval b X.env) (fun u s₂ => wpAny (model X.prog X.w) X.A (f v u) Q X.xe s₂) X.xe s₁) X.xe s := by
  refine thn (ha pins s σ H _ I h) fun v s1 ⟨x, H1, I1, r1, q1⟩ => ?_
  refine thn (hb pins s1 σ H1 _ I1 q1) fun u s2 ⟨y, H2, I2, r2, q2⟩ => ?_
  exact hf v u s2 x y H2 I2 r1 r2 q2
theorem opB0 {f : Value → Value → Sem Value} {g : Int → Int → Bool}
    (rule : ∀ (i j : Int) (t u : Tok) (s : Shared) (Q : Value → Shared → Prop) (E : Value → Shared → Prop), Q (.bool (g i j)) s → wpAny (model X.prog X.w) X.A (f (.int i t) (.int j u)) Q E s) :
    OpR X f (rI0 fun i j => .bl (g i j)) := by
  intro pins s σ H x y v u Q I rx ry h
  obtain ⟨i, j, rfl, rfl, q⟩ := h
  obtain ⟨t, rfl⟩ := rx
  obtain ⟨t', rfl⟩ := ry
  exact rule i j t t' s _ _ ⟨.bl (g i j), H, I, rfl, q⟩
def CMul (i j : Int) : Prop := (-(2 ^ 64) < i ∧ i < 2 ^ 64) ∨ (-(2 ^ 64) < j ∧ j < 2 ^ 64)
theorem CMul.ok {i j : Int} (h : CMul i j) : IntMulOk i j := by
  rcases h with ⟨h1, h2⟩ | ⟨h1, h2⟩
  · exact .of_left (intBits_le_64 h1 h2)
  · exact .of_right (intBits_le_64 h1 h2)
end
def scal : V → V → Bool
  | .non, .non => true | .non, .int _ => true | .int _, .non => true | .non, .bl _ => true | .bl _, .non => true | .non, .str _ => true | .str _, .non => true
  | .int _, .int _ => true | .bl _, .bl _ => true | .str _, .str _ => true | .byt _, .byt _ => true
  | .int _, .str _ => true | .str _, .int _ => true | .bl _, .str _ => true | .str _, .bl _ => true
  | _, _ => false
def rEq : R2 := fun x y H Q => scal x y = true ∧ Q (.bl (decide (x = y))) H
def rNe : R2 := fun x y H Q => scal x y = true ∧ Q (.bl (!decide (x = y))) H
theorem dec_int {i j : Int} : decide (V.int i = V.int j) = (i == j) := by
  rw [Bool.eq_iff_iff]
  simp
theorem dec_bl {i j : Bool} : decide (V.bl i = V.bl j) = (i == j) := by
  rw [Bool.eq_iff_iff]
  simp
theorem dec_str {i j : Str} : decide (V.str i = V.str j) = (i == j) := by
  rw [Bool.eq_iff_iff]
  simp
theorem dec_byt {i j : Array UInt8} : decide (V.byt i = V.byt j) = (i.toList == j.toList) := by
  rw [Bool.eq_iff_iff]
  cases i
  cases j
  simp
section
variable {X : Cx} {a b c : Expr} {ta tb tc : TE} {pos : Pos}
theorem fin_bl {pins : List (Addr × Obj)} {σ : St} {H : Hp} {s : Shared} {Q : VK} {k k' : Bool} (I : Inv X pins σ H s) (q : Q (.bl k) H) (e : k = k') : EP X pins σ Q (.bool k') s := by
  subst e
  exact ⟨.bl k, H, I, rfl, q⟩
theorem op_eq : OpR X (compareOp .Eq) rEq := by
  intro pins s σ H x y v u Q I rx ry h
  obtain ⟨hs, q⟩ := h
  cases x with
  | non =>
    cases rx
    cases y with
    | non => cases ry; exact PySem.EqNone.eq_none_none (fin_bl I q (by simp))
    | bl j => cases ry; exact PySem.EqNone.eq_none_bool (fin_bl I q (by simp))
    | int j => obtain ⟨t', rfl⟩ := ry; exact PySem.EqNone.eq_none_int (fin_bl I q (by simp))
    | str j => obtain ⟨t', rfl⟩ := ry; exact PySem.EqNone.eq_none_str (fin_bl I q (by simp))
    | _ => exact absurd (show false = true from hs) Bool.false_ne_true
  | bl i =>
    cases rx
    cases y with
    | non => cases ry; exact PySem.EqNone.eq_bool_none (fin_bl I q (by simp))
    | bl j => cases ry; exact eq_bool (fin_bl I q dec_bl)
    | str j => obtain ⟨t', rfl⟩ := ry; exact PySem.EqMixed.eq_bool_str (fin_bl I q (by simp))
    | _ => exact absurd (show false = true from hs) Bool.false_ne_true
  | int i =>
    obtain ⟨t, rfl⟩ := rx
    cases y with
    | non => cases ry; exact PySem.EqNone.eq_int_none (fin_bl I q (by simp))
    | int j => obtain ⟨t', rfl⟩ := ry; exact eq_int (fin_bl I q dec_int)
    | str j => obtain ⟨t', rfl⟩ := ry; exact PySem.EqMixed.eq_int_str (fin_bl I q (by simp))
    | _ => exact absurd (show false = true from hs) Bool.false_ne_true
  | str i =>
    obtain ⟨t, rfl⟩ := rx
    cases y with
    | non => cases ry; exact PySem.EqNone.eq_str_none (fin_bl I q (by simp))
    | bl j => cases ry; exact PySem.EqMixed.eq_str_bool (fin_bl I q (by simp))
    | int j => obtain ⟨t', rfl⟩ := ry; exact PySem.EqMixed.eq_str_int (fin_bl I q (by simp))
    | str j => obtain ⟨t', rfl⟩ := ry; exact eq_str (fin_bl I q dec_str)
    | _ => exact absurd (show false = true from hs) Bool.false_ne_true
  | byt i =>
    obtain ⟨t, rfl⟩ := rx
    cases y with
    | byt j => obtain ⟨t', rfl⟩ := ry; exact PySem.W.eq_bytes (fin_bl I q dec_byt)
    | _ => exact absurd (show false = true from hs) Bool.false_ne_true
  | _ => cases y <;> exact absurd (show false = true from hs) Bool.false_ne_true
theorem op_ne : OpR X (compareOp .NotEq) rNe := by
  intro pins s σ H x y v u Q I rx ry h
  obtain ⟨hs, q⟩ := h
  cases x with
  | non =>
    cases rx
    cases y with
    | non => cases ry; exact PySem.EqNone.ne_none_none (fin_bl I q (by simp))
    | bl j => cases ry; exact PySem.EqNone.ne_none_bool (fin_bl I q (by simp))
    | int j => obtain ⟨t', rfl⟩ := ry; exact PySem.EqNone.ne_none_int (fin_bl I q (by simp))
    | str j => obtain ⟨t', rfl⟩ := ry; exact PySem.EqNone.ne_none_str (fin_bl I q (by simp))
    | _ => exact absurd (show false = true from hs) Bool.false_ne_true
  | bl i =>
    cases rx
    cases y with
    | non => cases ry; exact PySem.EqNone.ne_bool_none (fin_bl I q (by simp))
    | bl j => cases ry; exact ne_bool (fin_bl I q (congrArg not dec_bl))
    | str j => obtain ⟨t', rfl⟩ := ry; exact PySem.EqMixed.ne_bool_str (fin_bl I q (by simp))
    | _ => exact absurd (show false = true from hs) Bool.false_ne_true
  | int i =>
    obtain ⟨t, rfl⟩ := rx
    cases y with
    | non => cases ry; exact PySem.EqNone.ne_int_none (fin_bl I q (by simp))
    | int j => obtain ⟨t', rfl⟩ := ry; exact ne_int (fin_bl I q (congrArg not dec_int))
    | str j => obtain ⟨t', rfl⟩ := ry; exact PySem.EqMixed.ne_int_str (fin_bl I q (by simp))
    | _ => exact absurd (show false = true from hs) Bool.false_ne_true
  | str i =>
    obtain ⟨t, rfl⟩ := rx
    cases y with
    | non => cases ry; exact PySem.EqNone.ne_str_none (fin_bl I q (by simp))
    | bl j => cases ry; exact PySem.EqMixed.ne_str_bool (fin_bl I q (by simp))
    | int j => obtain ⟨t', rfl⟩ := ry; exact PySem.EqMixed.ne_str_int (fin_bl I q (by simp))
    | str j => obtain ⟨t', rfl⟩ := ry; exact ne_str (fin_bl I q (congrArg not dec_str))
    | _ => exact absurd (show false = true from hs) Bool.false_ne_true
  | byt i =>
    obtain ⟨t, rfl⟩ := rx
    cases y with
    | byt j => obtain ⟨t', rfl⟩ := ry; exact PySem.W.ne_bytes (fin_bl I q (congrArg not dec_byt))
    | _ => exact absurd (show false = true from hs) Bool.false_ne_true
  | _ => cases y <;> exact absurd (show false = true from hs) Bool.false_ne_true
theorem op_lt : OpR X (compareOp .Lt) (rI0 fun i j => .bl (decide (i < j))) := opB0 fun _ _ _ _ _ _ _ q => lt_int q
theorem op_gt : OpR X (compareOp .Gt) (rI0 fun i j => .bl (decide (j < i))) := opB0 fun _ _ _ _ _ _ _ q => gt_int q
theorem op_ge : OpR X (compareOp .GtE) (rI0 fun i j => .bl (decide (j ≤ i))) := opB0 fun _ _ _ _ _ _ _ q => ge_int q
theorem OpR.or {f : Value → Value → Sem Value} {r r' : R2} (h : OpR X f r) (h' : OpR X f r') : OpR X f (fun x y H Q => r x y H Q ∨ r' x y H Q) := by
  intro pins s σ H x y v u Q I rx ry q
  rcases q with q | q
  · exact h pins s σ H x y v u Q I rx ry q
  · exact h' pins s σ H x y v u Q I rx ry q
theorem nomark (b : Expr) {op : CmpOp} (h : op ≠ .In := by decide) (h2 : op ≠ .NotIn := by decide) : behindInMarks op b = false := by
  have e1 : (op == CmpOp.In) = false := by cases op <;> first | rfl | exact absurd rfl h
  have e2 : (op == CmpOp.NotIn) = false := by cases op <;> first | rfl | exact absurd rfl h2
  cases b <;> simp [behindInMarks, e1, e2]
theorem pe_cmpR {op : CmpOp} {r : R2} (ho : OpR X (compareOp op) r) (ha : PE X a ta) (hb : PE X b tb) (hm : behindInMarks op b = false) : PE X (.Compare a [op] [b] pos) (tOp r ta tb) := by
  intro pins s σ H Q I h
  exact wpAny_Compare1 (binT ha hb I h fun v u s2 x y H2 I2 rx ry q => ho pins s2 σ H2 x y v u Q I2 rx ry q) hm
def tTest (t : TE) : TT := fun σ H Q => t σ H fun x H' => ∃ k, x = .bl k ∧ Q k H'
theorem pt_cmpR {op : CmpOp} {r : R2} (ho : OpR X (compareOp op) r) (ha : PE X a ta) (hb : PE X b tb) (hm : behindInMarks op b = false) : PT X (.Compare a [op] [b] pos) (tTest (tOp r ta tb)) := by
  intro pins s σ H Q I h
  refine wpAny_isTrue_Compare1 (thn (ha pins s σ H _ I h) fun v s1 ⟨x, H1, I1, r1, q1⟩ => thn (hb pins s1 σ H1 _ I1 q1) fun u s2 ⟨y, H2, I2, r2, q2⟩ =>
    thn (ho pins s2 σ H2 x y v u _ I2 r1 r2 q2) fun c s3 ⟨z, H3, I3, r3, k, e, q3⟩ => ?_) hm
  subst e
  cases r3
  exact wpAny_truthy_bool ⟨H3, I3, q3⟩
theorem line63 : (sizeLine : Nat) < 2 ^ 63 := by rw [sizeLine_eq]; decide
theorem vals1 {x : V} {us : List Value} (r : Vals [x] us) : ∃ u, us = [u] ∧ RelV x u := by
  cases r with
  | cons r1 r2 => cases r2; exact ⟨_, rfl, r1⟩
end
end L2
namespace L2
open PySem PySem.Spec PyProof.Rows
structure ObjM (h : Heap) (x dx C : Addr) (mA : Str → Option Value) : Prop where
  obj : h.get? x = some (PySem.W.instObj C dx)
  ns : h.Ns1 dx mA
  ne : dx ≠ x
theorem lookIn_ns {h : Heap} {dx : Addr} {mA : Str → Option Value} (n : h.Ns1 dx mA) : ∃ od, h.get? dx = some od ∧ ∀ name, PySem.W.lookIn name od = some (mA name) := by
  obtain ⟨o, es, ep, ho, hd, hk, _, hm⟩ := n
  refine ⟨o, ho, fun name => ?_⟩
  have e := hm name
  unfold nsFind findBy at e
  rw [← Array.find?_toList] at e
  unfold PySem.W.lookIn
  rw [hd]
  dsimp only
  split
  · rename_i y q
    rw [q] at e
    exact congrArg some e
  · rename_i q
    rw [q] at e
    have a : es.toList.any (·.refKey) = false := by
      rw [List.any_eq_false]
      intro y hy
      obtain ⟨z, t, hkey⟩ := hk y (Array.mem_toList_iff.mp hy)
      simp [DictEntry.refKey, hkey]
    have a' : ¬ es.toList.any (·.refKey) = true := by rw [a]; exact Bool.false_ne_true
    rw [if_neg a']
    exact congrArg some e
theorem ObjM.look {h : Heap} {x dx C : Addr} {mA : Str → Option Value} (I : ObjM h x dx C mA) : ∃ od, PySem.W.InstAt h x (PySem.W.instObj C dx) C (some od) ∧ ∀ name, PySem.W.lookIn name od = some (mA name) :=
  let ⟨od, ho, hl⟩ := lookIn_ns I.ns
  ⟨od, ⟨I.obj, rfl, rfl, ho⟩, hl⟩
section
variable {prog : Program} {w : World} {A : Around} {E : Value → Shared → Prop} {s : Shared} {K : PySem.W.Frag} {x dx C f : Addr} {mA : Str → Option Value} {name : Str} {v : Value}
end
section
variable {P : Program} {w : World} {H H' : Hp} {h h' : Heap} {a C dx : Addr} {fs fs' : List (Str × V)}
end
structure Cls (K : PySem.W.Frag) (C : Addr) : Prop where
  pg : PySem.W.plainGet K C Str.empty = true
  hd : PySem.W.hasDictIn K C = true
  po : PySem.W.plainOver K C = true
  sa : PySem.W.findIn K (.ref C) "__setattr__" = some (some (.builtin "object.__setattr__"))
theorem Cls.get {K : PySem.W.Frag} {C : Addr} (c : Cls K C) (f : Str) : PySem.W.plainGet K C f = true := c.pg
section
variable {X : Cx} {pins : List (Addr × Obj)} {σ : St} {H : Hp} {s : Shared} {a C dx : Addr} {fs : List (Str × V)} {f : Str} {v : V} {A : Around} {E : Value → Shared → Prop}
theorem Inv.made (I : Inv X pins σ H s) : Inv X pins σ (upd (upd H s.heap.objs.size (.own (s.heap.objs.size + 1))) (s.heap.objs.size + 1) (.ins C s.heap.objs.size []))
    { s with heap := (s.heap.push PySem.W.emptyDict).push (PySem.W.instObj C s.heap.objs.size) } := by
  have e1 : (s.heap.push PySem.W.emptyDict).get? s.heap.objs.size = some PySem.W.emptyDict := Heap.get?_push_size s.heap rfl
  have e2 : ((s.heap.push PySem.W.emptyDict).push (PySem.W.instObj C s.heap.objs.size)).get? (s.heap.objs.size + 1) = some (PySem.W.instObj C s.heap.objs.size) := by
    have := Heap.get?_push_size (s.heap.push PySem.W.emptyDict) (o := PySem.W.instObj C s.heap.objs.size) rfl
    rwa [Heap.size_push] at this
  have e3 : (s.heap.push PySem.W.emptyDict).Ns s.heap.objs.size (fun _ => none) := ⟨PySem.W.emptyDict, #[], _, e1, rfl, (fun e he => absurd he (by simp)), fun _ => rfl⟩
  have I1 := I.laid (a := s.heap.objs.size) (o := .own (s.heap.objs.size + 1)) (h' := s.heap.push PySem.W.emptyDict) (t' := s.toks) (fun b u q => Heap.get?_push_of_some _ q) (Nat.le_refl _) ⟨_, e1⟩
  refine I1.laid (a := s.heap.objs.size + 1) (o := .ins C s.heap.objs.size []) (t' := s.toks) (fun b u q => Heap.get?_push_of_some _ q) (Nat.le_of_eq (Heap.size_push _ _)) ?_
  have ne : s.heap.objs.size ≠ s.heap.objs.size + 1 := Nat.ne_of_lt (Nat.lt_succ_self _)
  refine ⟨by rw [upd_ne ne, upd_same], Nat.zero_le _, ne, e2, fun _ => none, (Heap.Ns1.of_empty e3).at fun o q => Heap.get?_push_of_some _ q, fun _ => True.intro, fun y hy => absurd rfl hy⟩
end
section
variable {X : Cx} {o e value : Expr} {f : Str} {pos pos' tpos : Pos} {ta tv : TE}
end
section
variable {X : Cx} {pins : List (Addr × Obj)} {σ : St} {H : Hp} {s : Shared} {A : Around} {E : Value → Shared → Prop} {Q : Value → Shared → Prop} {c : Value} {b : Bool}
end
end L2
namespace L2
open PySem PySem.Spec PyProof.Rows
structure Room (k : Nat) (A : Around) : Prop where
  hd : A.handled = none
  dp : A.depth + 3 * k + 5 < recursionLimit
  un : A.units + 16 * k + 200 < cLine
theorem Room.mono {j k : Nat} {A : Around} (r : Room k A) (h : j ≤ k) : Room j A := ⟨r.hd, by have := r.dp; omega, by have := r.un; omega⟩
theorem Room.deeper {k : Nat} {A : Around} (r : Room (k + 1) A) (env : Env) : Room k (A.deeper env) :=
  ⟨r.hd, by have := r.dp; show A.depth + 1 + 3 * k + 5 < _; omega, by have := r.un; show A.units + 3 + 16 * k + 200 < _; omega⟩
theorem Room.in1 {k : Nat} {A : Around} (r : Room (k + 1) A) : Room k A.in1 :=
  ⟨r.hd, by have := r.dp; show A.depth + 3 * k + 5 < _; omega, by have := r.un; show A.units + 1 + 16 * k + 200 < _; omega⟩
theorem Room.depth {k : Nat} {A : Around} (r : Room k A) : A.depth < recursionLimit := by have := r.dp; omega
theorem Room.units {k : Nat} {A : Around} (r : Room k A) : A.units + 64 < cLine := by have := r.un; omega
def tNil : TA := fun _ H Q => Q [] H
def tCons (ta : TE) (tr : TA) : TA := fun σ H Q => ta σ H fun x H1 => tr σ H1 fun xs H2 => Q (x :: xs) H2
section
variable {X : Cx} {e : Expr} {es : List Expr} {te : TE} {t : TA} {pos : Pos}
theorem pa_nil : PA X [] tNil := fun _ _ _ _ H Q I h => Calls.spliced_nil ⟨[], H, I, .nil, h⟩
theorem pa_cons (ha : PE X e te) (hr : PA X es t) (hs : starEach (e :: es) X.env = (false, eval e X.env) :: starEach es X.env := by rfl) : PA X (e :: es) (tCons te t) := by
  intro pos pins s σ H Q I h
  rw [hs]
  show wpAny _ _ (spliced ((false, eval e X.env) :: backTo pos (starEach es X.env))) _ _ s
  refine Calls.spliced_cons (thn (ha pins s σ H _ I h) fun u s1 ⟨x, H1, I1, r1, q1⟩ => ?_)
  exact thn (hr pos pins s1 σ H1 _ I1 q1) fun us s2 ⟨xs, H2, I2, r2, q2⟩ => ⟨x :: xs, H2, I2, .cons r1 r2, q2⟩
def tTup (t : TA) : TE := fun σ H Q => t σ H fun xs H1 => xs.length ≤ sizeLine ∧ ∀ p, H1 p = none → Q (.ref p) (upd H1 p (.tup xs))
def tLst (t : TA) : TE := fun σ H Q => t σ H fun xs H1 => xs.length ≤ sizeLine ∧ ∀ p, H1 p = none → Q (.ref p) (upd H1 p (.lst xs))
theorem pe_tup {x1} (h : PA X es t) : PE X (.Tuple es x1 pos) (tTup t) := by
  intro pins s σ H Q I hq
  refine wpAny_Tuple_spliced (thn (h pos pins s σ H _ I hq) fun us s1 ⟨xs, H1, I1, r, z, q⟩ => ⟨by rw [← r.length]; exact z, ?_⟩)
  have hf : H1 s1.heap.objs.size = none := I1.hok.fresh (Nat.le_refl _)
  refine ⟨.ref s1.heap.objs.size, upd H1 s1.heap.objs.size (.tup xs), I1.laid (t' := s1.toks) (fun b u e => Heap.get?_push_of_some _ e) (Nat.le_refl _) ?_, rfl, q _ hf⟩
  exact ⟨z, us, r, ⟨_, Heap.get?_push_size _ rfl, rfl, _, rfl⟩⟩
theorem pe_lst (h : PA X es t) : PE X (.List es pos) (tLst t) := by
  intro pins s σ H Q I hq
  refine wpAny_List_spliced (thn (h pos pins s σ H _ I hq) fun us s1 ⟨xs, H1, I1, r, z, q⟩ => ⟨by rw [← r.length]; exact z, ?_⟩)
  have hf : H1 s1.heap.objs.size = none := I1.hok.fresh (Nat.le_refl _)
  refine ⟨.ref s1.heap.objs.size, upd H1 s1.heap.objs.size (.lst xs), I1.laid (t' := s1.toks) (fun b u e => Heap.get?_push_of_some _ e) (Nat.le_refl _) ?_, rfl, q _ hf⟩
  exact ⟨z, us, 0, r, Heap.get?_push_size _ rfl⟩
end
abbrev Sp := List V → Hp → VK → XK → Prop
abbrev CXT := List Env → Hp → Shared → XK → Value → Shared → Prop
structure Env0 (P : Program) (w : World) (K : PySem.W.Frag) (mg : Str → Option Value) (base : Heap) (A : Around) (outer : List Env) (s : Shared) (H : Hp) : Prop where
  frames : A.frames = some outer
  mod : Mod K mg base
  bs : ∀ b o, base.get? b = some o → s.heap.get? b = some o ∧ H b = none
  bsz : base.objs.size ≤ s.heap.objs.size
  funs : s.heap.FunFrames base outer
  frf : ∀ b ∈ frs outer, H b = none
  hok : HOk P w H s.heap
  bare : AllBare s.gens
def CE (outer : List Env) (P : Program) (w : World) (H : Hp) (s : Shared) (Q : VK) (u : Value) (s' : Shared) : Prop :=
  ∃ v H', s'.os = s.os ∧ AllBare s'.gens ∧ Un (frs outer) [] H H' s.heap s'.heap ∧ HOk P w H' s'.heap ∧ RelV v u ∧ Q v H'
def CR (CX : CXT) (outer : List Env) (P : Program) (w : World) (H : Hp) (s : Shared) (Q : VK) (E : XK) (r : Result) (s' : Shared) : Prop :=
  match r with
  | .ok (.ret u) => CE outer P w H s Q u s'
  | .ok _ => False
  | .error e => CX outer H s E e s'
structure FnOk (P : Program) (w : World) (K : PySem.W.Frag) (mg : Str → Option Value) (base : Heap) (CX : CXT) (k : Nat) (f : Addr) (fd : FuncData) (ps : List Str) (sp : Sp) : Prop where
  len : ∀ vs H Q E, sp vs H Q E → vs.length = ps.length
  run : ∀ (A : Around) (outer : List Env) (s : Shared) (H : Hp) (args : Args) (us : List Value) (vs : List V) (Q : VK) (E : XK), Room k A → Env0 P w K mg base A outer s H → BindsTo s fd args (ps.zip us) → Vals vs us → sp vs H Q E →
    codeAny (model P w) A (.call (.ref f) args) (CR CX outer P w H s Q E) s
theorem FnOk.mono {P : Program} {w : World} {K : PySem.W.Frag} {mg : Str → Option Value} {base : Heap} {CX : CXT} {j k : Nat} {f : Addr} {fd : FuncData} {ps : List Str} {sp : Sp} (F : FnOk P w K mg base CX j f fd ps sp) (h : j ≤ k) :
    FnOk P w K mg base CX k f fd ps sp := ⟨F.len, fun A outer s H args us vs Q E hr => F.run A outer s H args us vs Q E (hr.mono h)⟩
theorem FnOk.imp {P : Program} {w : World} {K : PySem.W.Frag} {mg : Str → Option Value} {base : Heap} {CX : CXT} {k : Nat} {f : Addr} {fd : FuncData} {ps : List Str} {sp sp' : Sp} (F : FnOk P w K mg base CX k f fd ps sp)
    (h : ∀ vs H Q E, sp' vs H Q E → sp vs H Q E) : FnOk P w K mg base CX k f fd ps sp' :=
  ⟨fun vs H Q E q => F.len vs H Q E (h _ _ _ _ q), fun A outer s H args us vs Q E hr he hb hv hs => F.run A outer s H args us vs Q E hr he hb hv (h _ _ _ _ hs)⟩
theorem Env0.in1 {P : Program} {w : World} {K : PySem.W.Frag} {mg : Str → Option Value} {base : Heap} {A : Around} {outer : List Env} {s : Shared} {H : Hp} (e : Env0 P w K mg base A outer s H) :
    Env0 P w K mg base A.in1 outer s H := ⟨e.frames, e.mod, e.bs, e.bsz, e.funs, e.frf, e.hok, e.bare⟩
section
variable {X : Cx} {pins : List (Addr × Obj)} {σ : St} {H : Hp} {s s' : Shared}
theorem Inv.env0 (I : Inv X pins σ H s) : Env0 X.prog X.w X.K X.mg X.base X.A X.stack s H :=
  ⟨I.ok.frames, I.ok.mod, I.bs, Nat.le_trans I.ok.bsz I.sz, I.stack, I.stkFree, I.hok, I.bare⟩
theorem Inv.after {Q : VK} {u : Value} (I : Inv X pins σ H s) (h : CE X.stack X.prog X.w H s Q u s') : EP X pins σ Q u s' := by
  obtain ⟨v, H', os, bare, un, hok, r, q⟩ := h
  obtain ⟨hh, g, d, t, os'⟩ := s'
  obtain rfl : os' = s.os := os
  exact ⟨v, H', I.call (h' := hh) (g' := g) (d' := d) (t' := t) (ch := []) un hok bare (fun b z => absurd z (by simp)), r, q⟩
end
def tCall (sp : Sp) (dvs : List V) (E : XK) (t : TA) : TE := fun σ H Q => t σ H fun vs H1 => sp (vs ++ dvs) H1 Q E
def Binds (K : PySem.W.Frag) (fd : FuncData) (ps : List Str) (ds : List Value) : Prop :=
  ∀ (s : Shared) (us : List Value), K.In s.heap → (us ++ ds).length = ps.length → BindsTo s fd ⟨us, []⟩ (ps.zip (us ++ ds))
theorem Binds.all {K : PySem.W.Frag} {fd : FuncData} {ps : List Str} (h : ∀ us : List Value, us.length = ps.length → bindArgs fd ⟨us, []⟩ = pure (ps.zip us)) : Binds K fd ps [] := fun s us _ hl => by
  rw [List.append_nil] at hl ⊢
  exact .of_eq (h us hl)
def Passes (CX : CXT) (X : Cx) (E : XK) : Prop := ∀ (pins : List (Addr × Obj)) (σ : St) (H : Hp) (s : Shared) (e : Value) (s' : Shared), Inv X pins σ H s → CX X.stack H s E e s' → X.xe e s'
section
variable {X : Cx} {CX : CXT} {k : Nat} {f C : Addr} {fd : FuncData} {ps : List Str} {sp : Sp} {dvs : List V} {ds : List Value} {E : XK} {x m : Str} {p pos apos : Pos} {e o : Expr} {es : List Expr} {ta : TE} {t : TA}
theorem run_fn {pins : List (Addr × Obj)} {σ : St} {H : Hp} {s : Shared} {Q : VK} {us : List Value} {vs : List V} (F : FnOk X.prog X.w X.K X.mg X.base CX k f fd ps sp) (hr : Room k X.A) (hb : Binds X.K fd ps ds) (hd : Vals dvs ds) (hx : Passes CX X E)
    (I : Inv X pins σ H s) (r : Vals vs us) (h : sp (vs ++ dvs) H Q E) : wpAny (model X.prog X.w) X.A (call (.ref f) us) (EP X pins σ Q) X.xe s := by
  have r2 : Vals (vs ++ dvs) (us ++ ds) := r.append hd
  have hl : (us ++ ds).length = ps.length := by rw [← r2.length]; exact F.len _ _ _ _ h
  refine wpAny_call (codeAny_mono (F.run X.A X.stack s H ⟨us, []⟩ (us ++ ds) (vs ++ dvs) Q E hr I.env0 (hb s us I.kIn hl) r2 h) fun r s' hq => ?_)
  cases r with
  | error e => exact hx pins σ H s e s' I hq
  | ok fl =>
    cases fl with
    | ret u => exact I.after hq
    | next => exact False.elim hq
    | brk => exact False.elim hq
    | cont => exact False.elim hq
theorem pe_call (F : FnOk X.prog X.w X.K X.mg X.base CX k f fd ps sp) (hr : Room k X.A) (hg : Gl X x) (hm : X.mg x = some (.ref f)) (hk : PySem.W.keepIn X.K (.ref f) = true) (hb : Binds X.K fd ps ds) (hd : Vals dvs ds) (hx : Passes CX X E)
    (ha : PA X (e :: es) t) (hdb : (x == ("__debug__" : Str)) = false := by decide) (he : starEach (e :: es) X.env = (false, eval e X.env) :: starEach es X.env := by rfl) (hpl : (backTo pos (starEach es X.env)).any (·.1) = false := by rfl) :
    PE X (.Call (.Name x p) (e :: es) [] pos) (tCall sp dvs E t) := by
  intro pins s σ H Q I h
  refine wpAny_Call_Name_kw (ld_glob I hg hm ?_ hdb)
  refine PySem.W.callWith_K (h₀ := X.base) I.ok.mod.kin hk (thn (ha pos pins s σ H _ I h) fun us s1 ⟨vs, H1, I1, r, q⟩ => ⟨I1.kIn, ?_⟩) he hpl
  exact run_fn F hr hb hd hx I1 r q
end
section
variable {X : Cx} {CX : CXT} {k : Nat} {f C : Addr} {fd : FuncData} {ps ks : List Str} {sp : Sp} {E : XK} {x m : Str} {p pos apos kpos : Pos} {e o : Expr} {es : List Expr} {kws : List Keyword} {te ta : TE} {t tk : TA} {nm : Option Str}
variable {g : List Value → List Value → List Value} {gV : List V → List V → List V}
end
structure FnScope (N P : List Str) (sc : Scope) : Prop where
  kind : sc.kind = .function
  co : sc.isCoroutine = false
  gen : sc.isGenerator = false
  nd : N.Nodup
  pre : N.take P.length = P
  par : ∀ x ∈ P, sc.names.lookup x = some .local ∨ sc.names.lookup x = some .cell
  nofree : ∀ y ∈ sc.names, y.2 ≠ .free
theorem bindL_out {kindOf : Str → Option NameKind} {x : Str} : ∀ {binds : List (Str × Value)} {m : Str → Option Value}, (∀ v, (x, v) ∉ binds) → bindL kindOf binds m x = m x
  | [], _, _ => rfl
  | (n, v) :: r, m, h => by
    unfold bindL
    rw [bindL_out fun w hw => h w (List.mem_cons_of_mem _ hw)]
    split
    · have : x ≠ n := by rintro rfl; exact h v List.mem_cons_self
      simp [this]
    · rfl
theorem bindC_out {kindOf : Str → Option NameKind} {x : Str} : ∀ {binds : List (Str × Value)} {m : Str → Option Value}, (∀ v, (x, v) ∉ binds) → bindC kindOf binds m x = m x
  | [], _, _ => rfl
  | (n, v) :: r, m, h => by
    unfold bindC
    rw [bindC_out fun w hw => h w (List.mem_cons_of_mem _ hw)]
    split
    · rfl
    · have : x ≠ n := by rintro rfl; exact h v List.mem_cons_self
      simp [this]
theorem bindL_get {kindOf : Str → Option NameKind} {x : Str} {v : Value} : ∀ {P : List Str} {vs : List Value} {i : Nat} {m : Str → Option Value}, P.Nodup → P[i]? = some x → vs[i]? = some v → kindOf x = some .local →
    bindL kindOf (P.zip vs) m x = some v
  | [], _, _, _, _, h, _, _ => by simp at h
  | _ :: _, [], _, _, _, _, h, _ => by simp at h
  | p :: P, w :: vs, 0, m, nd, h1, h2, hk => by
    simp at h1 h2; subst h1; subst h2
    show bindL kindOf ((p, w) :: P.zip vs) m p = _
    unfold bindL
    rw [bindL_out fun v hv => (List.nodup_cons.mp nd).1 (List.of_mem_zip hv).1, if_pos hk]
    simp
  | p :: P, w :: vs, i + 1, m, nd, h1, h2, hk => by
    show bindL kindOf ((p, w) :: P.zip vs) m x = _
    unfold bindL
    exact bindL_get (i := i) (List.nodup_cons.mp nd).2 (by simpa using h1) (by simpa using h2) hk
theorem bindC_get {kindOf : Str → Option NameKind} {x : Str} {v : Value} : ∀ {P : List Str} {vs : List Value} {i : Nat} {m : Str → Option Value}, P.Nodup → P[i]? = some x → vs[i]? = some v → kindOf x ≠ some .local →
    bindC kindOf (P.zip vs) m x = some v
  | [], _, _, _, _, h, _, _ => by simp at h
  | _ :: _, [], _, _, _, _, h, _ => by simp at h
  | p :: P, w :: vs, 0, m, nd, h1, h2, hk => by
    simp at h1 h2; subst h1; subst h2
    show bindC kindOf ((p, w) :: P.zip vs) m p = _
    unfold bindC
    rw [bindC_out fun v hv => (List.nodup_cons.mp nd).1 (List.of_mem_zip hv).1, if_neg hk]
    simp
  | p :: P, w :: vs, i + 1, m, nd, h1, h2, hk => by
    show bindC kindOf ((p, w) :: P.zip vs) m x = _
    unfold bindC
    exact bindC_get (i := i) (List.nodup_cons.mp nd).2 (by simpa using h1) (by simpa using h2) hk
def start (N : List Str) (vs : List V) : St := vs.map some ++ List.replicate (N.length - vs.length) none
def cxOf (CX : CXT) (P : Program) (w : World) (K : PySem.W.Frag) (mg : Str → Option Value) (base : Heap) (N : List Str) (qual : Str) (scope : Scope) (f : Addr) (cd : Value) (A : Around) (outer : List Env) (s : Shared) (H : Hp) (E : XK) : Cx where
  prog := P
  w := w
  K := K
  mg := mg
  base := base
  A := A.deeper (envOfC qual scope s.heap.objs.size f cd)
  N := N
  s_0 := s
  H_0 := H
  env := envOfC qual scope s.heap.objs.size f cd
  outer := outer
  stack := envOfC qual scope s.heap.objs.size f cd :: outer
  ex := []
  calm := true
  fn := fun _ => true
  pn := []
  xe := fun e s' => wpAny (model P w) (A.deeper (envOfC qual scope s.heap.objs.size f cd)) (leaving (envOfC qual scope s.heap.objs.size f cd) e) (fun _ s'' => CX outer H s E e s'') (fun e' s'' => CX outer H s E e' s'') s'
theorem cell_has {sc : Scope} {n : Nat} {x : Str} (h : sc.names.lookup x = some .cell) : ∃ c, (cellsFrom n sc.names []).lookup x = some c := by
  have q := PySem.W.cellsFrom_some sc.names n [] (.inl h)
  exact Option.isSome_iff_exists.mp q
theorem inv_start {CX : CXT} {P : Program} {w : World} {K : PySem.W.Frag} {mg : Str → Option Value} {base : Heap} {N ps : List Str} {qual : Str} {scope : Scope} {f : Addr} {cd : Value} {A : Around} {outer : List Env} {s s1 : Shared} {H : Hp} {E : XK} {us : List Value} {vs : List V}
    (S : FnScope N ps scope) (hd : A.handled = none) (e0 : Env0 P w K mg base A outer s H) (hl : vs.length = ps.length) (r : Vals vs us)
    (x : InCallC s s.heap.objs.size (bindL (envOfC qual scope s.heap.objs.size f cd).kindOf (ps.zip us) fun _ => none) (cellsFrom (s.heap.objs.size + 1) scope.names []) (bindC (envOfC qual scope s.heap.objs.size f cd).kindOf (ps.zip us) fun _ => none) s1) :
    Inv (cxOf CX P w K mg base N qual scope f cd A outer s H E) [] (start N vs) H s1 := by
  have hpl : ps.length ≤ N.length := by have := congrArg List.length S.pre; rw [List.length_take] at this; omega
  obtain ⟨h1, tk, rfl, hk⟩ := x.done
  have noA : ∀ b : Addr, b ∉ (cxOf CX P w K mg base N qual scope f cd A outer s H E).ex := fun b z => absurd (show b ∈ ([] : List Addr) from z) (by simp)
  refine ⟨⟨e0.mod, S.kind, rfl, rfl, Nat.le_refl _, fun y z c h1 h2 => ?_, fun y hy => ?_, fun y c _ h => ?_, fun _ => hd, Around.frames_deeper e0.frames, .inr ⟨rfl, rfl⟩, fun b z => absurd z (noA b), e0.bs, e0.bsz, fun b _ _ => noA b, fun b z => absurd z (noA b), e0.funs, e0.frf⟩,
    rfl, e0.bare, Un.kept hk, ⟨_, x.toInCall.ns, fun i y v h1 h2 h3 => ?_⟩, fun y c h => ⟨_, x.cell y c h⟩, e0.hok.fresh (Nat.le_refl _), fun y c h => ?_, fun p hp => absurd (show p ∈ ([] : List (Addr × Obj)) from hp) (by simp), e0.hok.kept hk, ?_⟩
  · exact name_of_addr x.apart (PySem.mem_of_lookup h1) (PySem.mem_of_lookup h2)
  · have hy : scope.names.lookup y = some .cell ∨ scope.names.lookup y = some .free := hy
    rcases hy with hy | hy
    · exact cell_has hy
    · exact absurd rfl (S.nofree _ (PySem.mem_of_lookup hy))
  · exact Nat.le_of_lt (x.above y c (PySem.mem_of_lookup h))
  · have hi : i < vs.length := by
      unfold start at h2
      by_cases hi : i < vs.length
      · exact hi
      · rw [List.getElem?_append_right (by simpa using hi)] at h2
        rw [List.getElem?_replicate] at h2
        split at h2 <;> cases h2
    have ha : vs[i]? = some v := by
      unfold start at h2
      rw [List.getElem?_append_left (by simpa using hi), List.getElem?_map] at h2
      cases e : vs[i]? with
      | none => rw [e] at h2; cases h2
      | some a => rw [e] at h2; cases h2; rfl
    obtain ⟨u, hu, rv⟩ := r.get ha
    have hp : ps[i]? = some y := by
      rw [← S.pre, List.getElem?_take_of_lt (by omega)]; exact h1
    have ndP : ps.Nodup := by rw [← S.pre]; exact S.nd.sublist (List.take_sublist _ _)
    refine ⟨u, rv, ?_⟩
    rcases S.par y (List.mem_of_getElem? hp) with k | k
    · exact .inl ⟨k, bindL_get ndP hp hu k⟩
    · obtain ⟨c, e⟩ := cell_has (n := s.heap.objs.size + 1) k
      refine .inr ⟨.inl k, c, e, ?_⟩
      have q := x.cell y c e
      rw [bindC_get ndP hp hu (by show scope.names.lookup y ≠ _; rw [k]; decide)] at q
      exact q
  · exact e0.hok.fresh (Nat.le_of_lt (x.above y c (PySem.mem_of_lookup h)))
  · unfold start
    show _ = N.length
    rw [List.length_append, List.length_map, List.length_replicate]
    omega
theorem fn_of {CX : CXT} {P : Program} {w : World} {K : PySem.W.Frag} {mg : Str → Option Value} {base : Heap} {k : Nat} {f : Addr} {name qual : Str} {params : Arguments} {body : List Stmt} {scope : Scope} {dV kV doc pm cdv ct oc : Value} {an od : Option Addr}
    {osl : Array (Option Value)} {N ps : List Str} {sp : Sp} (lk : K.lookup f = some ⟨oc, od, .func (PySem.W.fnOf name qual params body scope dV kV doc pm an cdv ct), osl⟩) (hcd : PySem.W.codeIn K cdv qual = true) (S : FnScope N ps scope)
    (len : ∀ vs H Q E, sp vs H Q E → vs.length = ps.length)
    (hbody : ∀ (A : Around) (outer : List Env) (s : Shared) (H : Hp) (vs : List V) (Q : VK) (E : XK), Room k (A.deeper (envOfC qual scope s.heap.objs.size f cdv)) → sp vs H Q E →
      ∃ t, PSs (cxOf CX P w K mg base N qual scope f cdv A outer s H E) body t ∧ t { nx := fun _ H' => Q .non H', rt := Q } (start N vs) H) :
    FnOk P w K mg base CX (k + 1) f (PySem.W.fnOf name qual params body scope dV kV doc pm an cdv ct) ps sp := by
  refine ⟨len, fun A outer s H args us vs Q E hr e0 hb r hsp => ?_⟩
  have hl := len _ _ _ _ hsp
  have KX : K.In s.heap := e0.mod.kin.keeps fun b o e => (e0.bs b o e).1
  have lim : s.heap.NoLimit := e0.mod.nolimit.keeps fun b o e => (e0.bs b o e).1
  have hkind : ∀ y ∈ ps.zip us, scope.names.lookup y.1 = some .local ∨ (scope.names.lookup y.1 = some .cell ∧ ((cellsFrom (s.heap.objs.size + 1) scope.names []).lookup y.1).isSome = true) := fun ⟨n, v⟩ hy => by
    rcases S.par n (List.of_mem_zip hy).1 with q | q
    · exact .inl q
    · exact .inr ⟨q, PySem.W.cellsFrom_some _ _ _ (.inl q)⟩
  refine codeAny_call_function hr.depth (KX _ _ lk) rfl S.co S.gen rfl (PySem.W.codeRec_of KX hcd) (hb _ _ _ _ ?_)
  refine wpAny_newFunctionEnv_cells S.kind hkind fun env he s1 x => ?_
  subst he
  refine ⟨lim.keeps x.toInCall.keep, codeAny_func ?_⟩
  obtain ⟨t, ht, hq⟩ := hbody A outer s H vs Q E (hr.deeper _) hsp
  have I : Inv (cxOf CX P w K mg base N qual scope f cdv A outer s H E) [] (start N vs) H s1 := inv_start S hr.hd e0 hl r x
  refine wpAny_mono (ht [] s1 (start N vs) H _ I hq) (fun fl s' hs => ?_) fun e s' hs => hs
  have fin : ∀ {σ' : St} {H' : Hp} {v : V} {u : Value}, Inv (cxOf CX P w K mg base N qual scope f cdv A outer s H E) [] σ' H' s' → RelV v u → Q v H' → CE outer P w H s Q u s' :=
    fun {σ' H' v u} J rv q => ⟨v, H', J.os, J.bare, J.base, J.hok, rv, q⟩
  cases fl with
  | ret u =>
    obtain ⟨v, σ', H', J, rv, q⟩ := hs
    exact fin J rv q
  | next =>
    obtain ⟨σ', H', J, q⟩ := hs
    exact fin (v := V.non) (u := Value.none) J rfl q
  | brk =>
    obtain ⟨_, _, _, q⟩ := hs
    exact False.elim q
  | cont =>
    obtain ⟨_, _, _, q⟩ := hs
    exact False.elim q
end L2
namespace L2
open PySem PySem.Spec PyProof.Rows
section
variable {X : Cx} {x : Str} {p pos : Pos} {e : Expr} {es : List Expr} {t : TA} {id T : String} {r : List V → Hp → VK → Prop}
def tCB (r : List V → Hp → VK → Prop) (t : TA) : TE := fun σ H Q => t σ H fun vs H1 => r vs H1 Q
theorem pe_callB (hc : CallR X (.builtin id) r) (hg : Gl X x) (hm : X.mg x = none) (hv : bootBuiltins x = some (.builtin id)) (ha : PA X (e :: es) t) (hn : x ≠ "__name__" := by decide) (hdb : (x == ("__debug__" : Str)) = false := by decide)
    (he : starEach (e :: es) X.env = (false, eval e X.env) :: starEach es X.env := by rfl) (hpl : (backTo pos (starEach es X.env)).any (·.1) = false := by rfl) : PE X (.Call (.Name x p) (e :: es) [] pos) (tCB r t) := by
  intro pins s σ H Q I h
  refine wpAny_Call_Name_kw (ld_blt I hg hm hv ?_ hn hdb)
  exact PyProof.Rows.callWith_builtin1 (thn (ha pos pins s σ H _ I h) fun us s1 ⟨vs, H1, I1, r1, q1⟩ => hc pins s1 σ H1 vs us Q I1 r1 q1) he hpl
theorem pe_callTy (hc : CallR X (.type T) r) (hg : Gl X x) (hm : X.mg x = none) (hv : bootBuiltins x = some (.type T)) (ha : PA X (e :: es) t) (hn : x ≠ "__name__" := by decide) (hdb : (x == ("__debug__" : Str)) = false := by decide)
    (he : starEach (e :: es) X.env = (false, eval e X.env) :: starEach es X.env := by rfl) (hpl : (backTo pos (starEach es X.env)).any (·.1) = false := by rfl) : PE X (.Call (.Name x p) (e :: es) [] pos) (tCB r t) := by
  intro pins s σ H Q I h
  refine wpAny_Call_Name_kw (ld_blt I hg hm hv ?_ hn hdb)
  exact PyProof.Rows.callWith_type1 (thn (ha pos pins s σ H _ I h) fun us s1 ⟨vs, H1, I1, r1, q1⟩ => hc pins s1 σ H1 vs us Q I1 r1 q1) he hpl
end
end L2
namespace HT
open PySem PyProof.Rows
section
open PySem.SeqAt
open PySem.AutoSeq1 (wpAny_loadPart')
open PySem.MeetsSeq PySem.MeetsSeq2 PySem.MeetsSeq3
end
section
variable {prog : Program} {w : World} {A : Around} {E : Value → Shared → Prop} {s : Shared}
end
end HT
namespace L2
open PySem PySem.Spec PyProof.Rows
abbrev TO := St → Hp → (Option Int → Hp → Prop) → Prop
section
variable {X : Cx} {e : Expr} {te : TE} {lo hi : Option Expr} {tl th : TO} {pos p2 : Pos}
def SlR (X : Cx) (r : V → Option Int → Option Int → Hp → VK → Prop) : Prop :=
  ∀ (pins : List (Addr × Obj)) (s : Shared) (σ : St) (H : Hp) (x : V) (v vl vu : Value) (lo hi : Option Int) (sl : Addr) (Q : VK), Inv X pins σ H s → RelV x v → s.heap.IsSliceOf sl vl vu .none → IsPart vl lo → IsPart vu hi → r x lo hi H Q →
    ∃ T id, typeLookup (.type T) "__getitem__" = pure (some (.builtin id)) ∧ s.TypeIs v T ∧ wpAny (model X.prog X.w) X.A (getItem v (.ref sl)) (EP X pins σ Q) X.xe s
theorem SlR.or {r r' : V → Option Int → Option Int → Hp → VK → Prop} (h : SlR X r) (h' : SlR X r') : SlR X (fun x lo hi H Q => r x lo hi H Q ∨ r' x lo hi H Q) := by
  intro pins s σ H x v vl vu lo hi sl Q I rx hs pl pu q
  rcases q with q | q
  · exact h pins s σ H x v vl vu lo hi sl Q I rx hs pl pu q
  · exact h' pins s σ H x v vl vu lo hi sl Q I rx hs pl pu q
end
end L2
namespace L2
open PySem PySem.Spec PyProof.Rows
def ixN (n : Nat) (i : Int) : Option Nat := if 0 ≤ i then (if i < n then some i.toNat else none) else if -(n : Int) ≤ i then some (i + n).toNat else none
def atI {α : Type} (xs : List α) (i : Int) : Option α := (ixN xs.length i).bind fun j => xs[j]?
theorem ixN_seq {n : Nat} {i : Int} {j : Nat} (h : ixN n i = some j) : seqIndex? i n = some j ∧ j < n ∧ -(n : Int) ≤ i ∧ i < n := by
  unfold ixN at h
  by_cases h0 : 0 ≤ i
  · rw [if_pos h0] at h
    by_cases h1 : i < n
    · rw [if_pos h1] at h
      have e : i.toNat = j := Option.some.inj h
      exact ⟨by rw [seqIndex_of h0 h1, e], by omega, by omega, h1⟩
    · rw [if_neg h1] at h; cases h
  · rw [if_neg h0] at h
    by_cases h1 : -(n : Int) ≤ i
    · rw [if_pos h1] at h
      have e : (i + n).toNat = j := Option.some.inj h
      exact ⟨by rw [seqIndex_neg (by omega) h1, e], by omega, h1, by omega⟩
    · rw [if_neg h1] at h; cases h
theorem atI_get {α : Type} {xs : List α} {i : Int} {v : α} (h : atI xs i = some v) : ∃ j, seqIndex? i xs.length = some j ∧ xs[j]? = some v ∧ j < xs.length ∧ -(xs.length : Int) ≤ i ∧ i < xs.length := by
  unfold atI at h
  cases e : ixN xs.length i with
  | none => rw [e] at h; cases h
  | some j =>
    rw [e] at h
    obtain ⟨h1, h2, h3, h4⟩ := ixN_seq e
    exact ⟨j, h1, h, h2, h3, h4⟩
theorem atI_nat {α : Type} {xs : List α} {j : Nat} {v : α} (h : xs[j]? = some v) : atI xs (j : Int) = some v := by
  have hj : j < xs.length := (List.getElem?_eq_some_iff.mp h).1
  have e : ixN xs.length (j : Int) = some j := by
    unfold ixN
    rw [if_pos (by omega), if_pos (by omega)]; simp
  unfold atI; rw [e]; exact h
def PlainIx (b : Expr) : Prop := ∀ o i, subscripted b false o i = operate [o, i] (getItem o i)
def IxR (X : Cx) (r : R2) : Prop :=
  ∀ (value slice : Expr) (pins : List (Addr × Obj)) (s : Shared) (σ : St) (H : Hp) (x y : V) (v u : Value) (Q : VK), Inv X pins σ H s → RelV x v → RelV y u → r x y H Q →
    subscripted slice false v u = operate [v, u] (getItem v u) → wpAny (model X.prog X.w) X.A (subscriptTail value slice v u) (EP X pins σ Q) X.xe s
def MtR (X : Cx) (id : String) (r : V → List V → Hp → VK → Prop) : Prop :=
  ∀ (pins : List (Addr × Obj)) (s : Shared) (σ : St) (H : Hp) (x : V) (xs : List V) (v : Value) (us : List Value) (Q : VK), Inv X pins σ H s → RelV x v → Vals xs us → r x xs H Q →
    wpAny (model X.prog X.w) X.A (call (.builtin id) (v :: us)) (EP X pins σ Q) X.xe s
section
variable {X : Cx} {a b : Expr} {ta tb : TE} {pos : Pos}
theorem IxR.or {r r' : R2} (h : IxR X r) (h' : IxR X r') : IxR X (fun x y H Q => r x y H Q ∨ r' x y H Q) := by
  intro value slice pins s σ H x y v u Q I rx ry q hs
  rcases q with q | q
  · exact h value slice pins s σ H x y v u Q I rx ry q hs
  · exact h' value slice pins s σ H x y v u Q I rx ry q hs
theorem MtR.or {id : String} {r r' : V → List V → Hp → VK → Prop} (h : MtR X id r) (h' : MtR X id r') : MtR X id (fun x xs H Q => r x xs H Q ∨ r' x xs H Q) := by
  intro pins s σ H x xs v us Q I rx rs q
  rcases q with q | q
  · exact h pins s σ H x xs v us Q I rx rs q
  · exact h' pins s σ H x xs v us Q I rx rs q
theorem pe_ix {r : R2} (hr : IxR X r) (ha : PE X a ta) (hb : PE X b tb) (hs : PlainIx b) : PE X (.Subscript a b pos) (tOp r ta tb) := by
  intro pins s σ H Q I h
  exact Subscript_ (binT ha hb I h fun v u s2 x y H2 I2 rx ry q => hr a b pins s2 σ H2 x y v u Q I2 rx ry q (hs _ _))
def rIxL (K : PySem.W.Frag) : R2 := fun x y H Q => ∃ p xs i v, x = .ref p ∧ y = .int i ∧ SqL K H p xs ∧ atI xs i = some v ∧ Q v H
def rIxT (K : PySem.W.Frag) : R2 := fun x y H Q => ∃ p xs i v, x = .ref p ∧ y = .int i ∧ SqT K H p xs ∧ atI xs i = some v ∧ Q v H
theorem ix_list : IxR X (rIxL X.K) := by
  intro value slice pins s σ H x y v u Q I rx ry h hs
  obtain ⟨p, xs, i, z, rfl, rfl, hq, he, q⟩ := h
  cases rx
  obtain ⟨t, rfl⟩ := ry
  obtain ⟨its, r, pl, hz⟩ := I.list hq
  obtain ⟨j, h1, h2, h3, h4, h5⟩ := atI_get he
  obtain ⟨w, ew, rw'⟩ := r.get h2
  have hl := r.length
  have hn := line63
  have fin : EP X pins σ Q w s := ⟨z, H, I, rw', q⟩
  by_cases h0 : 0 ≤ i
  · have hj : i.toNat = j := by
      rw [seqIndex_of h0 h5] at h1
      exact Option.some.inj h1
    exact item_listR pl.isList h0 (by omega) (by rw [hj]; simpa using ew) fin hs
  · have hj : (i + (its.toArray.size : Int)).toNat = j := by
      rw [seqIndex_neg (by omega) h4] at h1
      rw [List.size_toArray, ← hl]
      exact Option.some.inj h1
    exact subscriptTail_builtinR (x := w) pl.isList.typeIs slot_list_getitem.lookup
      (wpAny_getItem_list_neg (Q := fun r s' => r = w ∧ EP X pins σ Q r s') pl.isList (by omega) (by rw [List.size_toArray] <;> omega) (by omega) (by rw [hj]; simpa using ew) ⟨rfl, fin⟩) hs
theorem ix_tup : IxR X (rIxT X.K) := by
  intro value slice pins s σ H x y v u Q I rx ry h hs
  obtain ⟨p, xs, i, z, rfl, rfl, hq, he, q⟩ := h
  cases rx
  obtain ⟨t, rfl⟩ := ry
  obtain ⟨its, r, pl, hz⟩ := I.tuple hq
  obtain ⟨j, h1, h2, h3, h4, h5⟩ := atI_get he
  obtain ⟨w, ew, rw'⟩ := r.get h2
  have hl := r.length
  have hn := line63
  have fin : EP X pins σ Q w s := ⟨z, H, I, rw', q⟩
  exact subscriptTail_builtinR (x := w) pl.typeIs slot_tuple_getitem.lookup
    (getItem_tuple (j := j) (Q := fun r s' => r = w ∧ EP X pins σ Q r s') pl (by omega) (by omega) (by rw [List.size_toArray, ← hl]; exact h1) (by simpa using ew) ⟨rfl, fin⟩) hs
theorem mapSeq_set (its : List Value) (n j : Nat) (u : Value) : Obj.mapSeq (·.setIfInBounds j u) { cls := .type "list", data := .seq its.toArray n } = { cls := .type "list", data := .seq (its.set j u).toArray n } := by
  simp [Obj.mapSeq]
theorem Inv.lst {pins : List (Addr × Obj)} {σ : St} {H : Hp} {s : Shared} {p : Addr} {xs : List V} (I : Inv X pins σ H s) (h : H p = some (.lst xs)) :
    ∃ (its : List Value) (n : Nat), Vals xs its ∧ s.heap.get? p = some { cls := .type "list", data := .seq its.toArray n } ∧ xs.length ≤ sizeLine := by
  obtain ⟨z, its, n, r, e⟩ := I.hok p _ h
  exact ⟨its, n, r, e, z⟩
theorem Inv.lstUpd {pins : List (Addr × Obj)} {σ : St} {H : Hp} {s : Shared} {p : Addr} {xs ys : List V} {its its' : List Value} {n n' : Nat} {f : Obj → Obj} (I : Inv X pins σ H s) (h : H p = some (.lst xs))
    (ho : s.heap.get? p = some { cls := .type "list", data := .seq its.toArray n }) (hf : f { cls := .type "list", data := .seq its.toArray n } = { cls := .type "list", data := .seq its'.toArray n' }) (r : Vals ys its') (hz : ys.length ≤ sizeLine) (t : Nat) :
    Inv X pins σ (upd H p (.lst ys)) { s with heap := s.heap.update p f, toks := t } := by
  have e : (s.heap.update p f).get? p = some { cls := .type "list", data := .seq its'.toArray n' } := by
    rw [Heap.get?_update_self f ho (by rw [hf] <;> rfl), hf]
  refine I.write (x := p) (e := p) (by rw [h]; trivial) (.inl rfl) (fun b u hb q => (Heap.get?_update_other _ _ (Ne.symm hb)).trans q) ⟨_, e⟩ ?_
  exact ⟨hz, its', n', r, e⟩
def rSetL : V → V → V → Hp → (Hp → Prop) → Prop := fun o i v H Q => ∃ p xs k j, o = .ref p ∧ i = .int k ∧ H p = some (.lst xs) ∧ ixN xs.length k = some j ∧ Q (upd H p (.lst (xs.set j v)))
theorem set_list : PSet X rSetL := by
  intro pins s σ H o i v ov iv u Q I ro ri rv h
  obtain ⟨p, xs, k, j, rfl, rfl, hp, hj, q⟩ := h
  cases ro
  obtain ⟨t, rfl⟩ := ri
  obtain ⟨its, n, r, ho, hz⟩ := I.lst hp
  obtain ⟨h1, h2, h3, h4⟩ := ixN_seq hj
  have hl := r.length
  have hn := line63
  have I' : Inv X pins σ (upd H p (.lst (xs.set j v))) { s with heap := s.heap.update p (Obj.mapSeq (·.setIfInBounds j u)) } :=
    I.lstUpd hp ho (mapSeq_set its n j u) (r.set rv j) (by rw [List.length_set]; exact hz) s.toks
  by_cases h0 : 0 ≤ k
  · have hk : k.toNat = j := by
      rw [seqIndex_of h0 h4] at h1
      exact Option.some.inj h1
    exact PySem.W.ki_setAt ho h0 (by omega) (by rw [List.size_toArray, ← hl]; exact h4) (by rw [hk]; exact ⟨_, I', q⟩)
  · have hk : (k + (its.toArray.size : Int)).toNat = j := by
      rw [seqIndex_neg (by omega) h3] at h1
      rw [List.size_toArray, ← hl]
      exact Option.some.inj h1
    exact PySem.W.ki_setBack ho (by omega) (by rw [List.size_toArray, ← hl]; exact h3) (by omega) (by rw [hk]; exact ⟨_, I', q⟩)
def flatV : V → Bool
  | .non => true
  | .bl _ => true
  | .int _ => true
  | .str _ => true
  | _ => false
def eqV : V → V → Bool
  | .non, .non => true
  | .bl a, .bl b => a == b
  | .bl a, .int b => (if a then 1 else 0) == b
  | .int a, .bl b => a == (if b then 1 else 0)
  | .int a, .int b => a == b
  | .str a, .str b => a == b
  | _, _ => false
theorem eqAt_V {A : Around} {s : Shared} {y x : V} {u v : Value} (ry : RelV y u) (rx : RelV x v) (fy : flatV y = true) (fx : flatV x = true) : SeqAt.EqAt A s u v (eqV y x) := by
  cases y with
  | non =>
    cases ry
    cases x with
    | non => cases rx; exact SeqAt.EqAt.same _
    | bl b => cases rx; exact SeqAt.EqAt.none_bool b
    | int b => obtain ⟨t, rfl⟩ := rx; exact SeqAt.EqAt.none_int b t
    | str b => obtain ⟨t, rfl⟩ := rx; exact SeqAt.EqAt.none_str b t
    | _ => exact absurd (show false = true from fx) Bool.false_ne_true
  | bl a =>
    cases ry
    cases x with
    | non => cases rx; exact SeqAt.EqAt.bool_none a
    | bl b => cases rx; exact SeqAt.EqAt.bool_bool a b
    | int b => obtain ⟨t, rfl⟩ := rx; exact SeqAt.EqAt.bool_int a b t
    | str b => obtain ⟨t, rfl⟩ := rx; exact SeqAt.EqAt.bool_str a b t
    | _ => exact absurd (show false = true from fx) Bool.false_ne_true
  | int a =>
    obtain ⟨t', rfl⟩ := ry
    cases x with
    | non => cases rx; exact SeqAt.EqAt.int_none a t'
    | bl b => cases rx; exact SeqAt.EqAt.int_bool a t' b
    | int b => obtain ⟨t, rfl⟩ := rx; exact SeqAt.EqAt.int_int a t' b t
    | str b => obtain ⟨t, rfl⟩ := rx; exact SeqAt.EqAt.int_str a t' b t
    | _ => exact absurd (show false = true from fx) Bool.false_ne_true
  | str a =>
    obtain ⟨t', rfl⟩ := ry
    cases x with
    | non => cases rx; exact SeqAt.EqAt.str_none a t'
    | bl b => cases rx; exact SeqAt.EqAt.str_bool a t' b
    | int b => obtain ⟨t, rfl⟩ := rx; exact SeqAt.EqAt.str_int a t' b t
    | str b => obtain ⟨t, rfl⟩ := rx; exact SeqAt.EqAt.str_str a t' b t
    | _ => exact absurd (show false = true from fx) Bool.false_ne_true
  | _ => exact absurd (show false = true from fy) Bool.false_ne_true
def eqU (x : V) (u : Value) : Bool := match u with
  | .none => eqV .non x
  | .bool b => eqV (.bl b) x
  | .int i _ => eqV (.int i) x
  | .str z _ => eqV (.str z) x
  | _ => false
theorem eqU_of {x y : V} {u : Value} (r : RelV y u) (f : flatV y = true) : eqU x u = eqV y x := by
  cases y with
  | non => cases r; rfl
  | bl b => cases r; rfl
  | int i => obtain ⟨t, rfl⟩ := r; rfl
  | str z => obtain ⟨t, rfl⟩ := r; rfl
  | _ => exact absurd (show false = true from f) Bool.false_ne_true
theorem any_eqU {x : V} : ∀ {xs : List V} {us : List Value}, Vals xs us → xs.all flatV = true → us.any (eqU x) = xs.any fun y => eqV y x
  | _, _, .nil, _ => rfl
  | y :: xs, u :: us, .cons r t, f => by
    rw [List.all_cons, Bool.and_eq_true] at f
    rw [List.any_cons, List.any_cons, eqU_of r f.1, any_eqU t f.2]
theorem mem_eqAt {A : Around} {s : Shared} {x : V} {v : Value} (rx : RelV x v) (fx : flatV x = true) : ∀ {xs : List V} {us : List Value}, Vals xs us → xs.all flatV = true → ∀ u ∈ us, SeqAt.EqAt A s u v (eqU x u)
  | _, _, .nil, _ => fun u hu => by cases hu
  | y :: xs, u :: us, .cons r t, f => fun u' hu => by
    rw [List.all_cons, Bool.and_eq_true] at f
    rcases List.mem_cons.mp hu with rfl | hu
    · rw [eqU_of r f.1]; exact eqAt_V r rx f.1 fx
    · exact mem_eqAt rx fx t f.2 u' hu
def inV (x : V) (xs : List V) : Bool := xs.any fun y => eqV y x
def rIn (K : PySem.W.Frag) (neg : Bool) : R2 := fun x y H Q => ∃ p xs, y = .ref p ∧ (SqL K H p xs ∨ SqT K H p xs) ∧ flatV x = true ∧ xs.all flatV = true ∧ Q (.bl (if neg then !inV x xs else inV x xs)) H
theorem op_in_seq : OpR X (compareOp .In) (rIn X.K false) := by
  intro pins s σ H x y v u Q I rx ry h
  obtain ⟨p, xs, rfl, hq, fx, fs, q⟩ := h
  cases ry
  rcases hq with hq | hq
  · obtain ⟨its, r, pl, hz⟩ := I.list hq
    refine SeqAt.in_listAt (eqU x) pl.isList (fun w hw => mem_eqAt rx fx r fs w (by simpa using hw)) ⟨.bl _, H, I, rfl, ?_⟩
    rw [show its.toArray.any (eqU x) = its.any (eqU x) by simp, any_eqU r fs]
    exact q
  · obtain ⟨its, r, pl, hz⟩ := I.tuple hq
    refine SeqAt.in_tupleAt (eqU x) pl (fun w hw => mem_eqAt rx fx r fs w (by simpa using hw)) ⟨.bl _, H, I, rfl, ?_⟩
    rw [show its.toArray.any (eqU x) = its.any (eqU x) by simp, any_eqU r fs]
    exact q
theorem op_notIn_seq : OpR X (compareOp .NotIn) (rIn X.K true) := by
  intro pins s σ H x y v u Q I rx ry h
  obtain ⟨p, xs, rfl, hq, fx, fs, q⟩ := h
  cases ry
  rcases hq with hq | hq
  · obtain ⟨its, r, pl, hz⟩ := I.list hq
    refine SeqAt.notIn_listAt (eqU x) pl.isList (fun w hw => mem_eqAt rx fx r fs w (by simpa using hw)) ⟨.bl _, H, I, rfl, ?_⟩
    rw [show its.toArray.any (eqU x) = its.any (eqU x) by simp, any_eqU r fs]
    exact q
  · obtain ⟨its, r, pl, hz⟩ := I.tuple hq
    refine SeqAt.notIn_tupleAt (eqU x) pl (fun w hw => mem_eqAt rx fx r fs w (by simpa using hw)) ⟨.bl _, H, I, rfl, ?_⟩
    rw [show its.toArray.any (eqU x) = its.any (eqU x) by simp, any_eqU r fs]
    exact q
theorem call_len_seq : CallR X (.builtin "len") (fun xs H Q => ∃ p ys, xs = [.ref p] ∧ (SqL X.K H p ys ∨ SqT X.K H p ys) ∧ Q (.int ys.length) H) := by
  intro pins s σ H xs us Q I r h
  obtain ⟨p, ys, rfl, hq, q⟩ := h
  obtain ⟨u, rfl, rx⟩ := vals1 r
  cases rx
  have hn := line63
  rcases hq with hq | hq
  · obtain ⟨its, r', pl, hz⟩ := I.list hq
    have hlen := r'.length
    exact Calls.call_len_list pl.isList (by simp only [List.size_toArray] <;> omega) ⟨.int ys.length, H, I.tok _, ⟨s.toks + 1, by rw [List.size_toArray, hlen]⟩, q⟩
  · obtain ⟨its, r', pl, hz⟩ := I.tuple hq
    have hlen := r'.length
    exact len_tuple pl (by simp only [List.size_toArray] <;> omega) ⟨.int ys.length, H, I.tok _, ⟨s.toks + 1, by rw [List.size_toArray, hlen]⟩, q⟩
theorem CallR.or {f : Value} {r r' : List V → Hp → VK → Prop} (h : CallR X f r) (h' : CallR X f r') : CallR X f (fun xs H Q => r xs H Q ∨ r' xs H Q) := by
  intro pins s σ H xs us Q I rs q
  rcases q with q | q
  · exact h pins s σ H xs us Q I rs q
  · exact h' pins s σ H xs us Q I rs q
def tyV (K : PySem.W.Frag) (T : String) (x : V) (H : Hp) : Prop := match x with
  | .str _ => T = "str"
  | .int _ => T = "int"
  | .ref p => (T = "list" ∧ ∃ xs, SqL K H p xs) ∨ (T = "tuple" ∧ ∃ o, K.lookup p = some o ∧ o.cls = .type "tuple" ∧ o.dict = none) ∨
      (T = "dict" ∧ ((∃ kvs, H p = some (.dK kvs)) ∨ ∃ kvs, H p = some (.dT kvs))) ∨ (T = "set" ∧ ∃ S n, H p = some (.set S n))
  | _ => False
theorem tyV_is {pins : List (Addr × Obj)} {σ : St} {H : Hp} {s : Shared} {T : String} {x : V} {v : Value} (I : Inv X pins σ H s) (r : RelV x v) (ty : tyV X.K T x H) :
    s.TypeIs v T ∧ ∀ a, v = .ref a → ∃ ob, s.heap.get? a = some ob ∧ ob.dict = none := by
  cases x with
  | str z =>
    obtain ⟨t, rfl⟩ := r
    cases (show T = "str" from ty)
    exact ⟨typeIs_str s z t, fun _ e => nomatch e⟩
  | int i =>
    obtain ⟨t, rfl⟩ := r
    cases (show T = "int" from ty)
    exact ⟨typeIs_int s i t, fun _ e => nomatch e⟩
  | ref p =>
    cases r
    rcases ty with ⟨rfl, xs, hq⟩ | ⟨rfl, o, hk, hc, hd⟩ | ⟨rfl, hk⟩ | ⟨rfl, S, n, hk⟩
    · obtain ⟨its, _, pl, _⟩ := I.list hq
      refine ⟨pl.isList.typeIs, fun a e => ?_⟩
      cases e
      obtain ⟨o, n, e, c, hd, _⟩ := pl
      exact ⟨o, e, hd⟩
    · refine ⟨⟨o, I.kIn p o hk, hc⟩, fun a e => ?_⟩
      cases e
      exact ⟨o, I.kIn _ o hk, hd⟩
    · have z : ∃ o, s.heap.get? p = some o ∧ o.ExactDict := by
        rcases hk with ⟨kvs, hk⟩ | ⟨kvs, hk⟩
        · obtain ⟨_, _, _, _, o, _, _, e, ex, _⟩ := I.hok p _ hk
          exact ⟨o, e, ex⟩
        · obtain ⟨_, _, _, _, o, _, _, e, ex, _⟩ := I.hok p _ hk
          exact ⟨o, e, ex⟩
      obtain ⟨o, e, ex⟩ := z
      refine ⟨⟨o, e, ex.1⟩, fun a e2 => ?_⟩
      cases e2
      exact ⟨o, e, ex.2.1⟩
    · obtain ⟨o, _, _, _, e, ex, _⟩ := I.hok p _ hk
      refine ⟨⟨o, e, ex.1⟩, fun a e2 => ?_⟩
      cases e2
      exact ⟨o, e, ex.2.1⟩
  | _ => exact False.elim ty
def tBM0 (K : PySem.W.Frag) (T : String) (r : V → List V → Hp → VK → Prop) (to : TE) : TE := fun σ H Q => to σ H fun x H1 => tyV K T x H1 ∧ r x [] H1 Q
def tBM (K : PySem.W.Frag) (T : String) (r : V → List V → Hp → VK → Prop) (to : TE) (t : TA) : TE := fun σ H Q => to σ H fun x H1 => tyV K T x H1 ∧ t σ H1 fun xs H2 => r x xs H2 Q
variable {o e : Expr} {es : List Expr} {to : TE} {t : TA} {name : Str} {apos cpos : Pos} {T id : String} {r : V → List V → Hp → VK → Prop}
theorem pe_bm0 (pa : PlainAttrs T) (slot : Slot T name id) (hty : typeOf (.builtin id) = pure (.type "method_descriptor")) (hm : MtR X id r) (ho : PE X o to)
    (hbase : attributeBase o name X.env (eval o X.env) = eval o X.env := by rfl) (hline : (apos.endLine == cpos.line) = true := by rfl) : PE X (.Call (.Attribute o name apos) [] [] cpos) (tBM0 X.K T r to) := by
  intro pins s σ H Q I h
  refine wpAny_Call_method0_late hbase hline (thn (ho pins s σ H _ I h) fun v s1 ⟨x, H1, I1, r1, ty, q1⟩ => ?_)
  obtain ⟨h1, h2⟩ := tyV_is I1 r1 ty
  exact ⟨T, id, pa, slot, hty, h1, h2, Calls.callWith_builtin rfl (PySem.evalArgs_none (hm pins s1 σ H1 x [] v [] Q I1 r1 .nil q1))⟩
theorem pe_bm (pa : PlainAttrs T) (slot : Slot T name id) (hty : typeOf (.builtin id) = pure (.type "method_descriptor")) (hm : MtR X id r) (ho : PE X o to) (ha : PA X (e :: es) t)
    (hbase : attributeBase o name X.env (eval o X.env) = eval o X.env := by rfl)
    (hfew : ((backTo cpos (starEach (e :: es) X.env)).all (fun x => !x.1) && (backToKw cpos (keywordEach [] X.env)).all (fun x => x.1.isSome)
      && decide ((e :: es).length + ([] : List Keyword).length + (if ([] : List Keyword).isEmpty then 0 else 1) < 30)) = true := by rfl)
    (hline : (apos.endLine == cpos.line) = true := by rfl) (hs : starEach (e :: es) X.env = (false, eval e X.env) :: starEach es X.env := by rfl) (hplain : (backTo cpos (starEach es X.env)).any (·.1) = false := by rfl) :
    PE X (.Call (.Attribute o name apos) (e :: es) [] cpos) (tBM X.K T r to t) := by
  intro pins s σ H Q I h
  refine wpAny_Call_method_late hbase hfew hline rfl (thn (ho pins s σ H _ I h) fun v s1 ⟨x, H1, I1, r1, ty, q1⟩ => ?_)
  obtain ⟨h1, h2⟩ := tyV_is I1 r1 ty
  refine ⟨T, id, pa, slot, hty, h1, h2, ?_⟩
  have hA := ha cpos pins s1 σ H1 _ I1 q1
  rw [hs] at hA ⊢
  refine Calls.callWith_builtin (by show (false || (backTo cpos (starEach es X.env)).any (·.1)) = false; rw [hplain] <;> rfl) (Calls.evalArgs_plain ?_)
  exact thn hA fun us s2 ⟨vs, H2, I2, r2, q2⟩ => hm pins s2 σ H2 x vs v us Q I2 r1 r2 q2
end
end L2
namespace L2
open PySem PySem.Spec PyProof.Rows
def MtM (X : Cx) (id : String) (r : V → List V → Hp → VK → Prop) : Prop :=
  ∀ (pins : List (Addr × Obj)) (s : Shared) (σ : St) (H : Hp) (x : V) (xs : List V) (v : Value) (us : List Value) (Q : VK), Inv X pins σ H s → RelV x v → Vals xs us → r x xs H Q →
    wpAny (model X.prog X.w) X.A (call (.builtin id) (v :: us)) (EP X pins σ Q) X.xe s
theorem Vals.one : ∀ {x : V} {us : List Value}, Vals [x] us → ∃ u, us = [u] ∧ RelV x u
  | _, _, .cons r .nil => ⟨_, rfl, r⟩
theorem Vals.two : ∀ {x y : V} {us : List Value}, Vals [x, y] us → ∃ u v, us = [u, v] ∧ RelV x u ∧ RelV y v
  | _, _, _, .cons r (.cons q .nil) => ⟨_, _, rfl, r, q⟩
theorem Vals.zero : ∀ {us : List Value}, Vals [] us → us = []
  | _, .nil => rfl
theorem Vals.eraseIdx : ∀ {xs : List V} {us : List Value} (i : Nat), Vals xs us → Vals (xs.eraseIdx i) (us.eraseIdx i)
  | _, _, _, .nil => .nil
  | _, _, 0, .cons _ t => t
  | _, _, i + 1, .cons r t => .cons r (Vals.eraseIdx i t)
theorem Vals.reverse {xs : List V} {us : List Value} (h : Vals xs us) : Vals xs.reverse us.reverse := by
  induction h with
  | nil => exact .nil
  | cons r t ih => rw [List.reverse_cons, List.reverse_cons]; exact Vals.append ih (.cons r .nil)
section
variable {X : Cx} {pins : List (Addr × Obj)} {σ : St} {H : Hp} {s : Shared} {l b : Addr} {xs ys zs : List V}
theorem Inv.lset {its its' : List Value} {n : Nat} {f : Array Value → Array Value} {t' : Nat} (I : Inv X pins σ H s) (hH : H l = some (.lst xs))
    (e : s.heap.get? l = some { cls := .type "list", data := .seq its.toArray n }) (hf : f its.toArray = its'.toArray) (hv : Vals ys its') (hz : ys.length ≤ sizeLine) :
    Inv X pins σ (upd H l (.lst ys)) { s with heap := s.heap.update l (Obj.mapSeq f), toks := t' } := by
  have q := PySem.IsL.update e f
  rw [hf] at q
  refine I.write (x := l) (e := l) (by rw [hH]; exact trivial) (.inl rfl) (fun b' u hb hu => (Heap.get?_update_other s.heap (Obj.mapSeq f) (Ne.symm hb)).trans hu) ⟨_, q⟩ ?_
  exact ⟨hz, its', _, hv, q⟩
theorem Inv.fresh (I : Inv X pins σ H s) : H s.heap.objs.size = none := I.hok.fresh (Nat.le_refl _)
theorem Inv.lstM (I : Inv X pins σ H s) (hH : H l = some (.lst xs)) : xs.length ≤ sizeLine ∧ ∃ (its : List Value) (n : Nat), Vals xs its ∧ xs.length = its.length ∧ s.heap.get? l = some { cls := .type "list", data := .seq its.toArray n } := by
  obtain ⟨z, its, n, r, e⟩ := I.hok l _ hH
  exact ⟨z, its, n, r, r.length, e⟩
theorem notLongL {n : Nat} (h : n ≤ sizeLine) : Builtin.List.listTooLong n = false := by
  unfold Builtin.List.listTooLong
  exact decide_eq_false (by omega)
end
section
variable {X : Cx}
def rAppend : V → List V → Hp → VK → Prop := fun x vs H Q => ∃ l xs y, x = .ref l ∧ vs = [y] ∧ H l = some (.lst xs) ∧ xs.length < sizeLine ∧ Q .non (upd H l (.lst (xs ++ [y])))
theorem mt_append : MtM X "list.append" rAppend := by
  intro pins s σ H x vs v us Q I rx rv h
  obtain ⟨l, xs, y, rfl, rfl, hH, hz, q⟩ := h
  cases rx
  obtain ⟨u, rfl, ru⟩ := rv.one
  obtain ⟨z, its, n, r, hl, e⟩ := I.lstM hH
  refine call_meets F.slot_list_append ⟨_, e, rfl⟩ F.entry_list_append (F.args_list_append_2 _ _) (PySem.list_append l its.toArray n u (by rw [List.size_toArray]; omega)) ⟨e, ?_⟩
  refine ⟨.non, _, I.lset (its' := its ++ [u]) hH e (by simp) (r.append (.cons ru .nil)) ?_, rfl, q⟩
  rw [List.length_append, List.length_singleton]
  omega
def rExtend : V → List V → Hp → VK → Prop := fun x vs H Q => ∃ l b xs zs, x = .ref l ∧ vs = [.ref b] ∧ H l = some (.lst xs) ∧ H b = some (.lst zs) ∧ xs.length + zs.length ≤ sizeLine ∧ Q .non (upd H l (.lst (xs ++ zs)))
theorem mt_extend : MtM X "list.extend" rExtend := by
  intro pins s σ H x vs v us Q I rx rv h
  obtain ⟨l, b, xs, zs, rfl, rfl, hH, hB, hz, q⟩ := h
  cases rx
  obtain ⟨u, rfl, ru⟩ := rv.one
  cases ru
  obtain ⟨z, its, n, r, hl, e⟩ := I.lstM hH
  obtain ⟨z2, its2, n2, r2, hl2, e2⟩ := I.lstM hB
  have hsz : its.toArray.size + its2.toArray.size ≤ sizeLine := by rw [List.size_toArray, List.size_toArray]; omega
  have hlong : ¬ (!its.toArray.isEmpty && Builtin.List.listTooLong (its.toArray.size + its2.toArray.size)) = true := by
    rw [notLongL hsz, Bool.and_false]
    exact Bool.false_ne_true
  refine call_meets F.slot_list_extend ⟨_, e, rfl⟩ F.entry_list_extend (F.args_list_extend_2 _ _)
    (AutoSeq1.list_extend_list_list_0 l its.toArray n b its2.toArray n2 hlong (by rw [List.size_toArray]; omega) (by omega)) ⟨e, e2, ?_⟩
  refine ⟨.non, _, I.lset (its' := its ++ its2) hH e (by simp) (r.append r2) ?_, rfl, q⟩
  rw [List.length_append]
  omega
end
section
variable {prog : Program} {w : World} {A : Around} {E : Value → Shared → Prop} {s : Shared}
end
section
variable {X : Cx}
end
end L2
namespace L2
open PySem PySem.Spec PyProof.Rows
theorem Vals.ints : ∀ {ns : List Int} {us : List Value}, Vals (ns.map V.int) us → IntsAre us ns
  | [], us, h => by
    rw [List.map_nil] at h
    cases h
    exact IntsAre.nil
  | n :: ns, us, h => by
    rw [List.map_cons] at h
    cases h with
    | cons r t =>
      obtain ⟨k, rfl⟩ := r
      exact IntsAre.cons n k (Vals.ints t)
theorem vals_of_ints : ∀ {us : List Value} {ns : List Int}, IntsAre us ns → Vals (ns.map V.int) us
  | _, _, .nil => by rw [List.map_nil]; exact Paired.nil
  | _, _, .cons n t h => by rw [List.map_cons]; exact Paired.cons (show RelV (V.int n) (Value.int n t) from ⟨t, rfl⟩) (vals_of_ints h)
theorem Vals.strs : ∀ {xs : List Str} {us : List Value}, Vals (xs.map V.str) us → StrsAre us xs
  | [], us, h => by
    rw [List.map_nil] at h
    cases h
    exact StrsAre.nil
  | x :: xs, us, h => by
    rw [List.map_cons] at h
    cases h with
    | cons r t =>
      obtain ⟨k, rfl⟩ := r
      exact StrsAre.cons x k (Vals.strs t)
theorem Vals.bls : ∀ {bs : List Bool} {us : List Value}, Vals (bs.map V.bl) us → us = bs.map Value.bool
  | [], us, h => by
    rw [List.map_nil] at h
    cases h
    rfl
  | b :: bs, us, h => by
    rw [List.map_cons] at h
    cases h with
    | cons r t =>
      cases r
      rw [Vals.bls t, List.map_cons]
theorem Vals.ref1 {a : Addr} {us : List Value} (r : Vals [V.ref a] us) : us = [Value.ref a] := by
  cases r with
  | cons r t =>
    cases t
    cases r
    rfl
section
variable {prog : Program} {w : World} {A : Around} {E : Value → Shared → Prop} {s : Shared} {l : Addr} {its : List Value} {ns : List Int} {Q : Value → Shared → Prop}
end
section
variable {X : Cx}
def rSorted (K : PySem.W.Frag) : List V → Hp → VK → Prop := fun vs H Q => ∃ (a : Addr) (ns : List Int), vs = [V.ref a] ∧ SqL K H a (ns.map V.int) ∧ ns.length < 64 ∧
  ∀ (ns' : List Int) (p : Addr), ns'.Perm ns → ns'.Pairwise (· ≤ ·) → H p = none → Q (.ref p) (upd H p (.lst (ns'.map V.int)))
theorem small64 {n : Nat} (h : n < 64) : n ≤ sizeLine := by rw [sizeLine_eq]; omega
theorem cr_sorted : CallR X (.builtin "sorted") (rSorted X.K) := by
  intro pins s σ H vs us Q I r h
  obtain ⟨a, ns, rfl, hs, h64, q⟩ := h
  obtain ⟨its, rv, hl, _⟩ := I.list hs
  rw [Vals.ref1 r]
  have hi := rv.ints
  refine PyProof.Rows.sorted_ints hl.isList hi (by rw [hi.length]; exact h64) fun out ns' h1 h2 h3 => ?_
  obtain ⟨ep, he'⟩ := PyProof.Rows.sortedAll_at s.heap its out
  have hlen : (ns'.map V.int).length ≤ sizeLine := by rw [List.length_map, h2.length_eq]; exact small64 h64
  exact ⟨.ref _, upd H (s.heap.objs.size + 1) (.lst (ns'.map V.int)), I.laid (t' := s.toks) (fun _ _ => PyProof.Rows.sortedAll_old) (Nat.le_succ _) ⟨hlen, out.toList, ep, vals_of_ints h1, he'⟩, rfl, q ns' _ h2 h3 (I.hok.fresh (Nat.le_succ _))⟩
end
section
variable {X : Cx}
end
section
variable {X : Cx}
end
theorem iter_any {prog : Program} {w : World} {A : Around} {E : Value → Shared → Prop} {s : Shared} {l : Addr} {items : Array Value} {Q : Value → Shared → Prop} (hl : s.heap.IsList l items)
    (h : ∀ s₂ : Shared, s₂ = { s with heap := s.heap.push { cls := .type "list_iterator", data := .fields #[.ref l, .int 0 0] } } →
      (s₂.heap.IsListIter s.heap.objs.size l 0 ∧ s₂.heap.IsList l items) → l ≠ s.heap.objs.size → Q (.ref s.heap.objs.size) s₂) : wpAny (model prog w) A (pyIter (.ref l)) Q E s := by
  have hlt : l < s.heap.objs.size := by obtain ⟨_, e, _⟩ := hl; exact Heap.lt_size e
  exact wpAny_pyIter_list hl (h _ rfl ⟨⟨_, Heap.get?_push_size _ rfl, rfl, rfl⟩, hl.push _⟩ (Nat.ne_of_lt hlt))
theorem truth_bools {prog : Program} {w : World} {A : Around} {bs : List Bool} {its : List Value} (e : its = bs.map Value.bool) :
    TruthOf prog w A (fun i v => its.toArray[i]? = some v) (fun i => bs.getD i false) := fun i v s Q E hv hq => by
  have hv' : its[i]? = some v := by simpa using hv
  rw [e, List.getElem?_map] at hv'
  obtain ⟨b, hb, rfl⟩ := Option.map_eq_some_iff.mp hv'
  have hg : bs.getD i false = b := by rw [List.getD_eq_getElem?_getD, hb] <;> rfl
  have hq' : Q (bs.getD i false) s := hq
  rw [hg] at hq'
  exact wpAny_truthy_bool hq'
theorem any_range : ∀ bs : List Bool, (List.range bs.length).any (fun i => bs.getD i false) = bs.any id
  | [] => rfl
  | b :: bs => by
    rw [List.length_cons, List.range_succ_eq_map, List.any_cons, List.any_map, List.any_cons, ← any_range bs]
    all_goals rfl
theorem all_range : ∀ bs : List Bool, (List.range bs.length).all (fun i => bs.getD i false) = bs.all id
  | [] => rfl
  | b :: bs => by
    rw [List.length_cons, List.range_succ_eq_map, List.all_cons, List.all_map, List.all_cons, ← all_range bs]
    all_goals rfl
section
variable {X : Cx}
def rAny (K : PySem.W.Frag) : List V → Hp → VK → Prop := fun vs H Q => ∃ (a : Addr) (bs : List Bool), vs = [V.ref a] ∧ SqL K H a (bs.map V.bl) ∧ Q (.bl (bs.any id)) H
def rAll (K : PySem.W.Frag) : List V → Hp → VK → Prop := fun vs H Q => ∃ (a : Addr) (bs : List Bool), vs = [V.ref a] ∧ SqL K H a (bs.map V.bl) ∧ Q (.bl (bs.all id)) H
theorem cr_any (hc : X.calm = true) : CallR X (.builtin "any") (rAny X.K) := by
  intro pins s σ H vs us Q I r h
  obtain ⟨a, bs, rfl, hs, q⟩ := h
  obtain ⟨its, rv, hl, _⟩ := I.list hs
  rw [Vals.ref1 r]
  have hb := rv.bls
  refine call_any_walk (iter_any hl.isList fun s₂ e2 st hne => ?_)
  subst e2
  refine ⟨_, _, _, _, _, _, _, rfl, Walks.list (A := X.A.in1) (I.ok.hd hc) _ a hne its.toArray, st, truth_bools hb, fun h' tk hk => ?_⟩
  refine ⟨.bl _, H, I.kept fun b o eo => hk b o (fun hmem => ?_) (Heap.get?_push_of_some _ eo), ?_, q⟩
  · rcases List.mem_cons.mp hmem with e1 | hmem
    · exact absurd (e1 ▸ Heap.lt_size eo) (Nat.lt_irrefl _)
    · cases hmem
  · show Value.bool _ = Value.bool _
    rw [← any_range, hb, List.size_toArray, List.length_map]
theorem cr_all (hc : X.calm = true) : CallR X (.builtin "all") (rAll X.K) := by
  intro pins s σ H vs us Q I r h
  obtain ⟨a, bs, rfl, hs, q⟩ := h
  obtain ⟨its, rv, hl, _⟩ := I.list hs
  rw [Vals.ref1 r]
  have hb := rv.bls
  refine call_all_walk (iter_any hl.isList fun s₂ e2 st hne => ?_)
  subst e2
  refine ⟨_, _, _, _, _, _, _, rfl, Walks.list (A := X.A.in1) (I.ok.hd hc) _ a hne its.toArray, st, truth_bools hb, fun h' tk hk => ?_⟩
  refine ⟨.bl _, H, I.kept fun b o eo => hk b o (fun hmem => ?_) (Heap.get?_push_of_some _ eo), ?_, q⟩
  · rcases List.mem_cons.mp hmem with e1 | hmem
    · exact absurd (e1 ▸ Heap.lt_size eo) (Nat.lt_irrefl _)
    · cases hmem
  · show Value.bool _ = Value.bool _
    rw [← all_range, hb, List.size_toArray, List.length_map]
end
mutual
inductive Dp (K : PySem.W.Frag) (H : Hp) : V → PyData → Prop
  | non : Dp K H .non .none
  | bl (b : Bool) : Dp K H (.bl b) (.bool b)
  | int (i : Int) : Dp K H (.int i) (.int i)
  | str (x : Str) : Dp K H (.str x) (.str x)
  | lst {a : Addr} {xs : List V} {ds : List PyData} : SqL K H a xs → DpAll K H xs ds → Dp K H (.ref a) (.list ds)
  | tup {a : Addr} {xs : List V} {ds : List PyData} : SqT K H a xs → DpAll K H xs ds → Dp K H (.ref a) (.tuple ds)
inductive DpAll (K : PySem.W.Frag) (H : Hp) : List V → List PyData → Prop
  | nil : DpAll K H [] []
  | cons {v : V} {vs : List V} {d : PyData} {ds : List PyData} : Dp K H v d → DpAll K H vs ds → DpAll K H (v :: vs) (d :: ds)
end
section
variable {X : Cx} {pins : List (Addr × Obj)} {σ : St} {H : Hp} {s : Shared}
mutual
theorem Dp.reads (I : Inv X pins σ H s) : ∀ (d : PyData) (v : V) (u : Value), Dp X.K H v d → RelV v u → ∃ as, Reads s.heap u d as
  | .none, _, _, h, r => by
    cases h
    cases r
    exact ⟨_, Reads.none⟩
  | .bool b, _, _, h, r => by
    cases h
    cases r
    exact ⟨_, Reads.bool b⟩
  | .int i, _, _, h, r => by
    cases h
    obtain ⟨t, rfl⟩ := r
    exact ⟨_, Reads.int i t⟩
  | .str x, _, _, h, r => by
    cases h
    obtain ⟨t, rfl⟩ := r
    exact ⟨_, Reads.str x t⟩
  | .list ds, _, _, h, r => by
    cases h with
    | lst hs ha =>
      cases r
      obtain ⟨its, rv, ⟨o, n, ho, hc, _, hd⟩, _⟩ := I.list hs
      obtain ⟨as, hr⟩ := Dp.readsAll I ds _ its ha rv
      exact ⟨_, Reads.list ho hc hd hr⟩
  | .tuple ds, _, _, h, r => by
    cases h with
    | tup hs ha =>
      cases r
      obtain ⟨its, rv, ⟨o, ho, hc, n, hd⟩, _⟩ := I.tuple hs
      obtain ⟨as, hr⟩ := Dp.readsAll I ds _ its ha rv
      exact ⟨_, Reads.tuple ho hc hd hr⟩
  | .dict _, _, _, h, _ => by cases h
theorem Dp.readsAll (I : Inv X pins σ H s) : ∀ (ds : List PyData) (vs : List V) (us : List Value), DpAll X.K H vs ds → Vals vs us → ∃ as, ReadsAll s.heap us ds as
  | [], _, _, h, r => by
    cases h
    cases r
    exact ⟨_, ReadsAll.nil⟩
  | d :: ds, _, _, h, r => by
    cases h with
    | cons h1 h2 =>
      cases r with
      | cons r1 r2 =>
        obtain ⟨as, q1⟩ := Dp.reads I d _ _ h1 r1
        obtain ⟨bs, q2⟩ := Dp.readsAll I ds _ _ h2 r2
        exact ⟨_, ReadsAll.cons q1 q2⟩
end
end
section
variable {X : Cx}
def rEqD (K : PySem.W.Frag) : R2 := fun x y H Q => ∃ d e, Dp K H x d ∧ Dp K H y e ∧ SeqAt.shaped d = true ∧ SeqAt.shaped e = true ∧ Q (.bl (PyData.eqv d e)) H
def rNeD (K : PySem.W.Frag) : R2 := fun x y H Q => ∃ d e, Dp K H x d ∧ Dp K H y e ∧ SeqAt.shaped d = true ∧ SeqAt.shaped e = true ∧ Q (.bl (!PyData.eqv d e)) H
theorem op_eqD (hu : X.A.units + 64 < cLine) : OpR X (compareOp .Eq) (rEqD X.K) := by
  intro pins s σ H x y v u Q I rx ry h
  obtain ⟨d, e, hd, he, sd, se, q⟩ := h
  obtain ⟨as, r1⟩ := Dp.reads I d x v hd rx
  obtain ⟨bs, r2⟩ := Dp.reads I e y u he ry
  exact SeqAt.compareEq_shaped r1 r2 sd se hu ⟨.bl _, H, I, rfl, q⟩
theorem op_neD (hu : X.A.units + 64 < cLine) : OpR X (compareOp .NotEq) (rNeD X.K) := by
  intro pins s σ H x y v u Q I rx ry h
  obtain ⟨d, e, hd, he, sd, se, q⟩ := h
  obtain ⟨as, r1⟩ := Dp.reads I d x v hd rx
  obtain ⟨bs, r2⟩ := Dp.reads I e y u he ry
  exact SeqAt.compareNe_shaped r1 r2 sd se hu ⟨.bl _, H, I, rfl, q⟩
end
end L2
namespace L2
open PySem PySem.Spec PyProof.Rows
abbrev CellAt (h : Heap) (c : Addr) (v : Option Value) : Prop := h.IsCell c v
def relS (scope sc : Scope) : Scope :=
  { scope with names := scope.names.map fun (n, k) => if (k == .free && sc.kind == .function && sc.names.lookup n == some .cell) then (n, .cell) else (n, k) }
def cloFrom (cells : List (Str × Addr)) : List (Str × NameKind) → List (Str × Addr) → List (Str × Addr)
  | [], acc => acc
  | (n, k) :: r, acc => if k == .free then cloFrom cells r ((n, (cells.lookup n).getD 0) :: acc) else cloFrom cells r acc
theorem closure_loop (env : Env) (f : Str × NameKind → List (Str × Addr) → Sem (ForInStep (List (Str × Addr))))
    (hf : ∀ n k c, f (n, k) c = if k == .free then (do let a ← cellOf env n; pure (.yield ((n, a) :: c))) else pure (.yield c)) :
    ∀ (names : List (Str × NameKind)) (acc : List (Str × Addr)), (∀ y ∈ names, y.2 = .free → ∃ c, env.cells.lookup y.1 = some c) → forIn names acc f = pure (cloFrom env.cells names acc)
  | [], acc, _ => by rw [List.forIn_nil]; rfl
  | (n, k) :: r, acc, h => by
    rw [List.forIn_cons, hf]
    have ih := fun acc => closure_loop env f hf r acc fun y hy => h y (List.mem_cons_of_mem _ hy)
    unfold cloFrom
    by_cases hk : (k == NameKind.free) = true
    · rw [if_pos hk, if_pos hk]
      obtain ⟨c, hc⟩ := h (n, k) List.mem_cons_self (by simpa using hk)
      have e : cellOf env n = pure c := by unfold cellOf; rw [hc]
      rw [e]
      have e2 : (env.cells.lookup n).getD 0 = c := by rw [hc]; rfl
      rw [e2]
      exact ih _
    · rw [if_neg hk, if_neg hk]
      exact ih _
theorem closure_ok {scope : Scope} {env : Env} (h : ∀ y ∈ scope.names, y.2 = .free → ∃ c, env.cells.lookup y.1 = some c) : closureFor scope env = pure (cloFrom env.cells scope.names []) := by
  simp only [closureFor]
  rw [closure_loop env _ (fun n k c => rfl) scope.names [] h]
  rfl
theorem mem_lookup {α : Type} : ∀ {l : List (Str × α)} {n : Str} {c : α}, (n, c) ∈ l → ∃ c', l.lookup n = some c'
  | (k, v) :: r, n, c, h => by
    rw [List.lookup_cons]
    cases hb : n == k with
    | true => exact ⟨_, rfl⟩
    | false =>
      rcases List.mem_cons.mp h with e | h
      · cases e; simp at hb
      · exact mem_lookup h
theorem cloFrom_mem {cells : List (Str × Addr)} : ∀ {names : List (Str × NameKind)} {acc : List (Str × Addr)} {n : Str} {c : Addr}, (n, c) ∈ cloFrom cells names acc → (n, c) ∈ acc ∨ ((n, .free) ∈ names ∧ c = (cells.lookup n).getD 0)
  | [], _, _, _, h => .inl h
  | (m, k) :: r, acc, n, c, h => by
    unfold cloFrom at h
    split at h
    · rename_i hk
      have hk : k = .free := by simpa using hk
      rcases cloFrom_mem h with h | ⟨h1, h2⟩
      · rcases List.mem_cons.mp h with e | h
        · cases e; exact .inr ⟨hk ▸ List.mem_cons_self, rfl⟩
        · exact .inl h
      · exact .inr ⟨List.mem_cons_of_mem _ h1, h2⟩
    · rcases cloFrom_mem h with h | ⟨h1, h2⟩
      · exact .inl h
      · exact .inr ⟨List.mem_cons_of_mem _ h1, h2⟩
theorem cloFrom_acc {cells : List (Str × Addr)} : ∀ {names : List (Str × NameKind)} {acc : List (Str × Addr)} {p : Str × Addr}, p ∈ acc → p ∈ cloFrom cells names acc
  | [], _, _, h => h
  | (m, k) :: r, acc, p, h => by
    unfold cloFrom
    split
    · exact cloFrom_acc (List.mem_cons_of_mem _ h)
    · exact cloFrom_acc h
theorem cloFrom_has {cells : List (Str × Addr)} : ∀ {names : List (Str × NameKind)} {acc : List (Str × Addr)} {n : Str}, (n, .free) ∈ names → (n, (cells.lookup n).getD 0) ∈ cloFrom cells names acc
  | (m, k) :: r, acc, n, h => by
    unfold cloFrom
    rcases List.mem_cons.mp h with e | h
    · cases e
      exact cloFrom_acc List.mem_cons_self
    · split
      · exact cloFrom_has h
      · exact cloFrom_has h
theorem cells_mem : ∀ {names : List (Str × NameKind)} {h : Heap} {acc : List (Str × Addr)} {x : Str} {c : Addr}, (x, c) ∈ cellsFrom h.objs.size names acc →
    (x, c) ∈ acc ∨ ((x, .cell) ∈ names ∧ h.objs.size ≤ c ∧ CellAt (pushCells h names) c none)
  | [], _, _, _, _, h => .inl h
  | (n, k) :: r, h, acc, x, c, hm => by
    unfold cellsFrom at hm
    unfold pushCells
    split at hm
    · rename_i hk
      rw [if_pos hk]
      have hk : k = .cell := by simpa using hk
      rw [← Heap.size_push h { cls := .type "cell", data := .cell none }] at hm
      rcases cells_mem hm with hm | ⟨h1, h2, h3⟩
      · rcases List.mem_cons.mp hm with e | hm
        · cases e
          exact .inr ⟨hk ▸ List.mem_cons_self, Nat.le_refl _, _, pushCells_keeps r _ _ _ (Heap.get?_push_size _ rfl), rfl⟩
        · exact .inl hm
      · rw [Heap.size_push] at h2
        exact .inr ⟨List.mem_cons_of_mem _ h1, Nat.le_of_succ_le h2, h3⟩
    · rename_i hk
      rw [if_neg hk]
      rcases cells_mem hm with hm | ⟨h1, h2, h3⟩
      · exact .inl hm
      · exact .inr ⟨List.mem_cons_of_mem _ h1, h2, h3⟩
theorem cells_acc : ∀ {names : List (Str × NameKind)} {n : Nat} {acc : List (Str × Addr)} {p : Str × Addr}, p ∈ acc → p ∈ cellsFrom n names acc
  | [], _, _, _, h => h
  | (m, k) :: r, n, acc, p, h => by
    unfold cellsFrom
    split
    · exact cells_acc (List.mem_cons_of_mem _ h)
    · exact cells_acc h
theorem cells_has : ∀ {names : List (Str × NameKind)} {n : Nat} {acc : List (Str × Addr)} {x : Str}, (x, .cell) ∈ names → ∃ c, (x, c) ∈ cellsFrom n names acc
  | (m, k) :: r, n, acc, x, h => by
    unfold cellsFrom
    rcases List.mem_cons.mp h with e | h
    · cases e
      exact ⟨n, cells_acc List.mem_cons_self⟩
    · split
      · exact cells_has h
      · exact cells_has h
theorem cells_inj : ∀ {names : List (Str × NameKind)} {h : Heap} {acc : List (Str × Addr)} {x y : Str} {c : Addr}, (∀ p ∈ acc, p.2 < h.objs.size) → (∀ x y c, (x, c) ∈ acc → (y, c) ∈ acc → x = y) →
    (x, c) ∈ cellsFrom h.objs.size names acc → (y, c) ∈ cellsFrom h.objs.size names acc → x = y
  | [], _, _, _, _, _, _, hi, h1, h2 => hi _ _ _ h1 h2
  | (n, k) :: r, h, acc, x, y, c, hl, hi, h1, h2 => by
    unfold cellsFrom at h1 h2
    split at h1
    · rename_i hk
      rw [if_pos hk] at h2
      rw [← Heap.size_push h { cls := .type "cell", data := .cell none }] at h1 h2
      refine cells_inj (h := h.push _) (fun p hp => ?_) (fun x y c a b => ?_) h1 h2
      · rw [Heap.size_push]
        rcases List.mem_cons.mp hp with rfl | hp
        · exact Nat.lt_succ_self _
        · exact Nat.lt_succ_of_lt (hl p hp)
      · rcases List.mem_cons.mp a with e | a <;> rcases List.mem_cons.mp b with e' | b
        · cases e; cases e'; rfl
        · cases e; exact absurd (hl _ b) (Nat.lt_irrefl _)
        · cases e'; exact absurd (hl _ a) (Nat.lt_irrefl _)
        · exact hi _ _ _ a b
    · rename_i hk
      rw [if_neg hk] at h2
      exact cells_inj hl hi h1 h2
theorem newEnv_comp {M : Model} {A : Around} {E : Value → Shared → Prop} {s : Shared} {scope : Scope} {globals : Addr} {closure : List (Str × Addr)} {qual : Str} {func : Option Addr} {code : Value} {around : Env} {builtins : Addr} {Q : Env → Shared → Prop}
    (h : Q (newEnv scope s.heap.objs.size globals (cellsFrom (s.heap.objs.size + 1) scope.names closure) qual func code (some around) builtins)
      { s with heap := pushCells (s.heap.push { cls := .type "dict", data := .dict #[] }) scope.names }) :
    wpAny M A (newFunctionEnv scope globals closure [] qual func code (some around) builtins) Q E s := by
  simp only [newFunctionEnv, Option.isSome_some, if_true]
  refine wpAny_bind (wpAny_alloc ?_)
  refine wpAny_bind (wpAny_layCells _ (fun n k c => rfl) scope.names closure _ _ ?_)
  rw [show ({ s with heap := s.heap.push { cls := .type "dict", data := .dict #[] } } : Shared).heap.objs.size = s.heap.objs.size + 1 from Heap.size_push ..]
  rw [List.forIn_nil]
  exact wpAny_bind (wpAny_pure (wpAny_pure h))
theorem lookup_relS {sc : Scope} : ∀ {names : List (Str × NameKind)} {x : Str} {k : NameKind},
    (names.map fun (n, k) => if (k == NameKind.free && sc.kind == .function && sc.names.lookup n == some .cell) then (n, NameKind.cell) else (n, k)).lookup x = some k →
    ∃ k', names.lookup x = some k' ∧ (k = k' ∨ (k' = .free ∧ k = .cell))
  | [], _, _, h => by simp at h
  | (n, k₀) :: r, x, k, h => by
    have ih := @lookup_relS sc r x k
    have h' : List.lookup x ((if (k₀ == NameKind.free && sc.kind == .function && sc.names.lookup n == some .cell) = true then (n, NameKind.cell) else (n, k₀)) :: (r.map _)) = some k := h
    cases hx : x == n with
    | true =>
      simp only [List.lookup_cons, hx]
      by_cases hc : (k₀ == NameKind.free && sc.kind == .function && sc.names.lookup n == some .cell) = true
      · rw [if_pos hc] at h'
        simp only [List.lookup_cons, hx] at h'
        cases h'
        simp only [Bool.and_eq_true, beq_iff_eq] at hc
        exact ⟨k₀, rfl, .inr ⟨hc.1.1, rfl⟩⟩
      · rw [if_neg hc] at h'
        simp only [List.lookup_cons, hx] at h'
        cases h'
        exact ⟨_, rfl, .inl rfl⟩
    | false =>
      simp only [List.lookup_cons, hx]
      by_cases hc : (k₀ == NameKind.free && sc.kind == .function && sc.names.lookup n == some .cell) = true
      · rw [if_pos hc] at h'
        simp only [List.lookup_cons, hx] at h'
        exact ih h'
      · rw [if_neg hc] at h'
        simp only [List.lookup_cons, hx] at h'
        exact ih h'
structure BlkOk (N : List Str) (sc scope : Scope) (own : List (Str × Nat)) : Prop where
  kind : scope.kind = .function
  uniq : ∀ y ∈ scope.names, scope.names.lookup y.1 = some y.2
  ix : ∀ p ∈ own, N[p.2]? = some p.1
  free : ∀ y ∈ scope.names, y.2 = .free → sc.names.lookup y.1 = some .cell ∨ sc.names.lookup y.1 = some .free
  own : ∀ y ∈ scope.names, y.2 = .local ∨ y.2 = .cell → y.1 ∈ own.map (·.1) ∨ y.1 ∉ N
def wipe (σ : St) : List Nat → St
  | [] => σ
  | v :: vs => (wipe σ vs).set v none
theorem wipe_length (σ : St) : ∀ vs : List Nat, (wipe σ vs).length = σ.length
  | [] => rfl
  | v :: vs => by unfold wipe; rw [List.length_set, wipe_length σ vs]
theorem wipe_some {σ : St} {i : Nat} {x : V} : ∀ {vs : List Nat}, (wipe σ vs)[i]? = some (some x) → σ[i]? = some (some x) ∧ i ∉ vs
  | [], h => ⟨h, by simp⟩
  | v :: vs, h => by
    unfold wipe at h
    by_cases hi : v = i
    · subst hi
      by_cases hv : v < (wipe σ vs).length
      · rw [List.getElem?_set_self hv] at h; cases h
      · rw [List.getElem?_eq_none (by simpa using hv)] at h; cases h
    · rw [List.getElem?_set_ne hi] at h
      obtain ⟨h1, h2⟩ := wipe_some h
      exact ⟨h1, by simp only [List.mem_cons, not_or]; exact ⟨fun e => hi e.symm, h2⟩⟩
abbrev Cx.blk (X : Cx) (s : Shared) (H : Hp) (scope : Scope) (cenv : Env) (fp : List Addr) : Cx := { X with s_0 := s, H_0 := H, env := cenv, outer := X.stack, ex := fp, fn := fun x => scope.names.lookup x == some .cell, pn := [], xe := fun _ _ => False }
section
variable {X : Cx} {pins : List (Addr × Obj)} {σ : St} {H : Hp} {s : Shared}
theorem block_start {scope : Scope} {own : List (Str × Nat)} {fp : List Addr} (I : Inv X pins σ H s) (ok : BlkOk X.N X.env.scope scope own) (hN : X.N.Nodup) (hfp : ∀ b ∈ fp, FpOk X pins H b ∧ b < s.heap.objs.size) :
    Inv (X.blk s H scope (compEnvC scope (cellsFrom (s.heap.objs.size + 1) scope.names (cloFrom X.env.cells scope.names [])) s.heap.objs.size X.env) fp) [] (wipe σ (own.map (·.2))) H { s with heap := pushCells (s.heap.push { cls := .type "dict", data := .dict #[] }) scope.names } := by
  have hfree : ∀ y ∈ scope.names, y.2 = .free → ∃ c, X.env.cells.lookup y.1 = some c := fun y hy e => by
    rcases ok.free y hy e with k | k
    · exact I.ok.has _ (.inl k)
    · exact I.ok.has _ (.inr k)
  generalize hcenv : compEnvC scope (cellsFrom (s.heap.objs.size + 1) scope.names (cloFrom X.env.cells scope.names [])) s.heap.objs.size X.env = cenv
  have kp : ∀ b o, s.heap.get? b = some o → (pushCells (s.heap.push { cls := .type "dict", data := .dict #[] }) scope.names).get? b = some o := fun b o e => pushCells_keeps _ _ _ _ (Heap.get?_push_of_some _ e)
  have hL : cenv.locals = s.heap.objs.size := by rw [← hcenv]; rfl
  have hcl : cenv.cells = cellsFrom (s.heap.objs.size + 1) scope.names (cloFrom X.env.cells scope.names []) := by rw [← hcenv]; rfl
  have hsc : cenv.scope = relS scope X.env.scope := by rw [← hcenv]; rfl
  rw [← Heap.size_push s.heap { cls := .type "dict", data := .dict #[] }] at hcl
  have cm : ∀ {y c}, (y, c) ∈ cloFrom X.env.cells scope.names [] → X.env.cells.lookup y = some c ∧ c < s.heap.objs.size := fun {y c} hm => by
    rcases cloFrom_mem hm with hm | ⟨h1, rfl⟩
    · cases hm
    · obtain ⟨c, hc⟩ := hfree _ h1 rfl
      rw [hc]
      obtain ⟨w, z⟩ := I.cell _ _ hc
      exact ⟨rfl, z.lt⟩
  have mem : ∀ {y c}, cenv.cells.lookup y = some c → (X.env.cells.lookup y = some c ∧ c < s.heap.objs.size) ∨ (s.heap.objs.size + 1 ≤ c ∧ CellAt (pushCells (s.heap.push { cls := .type "dict", data := .dict #[] }) scope.names) c none) := fun {y c} e => by
    rw [hcl] at e
    rcases cells_mem (PySem.mem_of_lookup e) with hm | ⟨_, h2, h3⟩
    · exact .inl (cm hm)
    · rw [Heap.size_push] at h2; exact .inr ⟨h2, h3⟩
  have look : ∀ {y}, scope.names.lookup y = some .free → ∃ c, cenv.cells.lookup y = some c ∧ X.env.cells.lookup y = some c := fun {y} hl => by
    have hy : (y, NameKind.free) ∈ scope.names := PySem.mem_of_lookup hl
    obtain ⟨c', e'⟩ := mem_lookup (cells_acc (names := scope.names) (n := (s.heap.push { cls := .type "dict", data := .dict #[] }).objs.size) (cloFrom_has (cells := X.env.cells) (acc := []) hy))
    rw [← hcl] at e'
    refine ⟨c', e', ?_⟩
    rw [hcl] at e'
    rcases cells_mem (PySem.mem_of_lookup e') with hm | ⟨h1, _, _⟩
    · exact (cm hm).1
    · have := ok.uniq _ h1
      rw [hl] at this; cases this
  have okB : (X.blk s H scope cenv fp).Ok := by
    refine ⟨I.ok.mod, by show cenv.scope.kind = _; rw [hsc]; exact ok.kind, by show cenv.globals = _; rw [← hcenv]; exact I.ok.glob, by show cenv.builtins = _; rw [← hcenv]; exact I.ok.blt, by show s.heap.objs.size ≤ cenv.locals; rw [hL]; exact Nat.le_refl _,
      fun y z c e1 e2 => ?_, fun y hy => ?_, fun y c z e => ?_, I.ok.hd, I.ok.frames, .inl rfl, fun b hb => ⟨?_, fun y c e z => ?_⟩, I.bs, Nat.le_trans I.ok.bsz I.sz, fun b o e hb => ?_, fun b hb z => ?_, I.stack, I.stkFree⟩
    · have e1 : cenv.cells.lookup y = some c := e1
      have e2 : cenv.cells.lookup z = some c := e2
      rw [hcl] at e1 e2
      refine cells_inj (fun p hp => ?_) (fun y z c a b => I.ok.inj y z c (cm a).1 (cm b).1) (PySem.mem_of_lookup e1) (PySem.mem_of_lookup e2)
      rw [Heap.size_push]
      exact Nat.lt_succ_of_lt (cm (y := p.1) (c := p.2) hp).2
    · show ∃ c, cenv.cells.lookup y = some c
      have key : ∀ k, cenv.kindOf y = some k → (k = .cell ∨ k = .free) → ∃ c, cenv.cells.lookup y = some c := fun k hk hk' => by
        unfold Env.kindOf at hk
        rw [hsc] at hk
        obtain ⟨k', e, r⟩ := lookup_relS hk
        have : k' = .cell ∨ k' = .free := by
          rcases r with rfl | ⟨rfl, _⟩
          · exact hk'
          · exact .inr rfl
        rcases this with rfl | rfl
        · obtain ⟨c, hm⟩ := cells_has (n := (s.heap.push { cls := .type "dict", data := .dict #[] }).objs.size) (acc := cloFrom X.env.cells scope.names []) (PySem.mem_of_lookup e)
          obtain ⟨c', e'⟩ := mem_lookup hm
          exact ⟨c', by rw [hcl]; exact e'⟩
        · obtain ⟨c, h1, _⟩ := look e
          exact ⟨c, h1⟩
      rcases hy with hy | hy
      · exact key _ hy (.inl rfl)
      · exact key _ hy (.inr rfl)
    · have z : (scope.names.lookup y == some NameKind.cell) = true := z
      have z : scope.names.lookup y = some .cell := by simpa using z
      have e : cenv.cells.lookup y = some c := e
      rw [hcl] at e
      rcases cells_mem (PySem.mem_of_lookup e) with hm | ⟨_, h2, _⟩
      · rcases cloFrom_mem hm with hm | ⟨h1, _⟩
        · cases hm
        · have q := ok.uniq _ h1
          rw [z] at q; cases q
      · rw [Heap.size_push] at h2
        exact Nat.le_of_succ_le h2
    · show b ≠ cenv.locals
      rw [hL]; exact Nat.ne_of_lt (hfp b hb).2
    · have e : cenv.cells.lookup y = some c := e
      rcases mem e with ⟨h1, _⟩ | ⟨h1, _⟩
      · exact (hfp b hb).1.2.2.2.2.1 y c h1 z
      · have h2 : s.heap.objs.size + 1 ≤ b := by rw [← z]; exact h1
        exact absurd (Nat.lt_of_lt_of_le (hfp b hb).2 (Nat.le_of_succ_le h2)) (Nat.lt_irrefl _)
    · rcases (hfp b hb).1.2.2.2.1 with z | z
      · exact I.ok.noex b o e z
      · exact absurd (Nat.lt_of_lt_of_le (Heap.lt_size e) (Nat.le_trans I.ok.bsz z)) (Nat.lt_irrefl _)
    · rcases List.mem_cons.mp (I.stkSub b z) with z | z
      · exact (hfp b hb).1.2.1 z
      · exact (hfp b hb).1.2.2.1 z
  refine ⟨okB, rfl, I.bare, Un.kept kp, ⟨fun _ => none, ?_, fun i y av e1 e2 e3 => ?_⟩, fun y c e => ?_, ?_, fun y c e => ?_, fun p hp => ?_, I.hok.kept kp, by rw [wipe_length]; exact I.len⟩
  · show Heap.Ns _ cenv.locals _
    rw [hL]
    exact Heap.Ns.keeps (Heap.Ns.new ..) fun b o e => pushCells_keeps _ _ _ _ e
  · obtain ⟨e2, hne⟩ := wipe_some e2
    have hfr : scope.names.lookup y = some .free ∧ (cenv.kindOf y = some .cell ∨ cenv.kindOf y = some .free) := by
      have key : ∀ k, cenv.scope.names.lookup y = some k → k = .local ∨ k = .cell ∨ k = .free → scope.names.lookup y = some .free ∧ (cenv.kindOf y = some .cell ∨ cenv.kindOf y = some .free) := fun k hk hk' => by
        have hk0 := hk
        rw [hsc] at hk
        obtain ⟨k', e, r⟩ := lookup_relS hk
        have no : ¬ (k' = .local ∨ k' = .cell) := fun hh => by
          rcases ok.own _ (PySem.mem_of_lookup e) hh with e' | e'
          · obtain ⟨p, hp, hpy⟩ := List.mem_map.mp e'
            have e3 := ok.ix p hp
            have : p.1 = y := hpy
            rw [this] at e3
            exact hne (List.mem_map.mpr ⟨p, hp, nodup_ix hN e3 e1⟩)
          · exact e' (List.mem_of_getElem? e1)
        rcases r with rfl | ⟨rfl, rfl⟩
        · rcases hk' with rfl | rfl | rfl
          · exact absurd (.inl rfl) no
          · exact absurd (.inr rfl) no
          · exact ⟨e, .inr hk0⟩
        · exact ⟨e, .inl hk0⟩
      have e3 : Vis cenv.scope y := e3
      rcases e3 with e3 | e3 | e3
      · exact key _ e3 (.inl rfl)
      · exact key _ e3 (.inr (.inl rfl))
      · exact key _ e3 (.inr (.inr rfl))
    obtain ⟨m, hn, hl⟩ := I.loc
    have hvis : Vis X.env.scope y := (ok.free _ (PySem.mem_of_lookup hfr.1) rfl).elim (fun k => .inr (.inl k)) (fun k => .inr (.inr k))
    obtain ⟨w, r, q⟩ := hl i y av e1 e2 hvis
    refine ⟨w, r, .inr ⟨hfr.2, ?_⟩⟩
    obtain ⟨c, h1, h2⟩ := look hfr.1
    rcases q with ⟨k, _⟩ | ⟨_, c', e', z⟩
    · have k : X.env.scope.names.lookup y = some .local := k
      rcases ok.free _ (PySem.mem_of_lookup hfr.1) rfl with k' | k' <;> rw [show X.env.scope.names.lookup y = _ from k'] at k <;> cases k
    · rw [h2] at e'; cases e'
      exact ⟨c, h1, z.keeps kp⟩
  · have e : cenv.cells.lookup y = some c := e
    rcases mem e with ⟨h1, _⟩ | ⟨_, z⟩
    · obtain ⟨w, z⟩ := I.cell y c h1
      exact ⟨w, z.keeps kp⟩
    · exact ⟨_, z⟩
  · show H cenv.locals = none
    rw [hL]; exact I.hok.fresh (Nat.le_refl _)
  · have e : cenv.cells.lookup y = some c := e
    rcases mem e with ⟨h1, _⟩ | ⟨h1, _⟩
    · exact I.freeC y c h1
    · exact I.hok.fresh (Nat.le_of_succ_le h1)
  · exact absurd (show p ∈ ([] : List (Addr × Obj)) ++ [] from hp) (by simp)
theorem app_ok {E : Value → Shared → Prop} {D : Addr} {xs : List V} {y : V} {v : Value} {Q : Value → Shared → Prop} (I : Inv X pins σ H s) (hD : H D = some (.lst xs)) (hz : xs.length < sizeLine) (r : RelV y v)
    (h : ∀ s', Inv X pins σ (upd H D (.lst (xs ++ [y]))) s' → Q .none s') : wpAny (model X.prog X.w) X.A (call (.builtin "list.append") [.ref D, v]) Q E s := by
  obtain ⟨hz', its, n, ri, e⟩ := I.hok D _ hD
  have hl := ri.length
  refine append_at (hsz := by rw [List.size_toArray]; omega) e fun h' sb ho' => ?_
  refine h { s with heap := h' } (I.write (t' := s.toks) (by rw [hD]; trivial) (.inl rfl) (fun b u hb q => (sb.2 b hb).trans q) ⟨_, ho'⟩ ⟨by rw [List.length_append]; exact hz, its ++ [v], n + 1, ri.append (.cons r .nil), ?_⟩)
  rw [ho']
  simp
def PTs (X : Cx) (ifs : List Expr) (t : TT) : Prop :=
  ∀ (pins : List (Addr × Obj)) (s : Shared) (σ : St) (H : Hp) (Q : Bool → Hp → Prop), Inv X pins σ H s → t σ H Q →
    wpAny (model X.prog X.w) X.A (forIn ifs true fun c r => if r = true then do let ok ← isTrue c X.env (eval c X.env); pure (ForInStep.yield ok) else pure (ForInStep.yield r)) (TP X pins σ Q) X.xe s
def tYes : TT := fun _ H Q => Q true H
theorem pts_nil : PTs X [] tYes := fun _ _ _ H _ I h => wpAny_tests_nil ⟨H, I, h⟩
theorem pts_one {c : Expr} {t : TT} (h : PT X c t) : PTs X [c] t := fun pins s σ H Q I hw => wpAny_tests_one (h pins s σ H Q I hw)
end
theorem thnF {α : Type} {t : Sem α} {Q Q' : α → Shared → Prop} {M : Model} {A : Around} {E : Value → Shared → Prop} {s : Shared} (h : wpAny M A t Q (fun _ _ => False) s) (hQ : ∀ a s, Q a s → Q' a s) : wpAny M A t Q' E s := wpAny_mono h hQ fun _ _ z => False.elim z
theorem compLoop_any {prog : Program} {w : World} {A : Around} {R : Result → Shared → Prop} {s : Shared} {elt target iter : Expr} {ifs : List Expr} {scope : Scope} {pos : Pos} {it acc : Value} {env : Env} (I : Nat → Shared → Prop)
    (turn : ∀ n s, I n s → wpAny (model prog w) A (pyNext it) (fun r s₁ => match r with
      | none => R (.ok .next) s₁
      | some v => wpAny (model prog w) A (letOwnedTupleGo target it v) (fun _ s₁' => wpAny (model prog w) A (assign target env v) (fun _ s₂ =>
          wpAny (model prog w) A (forIn ifs true fun c r => if r = true then do let ok ← isTrue c env (eval c env); pure (ForInStep.yield ok) else pure (ForInStep.yield r)) (fun ok s₃ =>
            if ok = true then wpAny (model prog w) A (eval elt env) (fun x s₄ =>
              wpAny (model prog w) A (call (.builtin "list.append") [acc, x]) (fun _ s₅ => ∃ m, m < n ∧ I m s₅) (notedBy (model prog w) A env fun e s' => R (.error e) s') s₄) (notedBy (model prog w) A env fun e s' => R (.error e) s') s₃
            else ∃ m, m < n ∧ I m s₃) (notedBy (model prog w) A env fun e s' => R (.error e) s') s₂) (notedBy (model prog w) A env fun e s' => R (.error e) s') s₁') (notedBy (model prog w) A env fun e s' => R (.error e) s') s₁) (notedBy (model prog w) A env fun e s' => R (.error e) s') s)
    (n : Nat) (h : I n s) :
    codeAny (model prog w) A (.compLoop (.ListComp elt [⟨target, iter, ifs, 0⟩] scope pos) 0 it acc env) R s := by
  refine codeAny_loop rfl I (fun n s hI => ?_) n h
  show wpAny _ A ((compTurn (.ListComp elt [⟨target, iter, ifs, 0⟩] scope pos) 0 it acc env).onRaise (fun x => do noteFrame x env; theTreesLotGoes x)) _ _ s
  refine wpAny_noted ?_
  rw [compTurn_list]
  refine wpAny_bind (wpAny_standAt (wpAny_bind (wpAny_mono (turn n s hI) (fun r s₁ h₁ => ?_) fun _ _ h' => h')))
  cases r with
  | none => exact wpAny_pure h₁
  | some v =>
    refine wpAny_bind (wpAny_mono h₁ (fun _ s₁' h₁' => ?_) fun _ _ h' => h')
    refine wpAny_bind (wpAny_mono h₁' (fun _ s₂ h₂ => wpAny_bind (wpAny_mono h₂ (fun ok s₃ h₃ => ?_) fun _ _ h' => h')) fun _ _ h' => h')
    cases ok with
    | false => exact wpAny_pure ⟨rfl, h₃⟩
    | true =>
      exact wpAny_bind (wpAny_bind (wpAny_mono h₃ (fun x s₄ h₄ => wpAny_bind (wpAny_mono h₄ (fun _ s₅ h₅ => wpAny_pure (wpAny_pure ⟨rfl, h₅⟩)) fun _ _ h' => h')) fun _ _ h' => h'))
section
variable {X : Cx}
def tLc (wi : TI) (g : TG) (tt : TT) (te : TE) (vs : List Nat) : TE := fun σ H Q => wi σ H fun J H1 => ∀ D, H1 D = none → ∃ W : Nat → Nat → Hp → Prop, (∃ m, W 0 m (upd H1 D (.lst []))) ∧ ∀ i m H, W i m H →
  (J.stop i H ∧ Q (.ref D) H) ∨ (J.go i H ∧ ∃ Nx : Hp → Prop, (∀ H', Nx H' → ∃ m', m' < m ∧ W (i + 1) m' H') ∧ ∀ x H', J.yld i H x H' → g x (wipe σ vs) H' fun σ2 H2 => wipe σ2 vs = wipe σ vs ∧ tt σ2 H2 fun b H3 =>
    if b = true then te σ2 H3 fun y H4 => ∃ acc, H4 D = some (.lst acc) ∧ acc.length < sizeLine ∧ Nx (upd H4 D (.lst (acc ++ [y]))) else Nx H3)
theorem lc_core {pins : List (Addr × Obj)} {s : Shared} {σ : St} {H : Hp} {Q : VK} {elt tg iter : Expr} {ifs : List Expr} {scope : Scope} {own : List (Str × Nat)} {pos pos' : Pos} {wi : TI} {g : TG} {tt : TT} {te : TE} {use : Option (Value → Sem Unit)} {Qf : Value → Shared → Prop}
    (hc : X.calm = true) (hN : X.N.Nodup) (I : Inv X pins σ H s) (hi : PI X tg iter wi) (ok : BlkOk X.N X.env.scope scope own)
    (hg : ∀ (s : Shared) (H : Hp) (C : Addr) (cl : List (Str × Addr)) (fp : List Addr), PG (X.blk s H scope (compEnvC scope cl C X.env) fp) tg g) (ht : ∀ (s : Shared) (H : Hp) (C : Addr) (cl : List (Str × Addr)) (fp : List Addr), PTs (X.blk s H scope (compEnvC scope cl C X.env) fp) ifs tt)
    (he : ∀ (s : Shared) (H : Hp) (C : Addr) (cl : List (Str × Addr)) (fp : List Addr), PE (X.blk s H scope (compEnvC scope cl C X.env) fp) elt te) (hs : ∀ x, foldedSetIterable iter X.env x = pure x)
    (h : tLc wi g tt te (own.map (·.2)) σ H Q)
    (hRR : ∀ D C s' m H', Inv X pins σ H' s' → Q (.ref D) H' → s'.heap.Ns C m → FpOk X pins H' C → compPost (model X.prog X.w) X.A X.xe use Qf (.ref D) C (.ok .next) s') :
    wpAny (model X.prog X.w) X.A (comprehension (.ListComp elt [⟨tg, iter, ifs, 0⟩] scope pos) scope X.env pos' (newList []) false (eval iter X.env) use) Qf X.xe s := by
  have hfree : ∀ y ∈ scope.names, y.2 = .free → ∃ c, X.env.cells.lookup y.1 = some c := fun y hy e => by
    rcases ok.free y hy e with k | k
    · exact I.ok.has _ (.inl k)
    · exact I.ok.has _ (.inr k)
  refine wpAny_comprehension_free (use := use) rfl hs (closure_ok hfree) ok.kind (fun y hy e => by rw [ok.uniq y hy, e])
    (thn (hi pins s σ H _ I h) fun xv s1 hx => thn hx fun itv s2 h2 => ?_)
  obtain ⟨it, fp, tn, J, H2, e, I2, T, st2, f2, q⟩ := h2
  subst e
  refine wpAny_newObj_type (newEnv_comp ?_) (by show 0 ≤ sizeLine; decide)
  generalize hD : s2.heap.objs.size = D
  have hDn : H2 D = none := I2.hok.fresh (Nat.le_of_eq hD)
  obtain ⟨W, ⟨m0, w0⟩, turn⟩ := q D hDn
  generalize hs3 : ({ s2 with heap := s2.heap.push { cls := .type "list", data := .seq ([] : List Value).toArray } } : Shared) = s3
  have I3 : Inv X pins σ (upd H2 D (.lst [])) s3 := by
    rw [← hs3]
    refine I2.laid (t' := s2.toks) (fun b o e => Heap.get?_push_of_some _ e) (Nat.le_of_eq hD) ⟨Nat.zero_le _, [], 0, .nil, ?_⟩
    rw [← hD]
    exact Heap.get?_push_size _ rfl
  have h3 : s3.heap = s2.heap.push { cls := .type "list", data := .seq ([] : List Value).toArray } := by rw [← hs3]
  have sz : ∀ b ∈ fp, b < s2.heap.objs.size := fun b hb => by
    obtain ⟨o, e, _⟩ := T.obj _ _ st2 b hb
    exact Heap.lt_size e
  have f3 : ∀ b ∈ fp, FpOk X pins (upd H2 D (.lst [])) b ∧ b < s3.heap.objs.size := fun b hb => by
    have hlt := sz b hb
    refine ⟨⟨?_, (f2 b hb).2⟩, by rw [h3, Heap.size_push]; exact Nat.lt_succ_of_lt hlt⟩
    rw [upd_ne (by rw [← hD]; exact Nat.ne_of_lt hlt)]
    exact (f2 b hb).1
  have st3 : tn 0 s3.heap := T.keep _ _ _ st2 fun b _ o e => by rw [h3]; exact Heap.get?_push_of_some _ e
  have I4 := block_start I3 ok hN f3
  have pg := hg s3 (upd H2 D (.lst [])) s3.heap.objs.size (cellsFrom (s3.heap.objs.size + 1) scope.names (cloFrom X.env.cells scope.names [])) fp
  have pt := ht s3 (upd H2 D (.lst [])) s3.heap.objs.size (cellsFrom (s3.heap.objs.size + 1) scope.names (cloFrom X.env.cells scope.names [])) fp
  have pe := he s3 (upd H2 D (.lst [])) s3.heap.objs.size (cellsFrom (s3.heap.objs.size + 1) scope.names (cloFrom X.env.cells scope.names [])) fp
  show codeAny _ _ (.compStart (.ListComp elt [⟨tg, iter, ifs, 0⟩] scope pos) 0 (.ref it) (.ref D) (compEnvC scope (cellsFrom (s3.heap.objs.size + 1) scope.names (cloFrom X.env.cells scope.names [])) s3.heap.objs.size X.env)) (compPost (model X.prog X.w) X.A X.xe use Qf (.ref D) s3.heap.objs.size) { s3 with heap := pushCells (s3.heap.push { cls := .type "dict", data := .dict #[] }) scope.names }
  have nfp : ∀ b ∈ fp, (upd H2 D (.lst [])) b = none := fun b hb => (f3 b hb).1.1
  generalize hce : compEnvC scope (cellsFrom (s3.heap.objs.size + 1) scope.names (cloFrom X.env.cells scope.names [])) s3.heap.objs.size X.env = ce at I4 pg pt pe ⊢
  have cL : ce.locals = s3.heap.objs.size := by subst hce; rfl
  generalize hH3 : upd H2 D (.lst []) = H3 at I3 I4 pg pt pe w0 nfp f3
  generalize hs4 : ({ s3 with heap := pushCells (s3.heap.push { cls := .type "dict", data := .dict #[] }) scope.names } : Shared) = s4 at I4 ⊢
  have st4 : tn 0 s4.heap := T.keep _ _ _ st3 fun b _ o e => by rw [← hs4]; exact pushCells_keeps _ _ _ _ (Heap.get?_push_of_some _ e)
  have stat : ∀ {σ' : St} {H' : Hp} {s' : Shared}, Inv (X.blk s3 H3 scope ce fp) [] σ' H' s' → (∀ b ∈ fp, H' b = none) → ∀ b ∈ fp, FpOk (X.blk s3 H3 scope ce fp) [] H' b := fun {σ' H' s'} I' hn b hb =>
    ⟨hn b hb, (I'.ok.exf b hb).1, I'.ok.exfs b hb, .inl hb, fun x c e => (I'.ok.exf b hb).2 x c e, fun p hp => absurd (show p ∈ ([] : List (Addr × Obj)) ++ [] from hp) (by simp)⟩
  have loop : codeAny (model X.prog X.w) X.A (.compLoop (.ListComp elt [⟨tg, iter, ifs, 0⟩] scope pos) 0 (.ref it) (.ref D) ce) (compPost (model X.prog X.w) X.A X.xe use Qf (.ref D) s3.heap.objs.size) s4 := by
    refine compLoop_any (fun n s' => ∃ i H', Inv (X.blk s3 H3 scope ce fp) [] (wipe σ (own.map (·.2))) H' s' ∧ tn i s'.heap ∧ (∀ b ∈ fp, H' b = none) ∧ W i n H') ?_ m0 ⟨0, H3, I4, st4, nfp, w0⟩
    rintro n s5 ⟨i, H5, I5, st5, n5, w5⟩
    rcases turn i n H5 w5 with ⟨stop, qq⟩ | ⟨go, Nx, hNx, step⟩
    · have td := T.done (X.blk s3 H3 scope ce fp) rfl rfl rfl hc i [] s5 _ H5 (fun _ _ => False) I5 (stat I5 n5) st5 stop
      refine thnF td fun r s6 ⟨hr, I6⟩ => ?_
      subst hr
      have I7 : Inv X pins σ H5 s6 := I3.call' (ch := fp) I6.os I6.base I6.hok I6.bare fun b hb => ⟨(f3 b hb).1.2.2.2.1, (f3 b hb).1.2.1, (f3 b hb).1.2.2.2.2.1, (f3 b hb).1.2.2.2.2.2⟩
      have nC : H5 s3.heap.objs.size = none := by
        have z : H5 ce.locals = none := I6.free
        rw [cL] at z
        exact z
      obtain ⟨m, hn, _⟩ := I6.loc
      have hn : s6.heap.Ns ce.locals m := hn
      rw [cL] at hn
      exact hRR D s3.heap.objs.size s6 m H5 I7 qq hn (I3.fpOk (Nat.le_refl _) nC)
    · have ti := T.item (X.blk s3 H3 scope ce fp) rfl rfl rfl hc i [] s5 _ H5 (fun _ _ => False) I5 (stat I5 n5) st5 go
      refine thnF ti fun r s6 ⟨u, hr, h6⟩ => ?_
      subst hr
      refine thnF h6 fun _ s7 ⟨x, H7, I7, r7, y7, st7, n7⟩ => ?_
      have I7' := I7.pinned (stat I7 n7) (T.obj _ _ st7)
      refine thnF (pg _ s7 _ H7 x u _ I7' r7 (step x H7 y7)) fun _ s8 ⟨σ8, H8, I8, hw8, q8⟩ => ?_
      refine thnF (pt _ s8 σ8 H8 _ I8 q8) fun b s9 ⟨H9, I9, q9⟩ => ?_
      have fin : ∀ {s' : Shared} {H' : Hp}, Inv (X.blk s3 H3 scope ce fp) ([] ++ pinsAt fp s7.heap) σ8 H' s' → Nx H' → ∃ m, m < n ∧ ∃ i H', Inv (X.blk s3 H3 scope ce fp) [] (wipe σ (own.map (·.2))) H' s' ∧ tn i s'.heap ∧ (∀ b ∈ fp, H' b = none) ∧ W i m H' := fun {s' H'} I' nx => by
        obtain ⟨m', hm, w'⟩ := hNx H' nx
        have pin' : ∀ b ∈ fp, ∀ o, s7.heap.get? b = some o → s'.heap.get? b = some o ∧ H' b = none := fun b hb o e =>
          let z := I'.pin (b, o) (List.mem_append_right _ (List.mem_append_right _ (mem_pinsAt hb e)))
          ⟨z.1, z.2.1⟩
        have hl : (wipe σ (own.map (·.2))).length = σ8.length := by rw [← hw8, wipe_length]
        refine ⟨m', hm, i + 1, H', (I'.unpinned (pins := [])).weak hl (fun j v e => ?_), T.keep _ _ _ st7 fun b hb o e => (pin' b hb o e).1, fun b hb => ?_, w'⟩
        · rw [← hw8] at e
          exact (wipe_some e).1
        · obtain ⟨o, e, _⟩ := T.obj _ _ st7 b hb
          exact (pin' b hb o e).2
      cases b with
      | false =>
        simp only [Bool.false_eq_true, if_false] at q9 ⊢
        exact fin I9 q9
      | true =>
        simp only [if_true] at q9 ⊢
        refine thnF (pe _ s9 σ8 H9 _ I9 q9) fun z s10 ⟨yv, H10, I10, r10, acc, hD10, hz10, nx⟩ => ?_
        exact app_ok (X := X.blk s3 H3 scope ce fp) I10 hD10 hz10 r10 fun s11 I11 => fin I11 nx
  exact codeAny_compStart_list loop (T.self X.A 0 _ _ _ st4 loop)
theorem pe_lc {elt tg iter : Expr} {ifs : List Expr} {scope : Scope} {own : List (Str × Nat)} {pos : Pos} {wi : TI} {g : TG} {tt : TT} {te : TE} (hc : X.calm = true) (hN : X.N.Nodup) (hi : PI X tg iter wi) (ok : BlkOk X.N X.env.scope scope own)
    (hg : ∀ (s : Shared) (H : Hp) (C : Addr) (cl : List (Str × Addr)) (fp : List Addr), PG (X.blk s H scope (compEnvC scope cl C X.env) fp) tg g) (ht : ∀ (s : Shared) (H : Hp) (C : Addr) (cl : List (Str × Addr)) (fp : List Addr), PTs (X.blk s H scope (compEnvC scope cl C X.env) fp) ifs tt)
    (he : ∀ (s : Shared) (H : Hp) (C : Addr) (cl : List (Str × Addr)) (fp : List Addr), PE (X.blk s H scope (compEnvC scope cl C X.env) fp) elt te) (hs : ∀ x, foldedSetIterable iter X.env x = pure x := by intro _; rfl) :
    PE X (.ListComp elt [⟨tg, iter, ifs, 0⟩] scope pos) (tLc wi g tt te (own.map (·.2))) := by
  intro pins s σ H Q I h
  rw [eval_ListComp]
  refine lc_core hc hN I hi ok hg ht he hs h fun D C s' m H' I' q hn f => ⟨m, hn, fun h'' sb => ?_⟩
  obtain ⟨f0, f1, f2, f3, f4, f5⟩ := f
  exact ⟨.ref D, H', I'.turned (t' := s'.toks) (fun b o hb e => (sb.2 b hb).trans e) f0 f1 f3 f4 f5, rfl, q⟩
theorem ps_setLc {i : Nat} {y : Str} {py : Pos} {elt tg iter : Expr} {ifs : List Expr} {scope : Scope} {own : List (Str × Nat)} {pos spos : Pos} {wi : TI} {g : TG} {tt : TT} {te : TE} (hc : X.calm = true) (hN : X.N.Nodup) (hy : X.N[i]? = some y) (hyl : X.env.scope.names.lookup y = some .local)
    (hsw : swapsWith (.ListComp elt [⟨tg, iter, ifs, 0⟩] scope pos) (some (.Name y py)) spos.line X.env = pure true) (hi : PI X tg iter wi) (ok : BlkOk X.N X.env.scope scope own)
    (hg : ∀ (s : Shared) (H : Hp) (C : Addr) (cl : List (Str × Addr)) (fp : List Addr), PG (X.blk s H scope (compEnvC scope cl C X.env) fp) tg g) (ht : ∀ (s : Shared) (H : Hp) (C : Addr) (cl : List (Str × Addr)) (fp : List Addr), PTs (X.blk s H scope (compEnvC scope cl C X.env) fp) ifs tt)
    (he : ∀ (s : Shared) (H : Hp) (C : Addr) (cl : List (Str × Addr)) (fp : List Addr), PE (X.blk s H scope (compEnvC scope cl C X.env) fp) elt te) (hs : ∀ x, foldedSetIterable iter X.env x = pure x := by intro _; rfl) :
    PS X (.Assign [.Name y py] (.ListComp elt [⟨tg, iter, ifs, 0⟩] scope pos) spos) (tAsg (tLc wi g tt te (own.map (·.2))) (gName i)) := by
  intro pins s σ H D I h
  rw [exec_Assign_Name_used _ _ _ _ hsw]
  refine wpAny_bind (wpAny_standAt (wpAny_bind ?_))
  show wpAny _ X.A (do let _ ← comprehension (.ListComp elt [⟨tg, iter, ifs, 0⟩] scope pos) scope X.env (firstIterPos [⟨tg, iter, ifs, 0⟩] pos) (newList []) false (eval iter X.env) (some (assign (.Name y py) X.env))) _ _ s
  have h : tLc wi g tt te (own.map (·.2)) σ H (fun x H1 => gName i x σ H1 D.nx) := h
  refine wpAny_bind (thn (lc_core (Qf := fun _ s' => SP X pins D .next s') hc hN I hi ok hg ht he hs h fun L C s' m H' I' q hn f => ?_) fun _ s' hq => wpAny_pure (wpAny_pure hq))
  show wpAny _ _ (assign (.Name y py) X.env (.ref L)) _ _ _
  refine wpAny_assign_Name (store_ok2 (v := V.ref L) I' hN hy (.inl hyl) rfl (fun s2 I2 ⟨a, sb, ha⟩ => ?_) (.inr hyl))
  obtain ⟨f0, f1, f2, f3, f4, f5⟩ := f
  have haC : C ≠ a := by
    rcases ha with z | z
    · rw [z]; exact f1
    · exact fun e => f4 y a z e.symm
  refine ⟨m, hn.sameBut sb haC, fun h3 sb3 => ?_⟩
  exact ⟨_, H', I2.turned (t' := s2.toks) (fun b o hb e => (sb3.2 b hb).trans e) f0 f1 f3 f4 f5, q⟩
theorem sw_true {elt : Expr} {gs : List Comprehension} {scope : Scope} {pos py : Pos} {y : Str} {l : Nat} {env : Env} (hk : env.scope.kind = .function) (hy : env.scope.names.lookup y = some .local) (hl : (py.line == pos.line) = true)
    (ha : (scope.names.any fun (n, k) => n == y && (k == .local || k == .cell)) = false) : swapsWith (.ListComp elt gs scope pos) (some (.Name y py)) l env = pure true := by
  have ky : env.kindOf y = some .local := hy
  have hb : env.blockKind = .function := by unfold Env.blockKind; rw [hk]; rfl
  unfold swapsWith
  simp only [hb, ky, ha, Expr.pos, hl]
  rfl
end
def blkC (N : List Str) (sc scope : Scope) (own : List (Str × Nat)) : Bool :=
  (match scope.kind with | .function => true | _ => false) && (scope.names.all fun y => decide (scope.names.lookup y.1 = some y.2)) && (own.all fun p => decide (N[p.2]? = some p.1)) &&
    (scope.names.all fun y => match y.2 with
      | .free => (match sc.names.lookup y.1 with | some .cell => true | some .free => true | _ => false)
      | .local => decide (y.1 ∈ own.map (·.1)) || decide (y.1 ∉ N)
      | .cell => decide (y.1 ∈ own.map (·.1)) || decide (y.1 ∉ N)
      | _ => true)
theorem blkOk_by {N : List Str} {sc scope : Scope} {own : List (Str × Nat)} (h : blkC N sc scope own = true) : BlkOk N sc scope own := by
  unfold blkC at h
  simp only [Bool.and_eq_true, List.all_eq_true, decide_eq_true_eq] at h
  obtain ⟨⟨⟨h1, h2⟩, h3⟩, h4⟩ := h
  refine ⟨?_, h2, h3, fun y hy e => ?_, fun y hy e => ?_⟩
  · split at h1
    · assumption
    · cases h1
  · have q := h4 y hy
    simp only [e] at q
    split at q <;> first | exact .inl (by assumption) | exact .inr (by assumption) | cases q
  · have q := h4 y hy
    rcases e with e | e <;> (simp only [e, Bool.or_eq_true, decide_eq_true_eq] at q; exact q)
end L2
namespace L2
open PySem PySem.Spec PyProof.Rows
section
variable {prog : Program} {w : World} {A : Around} {R : Result → Shared → Prop} {s : Shared} {elt t0 i0 t1 i1 : Expr} {ifs0 ifs1 : List Expr} {scope : Scope} {pos : Pos} {it acc : Value} {env : Env}
end
section
variable {X : Cx}
end
end L2
namespace L2
open PySem PySem.Spec PyProof.Rows
section
variable {κ : Type} [DecidableEq κ]
def valV (kvs : List (κ × V)) (k : κ) : Option V := (kvs.find? fun kv => decide (kv.1 = k)).map (·.2)
def putK (kvs : List (κ × V)) (k : κ) (v : V) : List (κ × V) :=
  if (kvs.any fun kv => decide (kv.1 = k)) = true then kvs.map (fun kv => if kv.1 = k then (kv.1, v) else kv) else kvs ++ [(k, v)]
def dropK (kvs : List (κ × V)) (k : κ) : List (κ × V) := kvs.filter fun kv => decide (kv.1 ≠ k)
theorem valV_pos {p : κ × V} {r : List (κ × V)} {k : κ} (e : p.1 = k) : valV (p :: r) k = some p.2 := by simp [valV, List.find?_cons, e]
theorem valV_neg {p : κ × V} {r : List (κ × V)} {k : κ} (e : ¬ p.1 = k) : valV (p :: r) k = valV r k := by simp [valV, List.find?_cons, e]
theorem valV_any (k : κ) : ∀ kvs : List (κ × V), (kvs.any fun kv => decide (kv.1 = k)) = (valV kvs k).isSome
  | [] => rfl
  | p :: r => by
    rw [List.any_cons]
    by_cases e : p.1 = k
    · simp only [valV_pos e, decide_eq_true e, Bool.true_or, Option.isSome_some]
    · rw [valV_neg e, decide_eq_false e, Bool.false_or]; exact valV_any k r
theorem length_putK (kvs : List (κ × V)) (k : κ) (v : V) : (putK kvs k v).length ≤ kvs.length + 1 := by
  unfold putK
  split
  · rw [List.length_map]; omega
  · rw [List.length_append, List.length_cons, List.length_nil]; omega
theorem RelO.isSome_eq {o : Option V} {u : Option Value} (r : RelO o u) : o.isSome = u.isSome := by
  cases o with
  | none => cases u with
    | none => rfl
    | some _ => exact (show False from r).elim
  | some _ => cases u with
    | none => exact (show False from r).elim
    | some _ => rfl
theorem RelO.getD {o : Option V} {u : Option Value} {d : V} {d' : Value} (r : RelO o u) (rd : RelV d d') : RelV (o.getD d) (u.getD d') := by
  cases o with
  | none => cases u with
    | none => exact rd
    | some _ => exact (show False from r).elim
  | some _ => cases u with
    | none => exact (show False from r).elim
    | some _ => exact r
theorem KV.val {kvs : List (κ × V)} {vs : List (κ × Value)} (r : KV kvs vs) (k : κ) : RelO (valV kvs k) (valueAt vs k) := by
  unfold KV at r
  induction r with
  | nil => exact True.intro
  | @cons p q ps qs h t ih =>
    obtain ⟨h1, h2⟩ := h
    by_cases e : p.1 = k
    · have e' : q.1 = k := h1.symm.trans e
      have b : valueAt (q :: qs) k = some q.2 := by simp [valueAt, List.find?_cons, e']
      rw [valV_pos e, b]; exact h2
    · have e' : ¬ q.1 = k := fun z => e (h1.trans z)
      have b : valueAt (q :: qs) k = valueAt qs k := by simp [valueAt, List.find?_cons, e']
      rw [valV_neg e, b]; exact ih
theorem KV.any {kvs : List (κ × V)} {vs : List (κ × Value)} (r : KV kvs vs) (k : κ) : (kvs.any fun kv => decide (kv.1 = k)) = vs.any fun kv => decide (kv.1 = k) := by
  unfold KV at r
  induction r with
  | nil => rfl
  | cons h t ih => rw [List.any_cons, List.any_cons, ih, h.1]
theorem KV.repl {kvs : List (κ × V)} {vs : List (κ × Value)} (r : KV kvs vs) (k : κ) {y : V} {u : Value} (ry : RelV y u) :
    KV (kvs.map fun kv => if kv.1 = k then (kv.1, y) else kv) (vs.map fun kv => if kv.1 = k then (kv.1, u) else kv) := by
  unfold KV at r ⊢
  induction r with
  | nil => exact .nil
  | @cons p q ps qs h t ih =>
    rw [List.map_cons, List.map_cons]
    refine .cons ?_ ih
    obtain ⟨h1, h2⟩ := h
    by_cases e : p.1 = k
    · rw [if_pos e, if_pos (h1.symm.trans e)]; exact ⟨h1, ry⟩
    · rw [if_neg e, if_neg (fun z => e (h1.trans z))]; exact ⟨h1, h2⟩
theorem KV.put {kvs : List (κ × V)} {vs : List (κ × Value)} (r : KV kvs vs) (k : κ) {y : V} {u : Value} (ry : RelV y u) : KV (putK kvs k y) (stored vs k u) := by
  unfold putK stored
  rw [r.any k]
  by_cases e : (vs.any fun kv => decide (kv.1 = k)) = true
  · rw [if_pos e, if_pos e]; exact r.repl k ry
  · rw [if_neg e, if_neg e]; exact Paired.snoc r ⟨rfl, ry⟩
theorem KV.drop {kvs : List (κ × V)} {vs : List (κ × Value)} (r : KV kvs vs) (k : κ) : KV (dropK kvs k) (without vs k) := by
  unfold KV at r ⊢
  unfold dropK without
  induction r with
  | nil => exact .nil
  | @cons p q ps qs h t ih =>
    obtain ⟨h1, h2⟩ := h
    rw [List.filter_cons, List.filter_cons]
    by_cases e : p.1 = k
    · have a : ¬ decide (p.1 ≠ k) = true := by simp [e]
      have b : ¬ decide (q.1 ≠ k) = true := by simp [h1.symm.trans e]
      rw [if_neg a, if_neg b]; exact ih
    · have e' : ¬ q.1 = k := fun z => e (h1.trans z)
      have a : decide (p.1 ≠ k) = true := by simp [e]
      have b : decide (q.1 ≠ k) = true := by simp [e']
      rw [if_pos a, if_pos b]; exact .cons ⟨h1, h2⟩ ih
theorem KV.keys {kvs : List (κ × V)} {vs : List (κ × Value)} (r : KV kvs vs) : kvs.map (·.1) = vs.map (·.1) := by
  unfold KV at r
  induction r with
  | nil => rfl
  | cons h t ih => rw [List.map_cons, List.map_cons, ih, h.1]
theorem KV.length {kvs : List (κ × V)} {vs : List (κ × Value)} (r : KV kvs vs) : kvs.length = vs.length := Paired.length r
end
theorem kV_is {P : Program} {w : World} {k : Key} {u : Value} (r : RelV (kV k) u) : (mixKind P w).is k u = true := by
  cases k with
  | inl i => obtain ⟨t, e⟩ := (show ∃ t, u = Value.int i t from r); subst e; exact mixKind_int P w i t
  | inr x => obtain ⟨t, e⟩ := (show ∃ t, u = Value.str x t from r); subst e; exact mixKind_str P w x t
theorem items_are {P : Program} {w : World} : ∀ {ks : List Key} {us : List Value}, Vals (ks.map kV) us → ItemsAre (mixKind P w) ks us
  | [], _, r => by rw [List.map_nil] at r; cases r; exact .nil
  | k :: ks, _, r => by
    rw [List.map_cons] at r
    cases r with
    | cons h t => exact .cons (kV_is h) (items_are t)
abbrev KT (H : Hp) : List (List Key × V) → List (List Key × Addr × Value) → Prop := Paired fun p q => p.1 = q.1 ∧ H q.2.1 = some (.tup (p.1.map kV)) ∧ RelV p.2 q.2.2
theorem KT.val {H : Hp} {kvs : List (List Key × V)} {xs : List (List Key × Addr × Value)} (r : KT H kvs xs) (k : List Key) : RelO (valV kvs k) ((atKey xs k).map (·.2)) := by
  induction r with
  | nil => exact True.intro
  | @cons p q ps qs h t ih =>
    obtain ⟨h1, _, h2⟩ := h
    by_cases e : p.1 = k
    · have e' : q.1 = k := h1.symm.trans e
      have b : atKey (q :: qs) k = some q.2 := by simp [atKey, List.find?_cons, e']
      rw [valV_pos e, b]; exact h2
    · have e' : ¬ q.1 = k := fun z => e (h1.trans z)
      have b : atKey (q :: qs) k = atKey qs k := by simp [atKey, List.find?_cons, e']
      rw [valV_neg e, b]; exact ih
theorem KT.repl {H : Hp} {kvs : List (List Key × V)} {xs : List (List Key × Addr × Value)} (r : KT H kvs xs) (k : List Key) {y : V} {u : Value} (ry : RelV y u) :
    KT H (kvs.map fun kv => if kv.1 = k then (kv.1, y) else kv) (xs.map (putAt k u)) := by
  induction r with
  | nil => exact .nil
  | @cons p q ps qs h t ih =>
    rw [List.map_cons, List.map_cons]
    refine .cons ?_ ih
    obtain ⟨h1, h2, h3⟩ := h
    unfold putAt
    by_cases e : p.1 = k
    · rw [if_pos e, if_pos (h1.symm.trans e)]; exact ⟨h1, h2, ry⟩
    · rw [if_neg e, if_neg (fun z => e (h1.trans z))]; exact ⟨h1, h2, h3⟩
theorem KT.put {H : Hp} {kvs : List (List Key × V)} {xs : List (List Key × Addr × Value)} (r : KT H kvs xs) (k : List Key) {b : Addr} {y : V} {u : Value} (hb : H b = some (.tup (k.map kV))) (ry : RelV y u) :
    KT H (putK kvs k y) (storedH xs k b u) := by
  have e : (kvs.any fun kv => decide (kv.1 = k)) = (atKey xs k).isSome := by
    rw [valV_any, (r.val k).isSome_eq, Option.isSome_map]
  unfold putK storedH
  rw [e]
  by_cases q : (atKey xs k).isSome = true
  · rw [if_pos q, if_pos q]; exact r.repl k ry
  · rw [if_neg q, if_neg q]; exact Paired.snoc r ⟨rfl, hb, ry⟩
theorem KT.keeps {H H' : Hp} {kvs : List (List Key × V)} {xs : List (List Key × Addr × Value)} (r : KT H kvs xs) (ht : ∀ b ys, H b = some (.tup ys) → H' b = some (.tup ys)) : KT H' kvs xs :=
  Paired.mapP r fun _ _ z => ⟨z.1, ht _ _ z.2.1, z.2.2⟩
section
variable {P : Program} {w : World} {H : Hp} {h : Heap} {a : Addr}
theorem rd_of {u : HO} (ok : HOk P w H h) (e : Rd H a u) : ObjOk P w H h a u := e.ok ok
theorem dk_rd {kvs : List (Key × V)} (ok : HOk P w H h) (e : Rd H a (.dK kvs)) : kvs.length ≤ sizeLine ∧ (a == sysModules) = false ∧ ∃ vs, KV kvs vs ∧ h.DictOf (mixKind P w) a vs :=
  show ObjOk P w H h a (.dK kvs) from rd_of ok e
theorem dk_of {kvs : List (Key × V)} (ok : HOk P w H h) (e : H a = some (.dK kvs)) : kvs.length ≤ sizeLine ∧ (a == sysModules) = false ∧ ∃ vs, KV kvs vs ∧ h.DictOf (mixKind P w) a vs := dk_rd ok (.inl e)
theorem key_of {ks : List Key} (ok : HOk P w H h) (e : H a = some (.tup (ks.map kV))) : (tupleKind (mixKind P w)).is h ks a := by
  obtain ⟨_, its, r, o, h1, h2, n, h3⟩ := (show ObjOk P w H h a (.tup (ks.map kV)) from ok a _ e)
  exact ⟨o, its.toArray, n, h1, h2, h3, by simpa using items_are r⟩
theorem dt_rd {kvs : List (List Key × V)} (ok : HOk P w H h) (e : Rd H a (.dT kvs)) : kvs.length ≤ sizeLine ∧ (a == sysModules) = false ∧
    ∃ xs, KT H kvs xs ∧ h.DictOfH (tupleKind (mixKind P w)) a xs := by
  obtain ⟨z, y, xs, r, o, es, ep, h1, h2, h3, h4, h5⟩ := (show ObjOk P w H h a (.dT kvs) from rd_of ok e)
  refine ⟨z, y, xs, r, o, es, ep, h1, h2, h3, h4, fun x hx => ?_, h5⟩
  have all : ∀ {l : List (List Key × V)} {m : List (List Key × Addr × Value)}, KT H l m → ∀ x ∈ m, (tupleKind (mixKind P w)).is h x.1 x.2.1 := by
    intro l m q
    induction q with
    | nil => intro x hx; exact nomatch hx
    | @cons p q ps qs hq t ih =>
      intro x hx
      rcases List.mem_cons.mp hx with e | hx
      · subst e
        exact key_of ok (by rw [← hq.1]; exact hq.2.1)
      · exact ih x hx
  exact all r x hx
theorem dt_of {kvs : List (List Key × V)} (ok : HOk P w H h) (e : H a = some (.dT kvs)) : kvs.length ≤ sizeLine ∧ (a == sysModules) = false ∧
    ∃ xs, KT H kvs xs ∧ h.DictOfH (tupleKind (mixKind P w)) a xs := dt_rd ok (.inl e)
end
def DGet (H : Hp) (a : Addr) (y : V) (r : Option V) : Prop :=
  (∃ kvs k, Rd H a (.dK kvs) ∧ y = kV k ∧ r = valV kvs k) ∨ ∃ kvs k b, Rd H a (.dT kvs) ∧ y = .ref b ∧ H b = some (.tup (k.map kV)) ∧ r = valV kvs k
def DPut (H : Hp) (a : Addr) (y v : V) (H' : Hp) : Prop :=
  (∃ kvs k, H a = some (.dK kvs) ∧ y = kV k ∧ kvs.length < sizeLine ∧ H' = upd H a (.dK (putK kvs k v))) ∨
  ∃ kvs k b, H a = some (.dT kvs) ∧ y = .ref b ∧ H b = some (.tup (k.map kV)) ∧ kvs.length < sizeLine ∧ H' = upd H a (.dT (putK kvs k v))
theorem DGet.k {H : Hp} {a : Addr} {kvs : List (Key × V)} {k : Key} (e : H a = some (.dK kvs)) : DGet H a (kV k) (valV kvs k) := .inl ⟨kvs, k, .inl e, rfl, rfl⟩
theorem DGet.t {H : Hp} {a b : Addr} {kvs : List (List Key × V)} {k : List Key} (e : H a = some (.dT kvs)) (eb : H b = some (.tup (k.map kV))) : DGet H a (.ref b) (valV kvs k) := .inr ⟨kvs, k, b, .inl e, rfl, eb, rfl⟩
theorem DPut.k {H : Hp} {a : Addr} {kvs : List (Key × V)} {k : Key} {v : V} (e : H a = some (.dK kvs)) (hl : kvs.length < sizeLine) : DPut H a (kV k) v (upd H a (.dK (putK kvs k v))) := .inl ⟨kvs, k, e, rfl, hl, rfl⟩
theorem DPut.t {H : Hp} {a b : Addr} {kvs : List (List Key × V)} {k : List Key} {v : V} (e : H a = some (.dT kvs)) (eb : H b = some (.tup (k.map kV))) (hl : kvs.length < sizeLine) :
    DPut H a (.ref b) v (upd H a (.dT (putK kvs k v))) := .inr ⟨kvs, k, b, e, rfl, eb, hl, rfl⟩
section
variable {X : Cx} {pins : List (Addr × Obj)} {σ : St} {H : Hp} {s : Shared} {a : Addr} {y v : V} {u r : Value} {o : Option V} {A : Around} {E : Value → Shared → Prop}
theorem Inv.big (I : Inv X pins σ H s) : sysModules < s.heap.objs.size := by
  have h : mainGlobals < s.heap.objs.size := (I.mod.glob.keeps I.bk).lt
  exact Nat.lt_trans (by decide) h
theorem d_write {h' : Heap} {t' : Nat} {ob : HO} (I : Inv X pins σ H s) (mu : Mut (H a)) (hs : Heap.SameBut a s.heap h') (he : ∃ q, h'.get? a = some q) (new : ObjOk X.prog X.w (upd H a ob) h' a ob) :
    Inv X pins σ (upd H a ob) { s with heap := h', toks := t' } :=
  I.write (x := a) (e := a) mu (.inl rfl) (fun b q hb z => (hs.2 b hb).trans z) he new
theorem dk_new {P : Program} {w : World} {H' : Hp} {h' : Heap} {kvs : List (Key × V)} {vs : List (Key × Value)} (z : kvs.length ≤ sizeLine) (hd : (a == sysModules) = false) (rel : KV kvs vs) (dd : h'.DictOf (mixKind P w) a vs) :
    ObjOk P w H' h' a (.dK kvs) := ⟨z, hd, vs, rel, dd⟩
theorem d_setItem {H' : Hp} {Q : Unit → Shared → Prop} (hu : A.units + 1 < cLine) (I : Inv X pins σ H s) (g : DPut H a y v H') (ry : RelV y u) (rv : RelV v r) (h : ∀ s', Inv X pins σ H' s' → Q () s') :
    wpAny (model X.prog X.w) A (setItem (.ref a) u r) Q E s := by
  rcases g with ⟨kvs, k, e, ey, l, eH⟩ | ⟨kvs, k, b, e, ey, eb, l, eH⟩
  · subst ey eH
    obtain ⟨z, hd, vs, rel, dd⟩ := dk_of I.hok e
    have hz : vs.length ≤ sizeLine := by rw [← rel.length]; exact z
    have hl : (putK kvs k v).length ≤ sizeLine := by have := length_putK kvs k v; omega
    refine wpAny_setItem_pairs (hsz := hz) (kV_is ry) dd fun h' dd' hs => h _ ?_
    have he : ∃ q, h'.get? a = some q := let ⟨q, _, _, hq, _⟩ := dd'; ⟨q, hq⟩
    exact d_write I (by rw [e]; exact True.intro) hs he (dk_new hl hd (rel.put k rv) dd')
  · subst ey eH
    cases (show u = Value.ref b from ry)
    obtain ⟨z, hd, xs, rel, dd⟩ := dt_of I.hok e
    have hz : xs.length ≤ sizeLine := by rw [← Paired.length rel]; exact z
    have hl : (putK kvs k v).length ≤ sizeLine := by have := length_putK kvs k v; omega
    refine wpAny_setItem_heap (hsz := hz) (tupleKind_room_in1 hu) (key_of I.hok eb) dd fun h' dd' hs => h _ ?_
    obtain ⟨q, es, ep, hq, h2, h3, h4, _, h5⟩ := dd'
    refine d_write I (by rw [e]; exact True.intro) hs ⟨q, hq⟩ ⟨hl, hd, _, (rel.put k eb rv).keeps fun c ys ec => ?_, q, es, ep, hq, h2, h3, h4, h5⟩
    rw [upd_ne (ne_of ec e (fun z => nomatch z))]
    exact ec
end
section
variable {X : Cx} {pins : List (Addr × Obj)} {σ : St} {H : Hp} {s : Shared} {a : Addr} {kvs : List (Key × V)} {k : Key} {u : Value} {A : Around} {E : Value → Shared → Prop}
end
def sDPut (td ty tv : TE) : TS := fun D σ H => tv σ H fun v H1 => td σ H1 fun x H2 => ty σ H2 fun y H3 => ∃ a H4, x = .ref a ∧ DPut H3 a y v H4 ∧ D.nx σ H4
section
variable {X : Cx} {o i e value : Expr} {pos pos' tpos : Pos} {td ty tv : TE}
theorem ps_dput (hu : X.A.units + 1 < cLine) (ho : PE X o td) (hi : PE X i ty) (hv : PE X value tv) (hs : swapsWith value (some (.Subscript o i pos')) pos.line X.env = pure false) :
    PS X (.Assign [.Subscript o i pos'] value pos) (sDPut td ty tv) := by
  intro pins s σ H D I h
  refine wpAny_Assign_Subscript (thn (hv pins s σ H _ I h) fun r s1 ⟨v, H1, I1, rv, q1⟩ => thn (ho pins s1 σ H1 _ I1 q1) fun u s2 ⟨x, H2, I2, rx, q2⟩ => thn (hi pins s2 σ H2 _ I2 q2) fun iv s3 ⟨y, H3, I3, ry, a, H4, ex, g, q3⟩ => ?_) hs
  subst ex
  obtain rfl : u = Value.ref a := rx
  exact d_setItem hu I3 g ry rv fun s4 I4 => ⟨σ, H4, I4, q3⟩
end
theorem dk_empty {P : Program} {w : World} {H : Hp} (h : Heap) (hb : sysModules < h.objs.size) : ObjOk P w H (h.push { cls := .type "dict", data := .dict #[] }) h.objs.size (.dK []) :=
  ⟨Nat.zero_le _, beq_eq_false_iff_ne.mpr (Ne.symm (Nat.ne_of_lt hb)), [], .nil, Heap.DictOf.new h⟩
def tDNewK : TE := fun _ H Q => ∀ p, H p = none → Q (.ref p) (upd H p (.dK []))
section
variable {X : Cx} {pos : Pos}
theorem pe_dnewK : PE X (.Dict [] [] pos) tDNewK := fun pins s σ H Q I h =>
  wpAny_Dict_empty ⟨.ref s.heap.objs.size, _, I.laid (a := s.heap.objs.size) (o := .dK []) (t' := s.toks) (fun _ _ q => Heap.get?_push_of_some _ q) (Nat.le_refl _) (dk_empty s.heap I.big), rfl, h _ (I.hok.fresh (Nat.le_refl _))⟩
end
section
variable {X : Cx} {pins : List (Addr × Obj)} {σ : St} {H : Hp} {s : Shared} {a : Addr} {y d : V} {u r : Value} {o : Option V} {A : Around} {E : Value → Shared → Prop}
end
section
variable {X : Cx} {o e f : Expr} {apos cpos : Pos} {td ty tx : TE}
end
section
variable {X : Cx} {pins : List (Addr × Obj)} {σ : St} {H : Hp} {s : Shared} {a : Addr} {kvs : List (Key × V)} {A : Around} {E : Value → Shared → Prop}
end
section
variable {X : Cx} {pins : List (Addr × Obj)} {σ : St} {H : Hp} {s : Shared} {a : Addr} {y : V} {u : Value} {A : Around} {E : Value → Shared → Prop}
end
end L2
namespace L2
open PySem PySem.Spec PyProof.Rows
section
variable {prog : Program} {w : World} {A : Around} {E : Value → Shared → Prop}
end
section
variable {X : Cx}
end
end L2
namespace L2
open PySem PySem.Spec PyProof.Rows
section
variable {X : Cx} {pins : List (Addr × Obj)} {σ : St} {H : Hp} {s : Shared} {h' : Heap}
theorem Inv.turnedL {t' : Nat} {ch : List Addr} (I : Inv X pins σ H s) (k : ∀ b o, b ∉ ch → s.heap.get? b = some o → h'.get? b = some o) (hf : ∀ b ∈ ch, FpOk X pins H b) : Inv X pins σ H { s with heap := h', toks := t' } := by
  have nit : ∀ b u, H b = some u → b ∉ ch := fun b u e z => by
    have q := (hf b z).1
    rw [q] at e; cases e
  refine I.step (g' := s.gens) (d' := s.drawn) (ch := ch) (fun b hb => ⟨(hf b hb).2.2.2.1, (hf b hb).2.1, (hf b hb).2.2.2.2.1, (hf b hb).2.2.2.2.2⟩) (fun b o _ _ hc e _ => k b o hc e) (fun b o _ _ hc e _ => ⟨o.slots, k b o hc e⟩)
    (fun _ _ _ _ n => n) (fun b o hc e => ⟨o, k b o hc e⟩) (fun _ _ e => e) (fun _ _ _ e => e) (fun b ps e => ⟨#[], by rw [e]; simp⟩) (fun m hm => ?_) (fun b u e => ?_) I.bare
  · obtain ⟨o, es, ep, ho, r⟩ := hm
    exact ⟨o, es, ep, k _ o (fun z => (hf _ z).2.1 rfl) ho, r⟩
  · refine (I.hok b u e).stay (fun c v hc q => k c v ?_ q) (fun _ q => q) fun _ _ q => q
    rcases hc with z | z
    · rw [z]; exact nit b u e
    · exact nit c _ z
theorem Inv.turnedNew {t' : Nat} {ch : List Addr} {T : Addr} {ob : HO} (I : Inv X pins σ H s) (k : ∀ b o, b ∉ ch → s.heap.get? b = some o → h'.get? b = some o) (hf : ∀ b ∈ ch, FpOk X pins H b) (hT : s.heap.objs.size ≤ T)
    (new : ObjOk X.prog X.w (upd H T ob) h' T ob) : Inv X pins σ (upd H T ob) { s with heap := h', toks := t' } := by
  have hn : H T = none := I.hok.fresh hT
  have nit : ∀ b u, H b = some u → b ∉ ch := fun b u e z => by
    have q := (hf b z).1
    rw [q] at e; cases e
  refine I.step (g' := s.gens) (d' := s.drawn) (ch := ch) (fun b hb => ⟨(hf b hb).2.2.2.1, (hf b hb).2.1, (hf b hb).2.2.2.2.1, (hf b hb).2.2.2.2.2⟩) (fun b o _ _ hc e _ => k b o hc e) (fun b o _ _ hc e _ => ⟨o.slots, k b o hc e⟩)
    (fun b o _ e n => ?_) (fun b o hc e => ⟨o, k b o hc e⟩) (fun b xs e => ?_) (fun b o u e => ?_) (fun b ps e => ⟨#[], ?_⟩) (fun m hm => ?_) (fun b u e => ?_) I.bare
  · rw [upd_ne (Nat.ne_of_lt (Nat.lt_of_lt_of_le (Heap.lt_size e) hT))]; exact n
  · rw [upd_ne (ne_of_none e hn)]; exact e
  · rw [upd_ne (ne_of_none e hn)]; exact e
  · rw [upd_ne (ne_of_none e hn), e]; simp
  · obtain ⟨o, es, ep, ho, r⟩ := hm
    exact ⟨o, es, ep, k _ o (fun z => (hf _ z).2.1 rfl) ho, r⟩
  · by_cases hb : b = T
    · subst hb
      rw [upd_same] at e
      cases e
      exact new
    · rw [upd_ne hb] at e
      refine (I.hok b u e).stay (fun c v hc q => k c v ?_ q) (fun c q => by rw [upd_ne (ne_of_none q hn)]; exact q) fun c xs q => by rw [upd_ne (ne_of_none q hn)]; exact q
      rcases hc with z | z
      · rw [z]; exact nit b u e
      · exact nit c _ z
end
section
variable {X : Cx}
theorem pi_one {tg : Expr} {pins : List (Addr × Obj)} {σ : St} {H : Hp} {s : Shared} {R : It → Hp → Prop} {J : It} {tn : Nat → Heap → Prop} {tk : Nat} (I : Inv X pins σ H s) (o : Obj)
    (T : Turn X.prog X.w X.K tg J [s.heap.objs.size] s.heap.objs.size tn) (st : tn 0 (s.heap.push o)) (q : R J H) : PIE X pins σ tg R (.ref s.heap.objs.size) { s with heap := s.heap.push o, toks := tk } := by
  refine ⟨s.heap.objs.size, [s.heap.objs.size], tn, J, H, rfl, I.kept fun b ob e => Heap.get?_push_of_some _ e, T, st, fun b hb => ?_, q⟩
  have e : b = s.heap.objs.size := by simpa using hb
  subst e
  exact I.fpOk (Nat.le_refl _) (I.hok.fresh (Nat.le_refl _))
end
def Itc (lo c : Int) (n : Nat) : It := ⟨fun i _ => i < n, fun i H x H' => H' = H ∧ x = .int (lo + (i : Nat) * c), fun i _ => n ≤ i⟩
theorem turn_rangeC {P : Program} {w : World} {K : PySem.W.Frag} {tg : Expr} (it : Addr) (lo c : Int) (n : Nat) : Turn P w K tg (Itc lo c n) [it] it (fun i h => IsRangeIter h it (lo + (i : Nat) * c) ((n : Int) - (i : Nat)) c) where
  mem := by simp
  obj := fun i h st b hb => by
    have e : b = it := by simpa using hb
    subst e
    exact ⟨_, st, fun v z => nomatch z⟩
  keep := fun i h h' st k => k it (by simp) _ st
  item := by
    intro X hP hw hK hc i pins s σ H E I hf st hg
    subst hP hw hK
    obtain ⟨f0, f1, f2, f3, f4, f5⟩ := hf it (by simp)
    have W := Walks.range (prog := X.prog) (w := X.w) (I.ok.hd hc) it lo c n
    refine W.item i s _ _ hg st fun v h' tk hv st' kk => ?_
    obtain ⟨t, rfl⟩ := hv
    have I1 : Inv X pins σ H { s with heap := h', toks := tk } := I.turned (fun b o hb e => kk b o (by simpa using hb) e) f0 f1 f3 f4 f5
    exact ⟨_, rfl, go_of (s := { s with heap := h', toks := tk }) (n := "range_iterator") st' rfl rfl (by decide) ⟨.int (lo + (i : Nat) * c), H, I1, ⟨t, rfl⟩, ⟨rfl, rfl⟩, st', fun b hb => (hf b hb).1⟩⟩
  done := by
    intro X hP hw hK hc i pins s σ H E I hf st hg
    subst hP hw hK
    obtain ⟨f0, f1, f2, f3, f4, f5⟩ := hf it (by simp)
    exact wpAny_pyNext_range_end (I.ok.hd hc) st (by have : n ≤ i := hg; omega) fun h' eb => ⟨rfl, I.turned (t' := s.toks) (fun b o hb e => eb b o hb e) f0 f1 f3 f4 f5⟩
  self := fun A i s Q E st h => wpAny_pyIter_rangeiter st h
def RgC (i j c : Int) (n : Nat) : Prop := c ≠ 0 ∧ c.natAbs < 1073741824 ∧ Builtin.Range.small i j c = true ∧ Builtin.Range.rangeSize i j c = n
theorem RgC.neg {i j : Int} (ha : -(2 ^ 62) ≤ i) (ha' : i < 2 ^ 62) (hb : -(2 ^ 62) ≤ j) (hb' : j < 2 ^ 62) : RgC i j (-1) (i - j).toNat :=
  ⟨by decide, by decide, PySem.W.small_down ha ha' hb hb', PySem.W.rangeSize_downNat i j⟩
def iRng3 (ta : TA) : TI := fun σ H R => ta σ H fun vs H1 => ∃ (i j c : Int) (n : Nat), vs = [.int i, .int j, .int c] ∧ RgC i j c n ∧ R (Itc i c n) H1
section
variable {X : Cx} {tg : Expr}
theorem pi_range3 {a b c : Expr} {ta : TA} {p pos : Pos} (hg : Gl X "range") (hm : X.mg "range" = none) (ha : PA X [a, b, c] ta)
    (hs : starEach [a, b, c] X.env = (false, eval a X.env) :: starEach [b, c] X.env := by rfl) (hpl : (backTo pos (starEach [b, c] X.env)).any (·.1) = false := by rfl) :
    PI X tg (.Call (.Name "range" p) [a, b, c] [] pos) (iRng3 ta) := by
  intro pins s σ H R I h
  refine Call_ (ld_blt I hg hm boot_range (PyProof.Rows.callWith_type1 (thn (ha pos pins s σ H _ I h) fun us s1 ⟨vs, H1, I1, r1, q1⟩ => ?_) hs hpl))
  obtain ⟨i, j, k, n, e, ⟨c0, c1, c2, c3⟩, q⟩ := q1
  subst e
  cases r1 with
  | cons r rr =>
    cases rr with
    | cons r' rr =>
      cases rr with
      | cons r'' rr =>
        cases rr
        obtain ⟨t, rfl⟩ := r
        obtain ⟨t', rfl⟩ := r'
        obtain ⟨t'', rfl⟩ := r''
        refine call_range_3 c0 ?_ (.inl (PyProof.noPylong_small c1))
        refine wpAny_pyIter_range (IsRange.new ..) c2 ?_
        have I2 : Inv X pins σ H1 { s1 with heap := s1.heap.push { cls := .type "range", data := .fields #[.int i t, .int j t', .int k t''] } } := I1.kept (t' := s1.toks) fun b o e => Heap.get?_push_of_some _ e
        refine pi_one (tk := s1.toks) I2 _ (turn_rangeC _ i k n) ?_ q
        have e1 : i + ((0 : Nat) : Int) * k = i := by simp
        have e2 : (n : Int) - ((0 : Nat) : Int) = Builtin.Range.rangeSize i j k := by rw [c3]; simp
        show IsRangeIter _ _ (i + ((0 : Nat) : Int) * k) ((n : Int) - ((0 : Nat) : Int)) k
        rw [e1, e2]
        exact Heap.get?_push_size _ rfl
end
section
variable {X : Cx} {tg : Expr}
end
section
variable {prog : Program} {w : World} {A : Around} {E : Value → Shared → Prop} {s : Shared}
end
section
variable {X : Cx} {pins : List (Addr × Obj)} {σ : St} {H : Hp} {s : Shared} {d : Addr} {o : Obj}
end
section
variable {P : Program} {w : World} {K : PySem.W.Frag} {tg : Expr} {d : Addr} {o : Obj} {es : Array DictEntry} {ep : Nat}
end
section
variable {X : Cx} {tg e : Expr} {td : TE} {apos cpos : Pos}
end
theorem boot_zip5 : bootBuiltins "zip" = some (.type "zip") := by decide +kernel
def Itz (K : PySem.W.Frag) (a b : Addr) : It :=
  ⟨fun i H => ∃ (xs ys : List V) (x y : V), SqL K H a xs ∧ SqL K H b ys ∧ xs[i]? = some x ∧ ys[i]? = some y,
    fun i H v H' => ∃ T x y, v = .ref T ∧ H T = none ∧ H' = upd H T (.tup [x, y]) ∧ (∀ xs, SqL K H a xs → xs[i]? = some x) ∧ ∀ ys, SqL K H b ys → ys[i]? = some y,
    fun i H => ∃ xs ys : List V, SqL K H a xs ∧ SqL K H b ys ∧ (xs.length ≤ i ∨ ys.length ≤ i)⟩
theorem turn_zip {P : Program} {w : World} {K : PySem.W.Frag} {elts : List Expr} {kk : Nat} {tpos : Pos} {a b z TI TO i1 i2 : Addr} (D : ZipApart z TI TO i1 i2 a b) :
    Turn P w K (.Tuple elts kk tpos) (Itz K a b) [z, TI, TO, i1, i2] z (fun i h => IsZip h z TI TO .none ∧ IsPair h TI (.ref i1) (.ref i2) ∧ (∃ x y, IsPair h TO x y) ∧ h.IsListIter i1 a i ∧ h.IsListIter i2 b i) where
  mem := by simp
  obj := fun i h st c hc => by
    obtain ⟨hz, hTI, ⟨x, y, hTO⟩, ⟨o1, e1, _, d1⟩, ⟨o2, e2, _, d2⟩⟩ := st
    have e' : c = z ∨ c = TI ∨ c = TO ∨ c = i1 ∨ c = i2 := by simpa using hc
    rcases e' with q | q | q | q | q
    · rw [q]; exact ⟨_, hz, fun v q => nomatch q⟩
    · rw [q]; exact ⟨_, hTI, fun v q => nomatch q⟩
    · rw [q]; exact ⟨_, hTO, fun v q => nomatch q⟩
    · rw [q]; exact ⟨o1, e1, fun v q => by rw [d1] at q; cases q⟩
    · rw [q]; exact ⟨o2, e2, fun v q => by rw [d2] at q; cases q⟩
  keep := fun i h h' st k => by
    obtain ⟨hz, hTI, ⟨x, y, hTO⟩, h1, h2⟩ := st
    exact ⟨k z (by simp) _ hz, k TI (by simp) _ hTI, ⟨x, y, k TO (by simp) _ hTO⟩, h1.at fun o q => k i1 (by simp) o q, h2.at fun o q => k i2 (by simp) o q⟩
  item := by
    intro X hP hw hK hc i pins s σ H E I hf st hg
    subst hP hw hK
    obtain ⟨hz, hTI, ⟨x0, y0, hTO⟩, h1, h2⟩ := st
    obtain ⟨xs, ys, x, y, hqx, hqy, hx, hy⟩ := hg
    obtain ⟨its, rv, p, _⟩ := I.list hqx
    obtain ⟨its2, rv2, p2, _⟩ := I.list hqy
    obtain ⟨u, hu, ru⟩ := rv.get hx
    obtain ⟨u2, hu2, ru2⟩ := rv2.get hy
    have hzl : z < s.heap.objs.size := Heap.lt_size hz
    refine wpAny_pyNext_zip_item D hz hTI hTO h1 h2 p.isList p2.isList (x := u) (y := u2) (by simpa using hu) (by simpa using hu2) fun h' z' TO' h1' h2' hT hsz hk => ?_
    refine ⟨_, rfl, wpAny_letOwnedTupleGo_zip (s := { s with heap := h' }) z' fun h'' z'' sb => ?_⟩
    have hT2 : h''.get? s.heap.objs.size = some { cls := .type "tuple", data := .seq #[u, u2] } := (sb.2 _ (Nat.ne_of_gt hzl)).trans hT
    have new : ObjOk X.prog X.w (upd H s.heap.objs.size (.tup [x, y])) h'' s.heap.objs.size (.tup [x, y]) :=
      ⟨by show 2 ≤ sizeLine; decide, [u, u2], .cons ru (.cons ru2 .nil), ⟨_, hT2, rfl, _, rfl⟩⟩
    have I1 : Inv X pins σ (upd H s.heap.objs.size (.tup [x, y])) { s with heap := h'' } :=
      I.turnedNew (t' := s.toks) (ch := [z, TI, TO, i1, i2]) (fun c o hb q => (sb.2 c (fun q' => hb (by simp [q']))).trans (hk c o (fun q' => hb (by simp [q'])) (fun q' => hb (by simp [q'])) (fun q' => hb (by simp [q'])) (fun q' => hb (by simp [q'])) q)) hf (Nat.le_refl _) new
    refine ⟨.ref s.heap.objs.size, _, I1, rfl, ⟨_, x, y, rfl, I.hok.fresh (Nat.le_refl _), rfl, fun l hl => by rw [I.list_inj hl hqx]; exact hx, fun l hl => by rw [I.list_inj hl hqy]; exact hy⟩, ⟨z'', ?_, ⟨u, u2, ?_⟩, ?_, ?_⟩, fun c hcm => ?_⟩
    · exact (sb.2 _ D.TIz).trans (hk _ _ D.TIz D.TITO D.TIi1 D.TIi2 hTI)
    · exact (sb.2 _ D.TOz).trans TO'
    · exact h1'.at fun o q => (sb.2 _ D.i1z).trans q
    · exact h2'.at fun o q => (sb.2 _ D.i2z).trans q
    · have hlt : c < s.heap.objs.size := by
        have e' : c = z ∨ c = TI ∨ c = TO ∨ c = i1 ∨ c = i2 := by simpa using hcm
        rcases e' with q | q | q | q | q
        · rw [q]; exact hzl
        · rw [q]; exact Heap.lt_size hTI
        · rw [q]; exact Heap.lt_size hTO
        · rw [q]; obtain ⟨_, e1, _⟩ := h1; exact Heap.lt_size e1
        · rw [q]; obtain ⟨_, e2, _⟩ := h2; exact Heap.lt_size e2
      rw [upd_ne (Nat.ne_of_lt hlt)]
      exact (hf c hcm).1
  done := by
    intro X hP hw hK hc i pins s σ H E I hf st hg
    subst hP hw hK
    obtain ⟨hz, hTI, ⟨x0, y0, hTO⟩, h1, h2⟩ := st
    obtain ⟨xs, ys, hqx, hqy, hend⟩ := hg
    obtain ⟨its, rv, p, _⟩ := I.list hqx
    obtain ⟨its2, rv2, p2, _⟩ := I.list hqy
    have l1 := rv.length
    have l2 := rv2.length
    have he : its.toArray[i]? = none ∨ its2.toArray[i]? = none := by
      rcases hend with q | q
      · exact .inl (by simp; omega)
      · exact .inr (by simp; omega)
    exact wpAny_pyNext_zip_end (I.ok.hd hc) D hz hTI hTO h1 h2 p.isList p2.isList he fun h' hk => ⟨rfl, I.turnedL (t' := s.toks) (ch := [z, TI, TO, i1, i2]) (fun c o hb q =>
      hk c o (fun q' => hb (by simp [q'])) (fun q' => hb (by simp [q'])) (fun q' => hb (by simp [q'])) (fun q' => hb (by simp [q'])) q) hf⟩
  self := fun A i s Q E st h => wpAny_pyIter_zip st.1 h
def iZip (K : PySem.W.Frag) (ta : TA) : TI := fun σ H R => ta σ H fun vs H1 => ∃ a b xs ys, vs = [.ref a, .ref b] ∧ SqL K H1 a xs ∧ SqL K H1 b ys ∧ R (Itz K a b) H1
theorem pi_zip {X : Cx} {e e2 : Expr} {ta : TA} {p pos tpos : Pos} {elts : List Expr} {kk : Nat} (hg : Gl X "zip") (hm : X.mg "zip" = none) (ha : PA X [e, e2] ta)
    (hs : starEach [e, e2] X.env = (false, eval e X.env) :: starEach [e2] X.env := by rfl) (hpl : (backTo pos (starEach [e2] X.env)).any (·.1) = false := by rfl) :
    PI X (.Tuple elts kk tpos) (.Call (.Name "zip" p) [e, e2] [] pos) (iZip X.K ta) := by
  intro pins s σ H R I h
  refine Call_ (ld_blt I hg hm boot_zip5 (PyProof.Rows.callWith_type1 (thn (ha pos pins s σ H _ I h) fun us s1 ⟨vs, H1, I1, r1, q1⟩ => ?_) hs hpl))
  obtain ⟨a, b, xs, ys, ex, hqx, hqy, q⟩ := q1
  subst ex
  cases r1 with
  | cons r rr =>
    cases rr with
    | cons r' rr =>
      cases rr
      cases r
      cases r'
      obtain ⟨its, rv, p1, _⟩ := I1.list hqx
      obtain ⟨its2, rv2, p2, _⟩ := I1.list hqy
      have la : a < s1.heap.objs.size := p1.lt
      have lb : b < s1.heap.objs.size := p2.lt
      refine call_zip_2 p1.isList p2.isList fun h' hz hTI hTO h1 h2 hsz hk => wpAny_pyIter_zip hz ?_
      have I2 : Inv X pins σ H1 { s1 with heap := h' } := I1.kept (t' := s1.toks) hk
      refine ⟨s1.heap.objs.size + 4, [s1.heap.objs.size + 4, s1.heap.objs.size + 2, s1.heap.objs.size + 3, s1.heap.objs.size, s1.heap.objs.size + 1], _, _, H1, rfl, I2, turn_zip (PySem.W.ktu_apart s1.heap.objs.size a b la lb), ⟨hz, hTI, ⟨_, _, hTO⟩, h1, h2⟩, fun c hcm => ?_, q⟩
      have e' : c = s1.heap.objs.size + 4 ∨ c = s1.heap.objs.size + 2 ∨ c = s1.heap.objs.size + 3 ∨ c = s1.heap.objs.size ∨ c = s1.heap.objs.size + 1 := by simpa using hcm
      have hle : s1.heap.objs.size ≤ c := by
        rcases e' with z | z | z | z | z
        · rw [z]; exact Nat.le_add_right _ _
        · rw [z]; exact Nat.le_add_right _ _
        · rw [z]; exact Nat.le_add_right _ _
        · rw [z]; exact Nat.le_refl _
        · rw [z]; exact Nat.le_add_right _ _
      exact I1.fpOk hle (I1.hok.fresh hle)
end L2
section 
namespace Bits
open PySem PyProof.Rows
end Bits
end 
section 
namespace TL
open PySem PySem.Builtin PySem.Builtin.Str PySem.StrLaws
abbrev tl (x : Str) : List Nat := x.cps.toList
theorem len_tl (x : Str) : x.length = (tl x).length := by simp [tl, Str.length]
def pre (S l : List Nat) : Bool := l.take S.length == S
def par (S : List Nat) : List Nat → List Nat → Option (List Nat × List Nat)
  | _, [] => none
  | acc, c :: r => if pre S (c :: r) = true then some (acc, (c :: r).drop S.length) else par S (acc ++ [c]) r
theorem len1 {y : Str} (hy : tl y ≠ []) : 1 ≤ y.length := by
  have e2 : 0 < (tl y).length := List.length_pos_iff.mpr hy
  rw [len_tl y]
  exact e2
end TL
end 
namespace L2
open PySem PySem.Spec PyProof.Rows
section
variable {X : Cx} {pins : List (Addr × Obj)} {σ : St} {H : Hp} {s : Shared} {Q : VK}
end
section
variable {X : Cx}
end
section
variable {X : Cx} {o e : Expr} {to te : TE}
end
end L2
namespace L2
open PySem PySem.Spec PyProof.Rows
section
variable {X : Cx}
end
theorem IsPart.raw {v : Value} {o : Option Int} (p : IsPart v o) : ∃ l : Option (Int × Tok), v = partValue l ∧ l.map (·.1) = o := by
  cases p with
  | none => exact ⟨none, rfl, rfl⟩
  | int i t => exact ⟨some (i, t), rfl, rfl⟩
end L2
namespace Att
open PySem PySem.W PySem.Calls PyProof.Rows
section
variable {prog : Program} {w : World} {A : Around} {E : Value → Shared → Prop} {s : Shared} {K : Frag}
end
end Att
namespace L2
open PySem PySem.Spec PyProof.Rows
end L2
namespace L2
open PySem PySem.Spec PyProof.Rows
end L2
namespace L2
open PySem PySem.Spec PyProof.Rows
def defArgs (s : Stmt) : Arguments := match s with
  | .FunctionDef _ a _ _ _ _ _ _ _ _ => a
  | _ => { posonlyargs := [], args := [], vararg := none, kwonlyargs := [], kw_defaults := [], kwarg := none, defaults := [] }
def defBody (s : Stmt) : List Stmt := match s with
  | .FunctionDef _ _ b _ _ _ _ _ _ _ => b
  | _ => []
def defScope (s : Stmt) : Scope := match s with
  | .FunctionDef _ _ _ _ _ _ sc _ _ _ => sc
  | _ => { kind := .function, names := [], isGenerator := false, isCoroutine := false }
abbrev CX0 : CXT := fun _ _ _ _ _ _ => False
abbrev E0 : XK := fun _ _ _ => False
theorem pass0 {X : Cx} : Passes CX0 X E0 := fun _ _ _ _ _ _ _ h => h.elim
structure Fun (K : PySem.W.Frag) (x qual : Str) (st : Stmt) (f : Addr) (fd : FuncData) : Prop where
  ex : ∃ (oc : Value) (od : Option Addr) (kV doc pm : Value) (an : Option Addr) (cdv ct : Value) (osl : Array (Option Value)),
    fd = PySem.W.fnOf x qual (defArgs st) (defBody st) (defScope st) .none kV doc pm an cdv ct ∧ K.lookup f = some ⟨oc, od, .func fd, osl⟩ ∧ PySem.W.codeIn K cdv qual = true
  kp : PySem.W.keepIn K (.ref f) = true
section
variable {P : Program} {w : World} {K : PySem.W.Frag} {mg : Str → Option Value} {base : Heap}
theorem Fun.ok {x qual : Str} {st : Stmt} {f : Addr} {fd : FuncData} {N ps : List Str} {k : Nat} {sp : Sp} (F : Fun K x qual st f fd) (S : FnScope N ps (defScope st)) (len : ∀ vs H Q E, sp vs H Q E → vs.length = ps.length)
    (hbody : ∀ (cdv : Value) (A : Around) (outer : List Env) (s : Shared) (H : Hp) (vs : List V) (Q : VK) (E : XK), Room k (A.deeper (envOfC qual (defScope st) s.heap.objs.size f cdv)) → sp vs H Q E →
      ∃ t, PSs (cxOf CX0 P w K mg base N qual (defScope st) f cdv A outer s H E).nox (defBody st) t ∧ t { nx := fun _ H' => Q .non H', rt := Q } (start N vs) H) : FnOk P w K mg base CX0 (k + 1) f fd ps sp := by
  obtain ⟨oc, od, kV, doc, pm, an, cdv, ct, osl, rfl, lk, hcd⟩ := F.ex
  refine fn_of lk hcd S len fun A outer s H vs Q E hr hsp => ?_
  obtain ⟨t, h, q⟩ := hbody cdv A outer s H vs Q E hr hsp
  exact ⟨t, h.nox, q⟩
theorem Fun.binds {x qual : Str} {st : Stmt} {f : Addr} {fd : FuncData} {ps : List Str} (F : Fun K x qual st f fd)
    (h : ∀ (kV doc pm : Value) (an : Option Addr) (cdv ct : Value) (us : List Value), us.length = ps.length → bindArgs (PySem.W.fnOf x qual (defArgs st) (defBody st) (defScope st) .none kV doc pm an cdv ct) ⟨us, []⟩ = pure (ps.zip us)) : Binds K fd ps [] := by
  obtain ⟨oc, od, kV, doc, pm, an, cdv, ct, osl, rfl, lk, hcd⟩ := F.ex
  exact .all (h kV doc pm an cdv ct)
theorem fun_mk {x qual : Str} {st : Stmt} {f : Addr} {oc : Value} {od an : Option Addr} {osl : Array (Option Value)} {kV doc pm cdv ct : Value} (l : K.lookup f = some ⟨oc, od, .func (PySem.W.fnOf x qual (defArgs st) (defBody st) (defScope st) .none kV doc pm an cdv ct), osl⟩)
    (c : PySem.W.codeIn K cdv qual = true) (k : PySem.W.keepIn K (.ref f) = true) : Fun K x qual st f (PySem.W.fnOf x qual (defArgs st) (defBody st) (defScope st) .none kV doc pm an cdv ct) := ⟨⟨oc, od, kV, doc, pm, an, cdv, ct, osl, rfl, l, c⟩, k⟩
end
theorem hu_of {A : Around} {k : Nat} (hr : Room k A) : A.units + 1 < cLine := Nat.lt_of_le_of_lt (Nat.add_le_add_left (by decide : 1 ≤ 64) _) hr.units
theorem small1000 {n : Nat} (h : n ≤ 1000) : n < sizeLine := Nat.lt_of_le_of_lt h (by decide)
section
variable {X : Cx}
theorem pv (i : Nat) {x : Str} {pos : Pos} (hN : X.N[i]? = some x := by rfl) (hv : Vis X.env.scope x := by first | exact Or.inl rfl | exact Or.inr (Or.inl rfl) | exact Or.inr (Or.inr rfl)) (hd : (x == ("__debug__" : Str)) = false := by decide)
    (hcd : (x == ("__classdict__" : Str)) = false := by decide) : PE X (.Name x pos) (tVar i) := pe_var hN hv hd hcd
end
theorem iteF {A B : Prop} (h : B) : if false = true then A else B := by
  rw [if_neg Bool.false_ne_true]
  exact h
theorem iteT {A B : Prop} (h : A) : if true = true then A else B := by
  rw [if_pos rfl]
  exact h
def Same (H H' : Hp) : Prop := ∀ b o, H b = some o → H' b = some o
theorem Same.refl (H : Hp) : Same H H := fun _ _ h => h
theorem Same.trans {H H1 H2 : Hp} (a : Same H H1) (b : Same H1 H2) : Same H H2 := fun c o h => b c o (a c o h)
theorem Same.free {H H' : Hp} (e : Same H H') {l : Addr} (h : H' l = Option.none) : H l = Option.none := by
  cases q : H l with
  | none => rfl
  | some o =>
    rw [e l o q] at h
    cases h
theorem Same.seq {K : PySem.W.Frag} {H H' : Hp} {a : Addr} {xs : List V} (e : Same H H') (h : SqL K H a xs) : SqL K H' a xs := by
  rcases h with (h | ⟨o, h⟩) | h
  · exact .inl (.inl (e _ _ h))
  · exact .inl (.inr ⟨o, e _ _ h⟩)
  · exact .inr h
section
variable {κ : Type} [DecidableEq κ]
end
theorem at_of {xs : List V} {z : Int} {j : Nat} {v : V} (e : z = (j : Int)) (h : xs[j]? = some v) : atI xs z = some v := by
  rw [e]
  exact atI_nat h
theorem Same.made {H H1 : Hp} {x dx C : Addr} (nx : H x = Option.none) (nd : H dx = Option.none) (k : ∀ b o, (upd (upd H dx (.own x)) x (.ins C dx [])) b = some o → b ≠ x → H1 b = some o) : Same H H1 := fun b o e =>
  k b o (by rw [upd_ne (ne_of_none e nx), upd_ne (ne_of_none e nd)]; exact e) (ne_of_none e nx)
end L2
section
set_option Elab.async false
set_option linter.all false
set_option maxRecDepth 100000
set_option maxHeartbeats 2000000
namespace L2
open PySem PySem.Spec PyProof.Rows
open PySem.W (WData Codec OpenSpec Well WellAll ReadsW ReadsAllW)
mutual
inductive Dw (K : PySem.W.Frag) (H : Hp) : V → WData → Prop
  | non : Dw K H .non .none
  | bl (b : Bool) : Dw K H (.bl b) (.bool b)
  | int (i : Int) : Dw K H (.int i) (.int i)
  | str (x : Str) : Dw K H (.str x) (.str x)
  | byt (b : Array UInt8) : Dw K H (.byt b) (.bytes b.toList)
  | lst {a : Addr} {xs : List V} {ds : List WData} : SqL K H a xs → DwAll K H xs ds → Dw K H (.ref a) (.list ds)
  | tup {a : Addr} {xs : List V} {ds : List WData} : SqT K H a xs → DwAll K H xs ds → Dw K H (.ref a) (.tuple ds)
inductive DwAll (K : PySem.W.Frag) (H : Hp) : List V → List WData → Prop
  | nil : DwAll K H [] []
  | cons {v : V} {vs : List V} {d : WData} {ds : List WData} : Dw K H v d → DwAll K H vs ds → DwAll K H (v :: vs) (d :: ds)
end
theorem dw_ints {K : PySem.W.Frag} {H : Hp} : ∀ ns : List Int, DwAll K H (ns.map V.int) (ns.map WData.int)
  | [] => .nil
  | n :: r => .cons (.int n) (dw_ints r)
theorem ints_dw {K : PySem.W.Frag} {H : Hp} : ∀ (ns : List Int) (xs : List V), DwAll K H xs (ns.map WData.int) → xs = ns.map V.int
  | [], xs, h => by
    cases h
    rfl
  | n :: r, xs, h => by
    cases h with
    | cons h1 h2 =>
      cases h1
      rw [ints_dw r _ h2] <;> rfl
section
variable {P : Program} {w : World} {K : PySem.W.Frag} {H : Hp} {h : Heap} {R : PySem.W.WRecords} {cl : Str → Option Addr}
theorem sqL_at {a : Addr} {xs : List V} (hok : HOk P w H h) (KX : K.In h) (q : SqL K H a xs) : ∃ (its : List Value) (o : Obj) (n : Nat), Vals xs its ∧ h.get? a = some o ∧ o.cls = .type "list" ∧ o.data = .seq its.toArray n := by
  rcases q with q | ⟨o, its, n, e, hc, _, hd, _, hv⟩
  · obtain ⟨_, its, n, hv, e⟩ := (show ObjOk P w H h a (.lst xs) from q.ok hok)
    exact ⟨its, _, n, hv, e, rfl, rfl⟩
  · exact ⟨its.toList, o, n, hv, KX _ _ e, hc, by simp [hd]⟩
theorem sqT_at {a : Addr} {xs : List V} (hok : HOk P w H h) (KX : K.In h) (q : SqT K H a xs) : ∃ (its : List Value) (o : Obj) (n : Nat), Vals xs its ∧ h.get? a = some o ∧ o.cls = .type "tuple" ∧ o.data = .seq its.toArray n := by
  rcases q with q | ⟨o, its, n, e, hc, hd, _, hv⟩
  · obtain ⟨_, its, hv, o, e, hc, n, hd⟩ := (show ObjOk P w H h a (.tup xs) from q.ok hok)
    exact ⟨its, o, n, hv, e, hc, hd⟩
  · exact ⟨its.toList, o, n, hv, KX _ _ e, hc, by simp [hd]⟩
mutual
theorem Dw.reads (hok : HOk P w H h) (KX : K.In h) : ∀ (d : WData) (v : V) (u : Value), Dw K H v d → RelV v u → ∃ as, ReadsW R cl h u d as
  | .none, _, _, x, r => by
    cases x
    cases r
    exact ⟨_, ReadsW.none⟩
  | .bool b, _, _, x, r => by
    cases x
    cases r
    exact ⟨_, ReadsW.bool b⟩
  | .int i, _, _, x, r => by
    cases x
    obtain ⟨t, rfl⟩ := r
    exact ⟨_, ReadsW.int i t⟩
  | .str s, _, _, x, r => by
    cases x
    obtain ⟨t, rfl⟩ := r
    exact ⟨_, ReadsW.str s t⟩
  | .bytes b, _, _, x, r => by
    cases x
    obtain ⟨t, rfl⟩ := r
    exact ⟨_, ReadsW.bytes _ t⟩
  | .list ds, _, _, x, r => by
    cases x with
    | lst hs ha =>
      cases r
      obtain ⟨its, o, n, rv, ho, hc, hd⟩ := sqL_at hok KX hs
      obtain ⟨as, hr⟩ := Dw.readsAll hok KX ds _ its ha rv
      exact ⟨_, ReadsW.list ho hc hd hr⟩
  | .tuple ds, _, _, x, r => by
    cases x with
    | tup hs ha =>
      cases r
      obtain ⟨its, o, n, rv, ho, hc, hd⟩ := sqT_at hok KX hs
      obtain ⟨as, hr⟩ := Dw.readsAll hok KX ds _ its ha rv
      exact ⟨_, ReadsW.tuple ho hc hd hr⟩
  | .float _, _, _, x, _ => by cases x
  | .dict _, _, _, x, _ => by cases x
  | .bytearray _, _, _, x, _ => by cases x
  | .set _, _, _, x, _ => by cases x
  | .frozenset _, _, _, x, _ => by cases x
  | .obj _ _, _, _, x, _ => by cases x
theorem Dw.readsAll (hok : HOk P w H h) (KX : K.In h) : ∀ (ds : List WData) (vs : List V) (us : List Value), DwAll K H vs ds → Vals vs us → ∃ as, ReadsAllW R cl h us ds as
  | [], _, _, x, r => by
    cases x
    cases r
    exact ⟨_, ReadsAllW.nil⟩
  | d :: ds, _, _, x, r => by
    cases x with
    | cons h1 h2 =>
      cases r with
      | cons r1 r2 =>
        obtain ⟨as, q1⟩ := Dw.reads hok KX d _ _ h1 r1
        obtain ⟨bs, q2⟩ := Dw.readsAll hok KX ds _ _ h2 r2
        exact ⟨_, ReadsAllW.cons q1 q2⟩
end
end
mutual
def plW : WData → Bool
  | .none => true
  | .bool _ => true
  | .int _ => true
  | .str _ => true
  | .bytes _ => true
  | .list xs => plWs xs
  | .tuple xs => plWs xs
  | _ => false
def plWs : List WData → Bool
  | [] => true
  | x :: r => plW x && plWs r
end
theorem plWs_map {α : Type} {f : α → WData} (h : ∀ a, plW (f a) = true) : ∀ l : List α, plWs (l.map f) = true
  | [] => rfl
  | x :: r => by
    show (plW (f x) && plWs (r.map f)) = true
    rw [h x, plWs_map h r] <;> rfl
theorem pl_enc : ∀ (c : Codec) (a : c.denote), plW (c.enc a) = true
  | .unit, _ => rfl
  | .bool, _ => rfl
  | .int _ _, _ => rfl
  | .nat _ _, _ => rfl
  | .u8, _ => rfl
  | .bytes _ _, _ => rfl
  | .text _ _ _ _, _ => rfl
  | .list _ _ c, a => plWs_map (fun x => pl_enc c x) a
  | .pair c d, a => by
    show (plW (c.enc a.1) && (plW (d.enc a.2) && true)) = true
    rw [pl_enc c a.1, pl_enc d a.2] <;> rfl
  | .triple c d e, a => by
    show (plW (c.enc a.1) && (plW (d.enc a.2.1) && (plW (e.enc a.2.2) && true))) = true
    rw [pl_enc c a.1, pl_enc d a.2.1, pl_enc e a.2.2] <;> rfl
  | .option c, none => rfl
  | .option c, some x => pl_enc c x
theorem pl_encAll : ∀ (cs : List Codec) (a : Codec.denoteAll cs), plWs (Codec.encAll cs a) = true
  | [], _ => rfl
  | c :: cs, a => by
    show (plW (c.enc a.1) && plWs (Codec.encAll cs a.2)) = true
    rw [pl_enc c a.1, pl_encAll cs a.2] <;> rfl
theorem weight_mem : ∀ {xs : List WData} {d : WData}, d ∈ xs → d.weight ≤ WData.weightAll xs
  | [], d, h => absurd h (by simp)
  | x :: r, d, h => by
    show d.weight ≤ x.weight + 1 + WData.weightAll r
    rcases List.mem_cons.mp h with e | m
    · rw [e]
      omega
    · have z := weight_mem m
      omega
def toV : Value → V
  | .none => .non
  | .bool b => .bl b
  | .int i _ => .int i
  | .str x _ => .str x
  | .bytes b _ => .byt b
  | .ref a => .ref a
  | _ => .non
def OkU (A : List Addr) : Value → Prop
  | .none => True
  | .bool _ => True
  | .int _ _ => True
  | .str _ _ => True
  | .bytes _ _ => True
  | .ref a => a ∈ A
  | _ => False
theorem OkU.mono {A B : List Addr} (h : ∀ a ∈ A, a ∈ B) : ∀ {u : Value}, OkU A u → OkU B u := fun {u} x => by
  cases u with
  | ref a => exact h a x
  | none => trivial
  | bool b => trivial
  | int i t => trivial
  | str s t => trivial
  | bytes b t => trivial
  | _ => exact False.elim x
theorem relV_toV {A : List Addr} {u : Value} (x : OkU A u) : RelV (toV u) u := by
  cases u with
  | ref a => rfl
  | none => rfl
  | bool b => rfl
  | int i t => exact ⟨t, rfl⟩
  | str s t => exact ⟨t, rfl⟩
  | bytes b t => exact ⟨t, rfl⟩
  | _ => exact False.elim x
theorem vals_toV {A : List Addr} : ∀ {vs : List Value}, (∀ u ∈ vs, OkU A u) → Vals (vs.map toV) vs
  | [], _ => .nil
  | u :: r, h => .cons (relV_toV (h u (List.mem_cons_self ..))) (vals_toV fun x hx => h x (List.mem_cons_of_mem _ hx))
def ArgOb (h : Heap) (A : List Addr) (a : Addr) : Prop := ∃ vs : List Value, vs.length ≤ sizeLine ∧ (∀ u ∈ vs, OkU A u) ∧
  (h.get? a = some { cls := .type "list", data := .seq vs.toArray } ∨ h.get? a = some { cls := .type "tuple", data := .seq vs.toArray })
theorem ArgOb.mono {h : Heap} {A B : List Addr} {a : Addr} (k : ∀ a ∈ A, a ∈ B) (x : ArgOb h A a) : ArgOb h B a := by
  obtain ⟨vs, h1, h2, h3⟩ := x
  exact ⟨vs, h1, fun u hu => (h2 u hu).mono k, h3⟩
theorem wellAll_len {P : Params} {h : Heap} : ∀ {vs : List Value} {ds : List WData}, WellAll P h vs ds → vs.length = ds.length
  | _, _, .nil => rfl
  | _, _, .cons _ b => by
    show _ + 1 = _ + 1
    rw [wellAll_len b]
theorem well_list {P : Params} {h : Heap} {v : Value} {ds : List WData} (x : Well P h v (.list ds)) : ∃ (a : Addr) (vs : List Value), v = .ref a ∧ h.get? a = some { cls := .type "list", data := .seq vs.toArray } ∧ WellAll P h vs ds := by
  cases x with
  | list ho hall => exact ⟨_, _, rfl, ho, hall⟩
theorem well_tuple {P : Params} {h : Heap} {v : Value} {ds : List WData} (x : Well P h v (.tuple ds)) : ∃ (a : Addr) (vs : List Value), v = .ref a ∧ h.get? a = some { cls := .type "tuple", data := .seq vs.toArray } ∧ WellAll P h vs ds := by
  cases x with
  | tuple ho hall => exact ⟨_, _, rfl, ho, hall⟩
theorem well_cons {P : Params} {h : Heap} {us : List Value} {d : WData} {ds : List WData} (x : WellAll P h us (d :: ds)) : ∃ (v : Value) (vs : List Value), us = v :: vs ∧ Well P h v d ∧ WellAll P h vs ds := by
  cases x with
  | cons a b => exact ⟨_, _, rfl, a, b⟩
theorem line_of {n : Nat} (h : n ≤ 1048576) : n ≤ sizeLine := Nat.le_trans h (by decide)
section
variable {P : Params} {h : Heap}
mutual
theorem area_one : ∀ (d : WData) (v : Value), Well P h v d → plW d = true → d.weight ≤ 1048576 → ∃ A : List Addr, OkU A v ∧ ∀ a ∈ A, ArgOb h A a
  | .none, _, x, _, _ => by
    cases x
    exact ⟨[], trivial, fun a m => absurd m (by simp)⟩
  | .bool b, _, x, _, _ => by
    cases x
    exact ⟨[], trivial, fun a m => absurd m (by simp)⟩
  | .int i, _, x, _, _ => by
    cases x
    exact ⟨[], trivial, fun a m => absurd m (by simp)⟩
  | .str s, _, x, _, _ => by
    cases x
    exact ⟨[], trivial, fun a m => absurd m (by simp)⟩
  | .bytes b, _, x, _, _ => by
    cases x
    exact ⟨[], trivial, fun a m => absurd m (by simp)⟩
  | .list ds, _, x, p, z => by
    obtain ⟨a, vs, rfl, ho, hall⟩ := well_list x
    have z2 : WData.weightAll ds ≤ 1048576 := z
    obtain ⟨A, h1, h2⟩ := area_all ds _ hall p fun d hd => Nat.le_trans (weight_mem hd) z2
    have k : ∀ b ∈ A, b ∈ a :: A := fun b hb => List.mem_cons_of_mem _ hb
    refine ⟨a :: A, List.mem_cons_self .., fun b hb => ?_⟩
    rcases List.mem_cons.mp hb with e | m
    · rw [e]
      exact ⟨vs, line_of (by rw [wellAll_len hall]; exact Nat.le_trans (PySem.W.length_le_weightAllW ds) z2), fun u hu => (h1 u hu).mono k, .inl ho⟩
    · exact (h2 b m).mono k
  | .tuple ds, _, x, p, z => by
    obtain ⟨a, vs, rfl, ho, hall⟩ := well_tuple x
    have z2 : WData.weightAll ds ≤ 1048576 := z
    obtain ⟨A, h1, h2⟩ := area_all ds _ hall p fun d hd => Nat.le_trans (weight_mem hd) z2
    have k : ∀ b ∈ A, b ∈ a :: A := fun b hb => List.mem_cons_of_mem _ hb
    refine ⟨a :: A, List.mem_cons_self .., fun b hb => ?_⟩
    rcases List.mem_cons.mp hb with e | m
    · rw [e]
      exact ⟨vs, line_of (by rw [wellAll_len hall]; exact Nat.le_trans (PySem.W.length_le_weightAllW ds) z2), fun u hu => (h1 u hu).mono k, .inr ho⟩
    · exact (h2 b m).mono k
  | .float _, _, _, p, _ => Bool.noConfusion (show false = true from p)
  | .dict _, _, _, p, _ => Bool.noConfusion (show false = true from p)
  | .bytearray _, _, _, p, _ => Bool.noConfusion (show false = true from p)
  | .set _, _, _, p, _ => Bool.noConfusion (show false = true from p)
  | .frozenset _, _, _, p, _ => Bool.noConfusion (show false = true from p)
  | .obj _ _, _, _, p, _ => Bool.noConfusion (show false = true from p)
theorem area_all : ∀ (ds : List WData) (vs : List Value), WellAll P h vs ds → plWs ds = true → (∀ d ∈ ds, d.weight ≤ 1048576) → ∃ A : List Addr, (∀ u ∈ vs, OkU A u) ∧ ∀ a ∈ A, ArgOb h A a
  | [], _, x, _, _ => by
    cases x
    exact ⟨[], fun u m => absurd m (by simp), fun a m => absurd m (by simp)⟩
  | d :: ds, _, x, p, z => by
    obtain ⟨v, vs, rfl, x1, x2⟩ := well_cons x
    have q : plW d = true ∧ plWs ds = true := Bool.and_eq_true_iff.mp p
    obtain ⟨A, a1, a2⟩ := area_one d v x1 q.1 (z d (List.mem_cons_self ..))
    obtain ⟨B, b1, b2⟩ := area_all ds vs x2 q.2 fun e he => z e (List.mem_cons_of_mem _ he)
    have kA : ∀ b ∈ A, b ∈ A ++ B := fun b hb => List.mem_append.mpr (.inl hb)
    have kB : ∀ b ∈ B, b ∈ A ++ B := fun b hb => List.mem_append.mpr (.inr hb)
    refine ⟨A ++ B, fun u hu => ?_, fun b hb => ?_⟩
    · rcases List.mem_cons.mp hu with e | m
      · rw [e]
        exact a1.mono kA
      · exact (b1 u m).mono kB
    · rcases List.mem_append.mp hb with m | m
      · exact (a2 b m).mono kA
      · exact (b2 b m).mono kB
end
end
def hoOf (o : Obj) : Option HO := match o.data with
  | .seq vs _ => if (o.cls == Value.type "list") = true then some (.frz o (.lst (vs.toList.map toV))) else some (.frz o (.tup (vs.toList.map toV)))
  | _ => none
def argH (K : PySem.W.Frag) (h : Heap) (A : List Addr) : Hp := fun b => if b ∈ A then (if (K.lookup b).isNone = true then (h.get? b).bind hoOf else none) else none
def OnlyF (H : Hp) : Prop := ∀ b, H b = none ∨ ∃ o u, H b = some (.frz o u)
theorem hoOf_lst (vs : List Value) : hoOf { cls := .type "list", data := .seq vs.toArray } = some (.frz { cls := .type "list", data := .seq vs.toArray } (.lst (vs.map toV))) := by
  show (if (Value.type "list" == Value.type "list") = true then some (HO.frz { cls := .type "list", data := .seq vs.toArray } (.lst (vs.toArray.toList.map toV))) else some (HO.frz { cls := .type "list", data := .seq vs.toArray } (.tup (vs.toArray.toList.map toV)))) = _
  rw [if_pos (beq_self_eq_true _)]
theorem hoOf_tup (vs : List Value) : hoOf { cls := .type "tuple", data := .seq vs.toArray } = some (.frz { cls := .type "tuple", data := .seq vs.toArray } (.tup (vs.map toV))) := by
  show (if (Value.type "tuple" == Value.type "list") = true then some (HO.frz { cls := .type "tuple", data := .seq vs.toArray } (.lst (vs.toArray.toList.map toV))) else some (HO.frz { cls := .type "tuple", data := .seq vs.toArray } (.tup (vs.toArray.toList.map toV)))) = _
  rw [if_neg (by decide)]
section
variable {P : Program} {w : World} {K : PySem.W.Frag} {h : Heap} {A : List Addr}
theorem argH_at {b : Addr} {o : Obj} (hb : b ∈ A) (hk : K.lookup b = none) (e : h.get? b = some o) : argH K h A b = hoOf o := by
  unfold argH
  rw [if_pos hb, hk, if_pos (show (none : Option Obj).isNone = true from rfl), e] <;> rfl
theorem of_argH {b : Addr} {u : HO} (q : argH K h A b = some u) : b ∈ A ∧ K.lookup b = none := by
  unfold argH at q
  by_cases hb : b ∈ A
  · rw [if_pos hb] at q
    cases hk : K.lookup b with
    | none => exact ⟨hb, rfl⟩
    | some o =>
      rw [hk, if_neg (by simp)] at q
      cases q
  · rw [if_neg hb] at q
    cases q
theorem argH_is (ar : ∀ a ∈ A, ArgOb h A a) {b : Addr} {u : HO} (q : argH K h A b = some u) : K.lookup b = none ∧ ∃ vs : List Value, vs.length ≤ sizeLine ∧ (∀ u ∈ vs, OkU A u) ∧
    ((h.get? b = some { cls := .type "list", data := .seq vs.toArray } ∧ u = .frz { cls := .type "list", data := .seq vs.toArray } (.lst (vs.map toV))) ∨
     (h.get? b = some { cls := .type "tuple", data := .seq vs.toArray } ∧ u = .frz { cls := .type "tuple", data := .seq vs.toArray } (.tup (vs.map toV)))) := by
  obtain ⟨hb, hk⟩ := of_argH q
  obtain ⟨vs, h1, h2, h3⟩ := ar b hb
  refine ⟨hk, vs, h1, h2, ?_⟩
  rcases h3 with e | e
  · rw [argH_at hb hk e, hoOf_lst] at q
    exact .inl ⟨e, (Option.some.inj q).symm⟩
  · rw [argH_at hb hk e, hoOf_tup] at q
    exact .inr ⟨e, (Option.some.inj q).symm⟩
theorem argH_only (ar : ∀ a ∈ A, ArgOb h A a) : OnlyF (argH K h A) := fun b => by
  cases q : argH K h A b with
  | none => exact .inl rfl
  | some u =>
    obtain ⟨_, vs, _, _, ⟨_, e⟩ | ⟨_, e⟩⟩ := argH_is ar q
    · exact .inr ⟨_, _, by rw [e]⟩
    · exact .inr ⟨_, _, by rw [e]⟩
theorem argH_ok (ar : ∀ a ∈ A, ArgOb h A a) : HOk P w (argH K h A) h := fun b u q => by
  obtain ⟨_, vs, h1, h2, ⟨e, rfl⟩ | ⟨e, rfl⟩⟩ := argH_is ar q
  · exact ⟨e, by rw [List.length_map]; exact h1, vs, _, vals_toV h2, e⟩
  · exact ⟨e, by rw [List.length_map]; exact h1, vs, vals_toV h2, _, e, rfl, _, rfl⟩
theorem seq_inj {c c' : Value} {vs us : List Value} (e : (some { cls := c, data := .seq vs.toArray } : Option Obj) = some { cls := c', data := .seq us.toArray }) : c = c' ∧ vs = us := by
  have e1 := Option.some.inj e
  have e2 : c = c' := congrArg Obj.cls e1
  have e3 : Data.seq vs.toArray = Data.seq us.toArray := congrArg Obj.data e1
  injection e3 with e4
  refine ⟨e2, ?_⟩
  have e5 := congrArg Array.toList e4
  simpa using e5
theorem argL (KX : K.In h) (ar : ∀ a ∈ A, ArgOb h A a) {a : Addr} {vs : List Value} (ha : a ∈ A) (e : h.get? a = some { cls := .type "list", data := .seq vs.toArray }) : (∀ u ∈ vs, OkU A u) ∧ SqL K (argH K h A) a (vs.map toV) := by
  obtain ⟨us, h1, h2, h3⟩ := ar a ha
  have hu : us = vs := by
    rcases h3 with q | q
    · rw [e] at q
      exact (seq_inj q).2.symm
    · rw [e] at q
      exact absurd (Value.type.inj (seq_inj q).1) (by decide)
  subst hu
  refine ⟨h2, ?_⟩
  cases hk : K.lookup a with
  | none => exact .inl (.inr ⟨_, by rw [argH_at ha hk e, hoOf_lst]⟩)
  | some o =>
    have e2 := KX a o hk
    rw [e] at e2
    obtain rfl := Option.some.inj e2
    exact .inr ⟨_, us.toArray, _, hk, rfl, rfl, rfl, by rw [List.size_toArray]; exact h1, by simpa using vals_toV h2⟩
theorem argT (KX : K.In h) (ar : ∀ a ∈ A, ArgOb h A a) {a : Addr} {vs : List Value} (ha : a ∈ A) (e : h.get? a = some { cls := .type "tuple", data := .seq vs.toArray }) : (∀ u ∈ vs, OkU A u) ∧ SqT K (argH K h A) a (vs.map toV) := by
  obtain ⟨us, h1, h2, h3⟩ := ar a ha
  have hu : us = vs := by
    rcases h3 with q | q
    · rw [e] at q
      exact absurd (Value.type.inj (seq_inj q).1) (by decide)
    · rw [e] at q
      exact (seq_inj q).2.symm
  subst hu
  refine ⟨h2, ?_⟩
  cases hk : K.lookup a with
  | none => exact .inl (.inr ⟨_, by rw [argH_at ha hk e, hoOf_tup]⟩)
  | some o =>
    have e2 := KX a o hk
    rw [e] at e2
    obtain rfl := Option.some.inj e2
    exact .inr ⟨_, us.toArray, _, hk, rfl, rfl, by rw [List.size_toArray]; exact h1, by simpa using vals_toV h2⟩
mutual
theorem dw_one {Pm : Params} (KX : K.In h) (ar : ∀ a ∈ A, ArgOb h A a) : ∀ (d : WData) (v : Value), Well Pm h v d → plW d = true → OkU A v → Dw K (argH K h A) (toV v) d
  | .none, _, x, _, _ => by
    cases x
    exact .non
  | .bool b, _, x, _, _ => by
    cases x
    exact .bl b
  | .int i, _, x, _, _ => by
    cases x
    exact .int i
  | .str s, _, x, _, _ => by
    cases x
    exact .str s
  | .bytes b, _, x, _, _ => by
    cases x
    have z := Dw.byt (K := K) (H := argH K h A) b.toArray
    exact z
  | .list ds, _, x, p, hu => by
    obtain ⟨a, vs, rfl, ho, hall⟩ := well_list x
    obtain ⟨h2, hs⟩ := argL KX ar hu ho
    exact .lst hs (dw_all KX ar ds _ hall p h2)
  | .tuple ds, _, x, p, hu => by
    obtain ⟨a, vs, rfl, ho, hall⟩ := well_tuple x
    obtain ⟨h2, hs⟩ := argT KX ar hu ho
    exact .tup hs (dw_all KX ar ds _ hall p h2)
  | .float _, _, _, p, _ => Bool.noConfusion (show false = true from p)
  | .dict _, _, _, p, _ => Bool.noConfusion (show false = true from p)
  | .bytearray _, _, _, p, _ => Bool.noConfusion (show false = true from p)
  | .set _, _, _, p, _ => Bool.noConfusion (show false = true from p)
  | .frozenset _, _, _, p, _ => Bool.noConfusion (show false = true from p)
  | .obj _ _, _, _, p, _ => Bool.noConfusion (show false = true from p)
theorem dw_all {Pm : Params} (KX : K.In h) (ar : ∀ a ∈ A, ArgOb h A a) : ∀ (ds : List WData) (vs : List Value), WellAll Pm h vs ds → plWs ds = true → (∀ u ∈ vs, OkU A u) → DwAll K (argH K h A) (vs.map toV) ds
  | [], _, x, _, _ => by
    cases x
    exact .nil
  | d :: ds, _, x, p, hu => by
    obtain ⟨v, vs, rfl, x1, x2⟩ := well_cons x
    have q : plW d = true ∧ plWs ds = true := Bool.and_eq_true_iff.mp p
    exact .cons (dw_one KX ar d v x1 q.1 (hu _ (List.mem_cons_self ..))) (dw_all KX ar ds vs x2 q.2 fun u m => hu u (List.mem_cons_of_mem _ m))
end
end
theorem spec_call {P : Program} {w : World} {K : PySem.W.Frag} {mg mb : Str → Option Value} {CX : CXT} {k : Nat} {fa : Addr} {fd : FuncData} {ps : List Str} {sp : Sp} {s₁ : Shared} {vals : List Value} {ds : List WData} {R : PySem.W.WRecords} {cl : Str → Option Addr} {d0 : WData}
    (KX : K.In s₁.heap) (hns : s₁.heap.Ns mainGlobals mg) (hb : s₁.heap.Ns builtinsNs mb) (hbb : ∀ x : Str, x ≠ "__name__" → mb x = bootBuiltins x) (hlim : s₁.heap.NoLimit) (hg : s₁.gens = #[])
    (hwl : WellAll w.params s₁.heap vals ds) (hpl : plWs ds = true) (hwt : ∀ d ∈ ds, d.weight ≤ 1048576) (hr : Room k callerA)
    (F : ∀ base : Heap, K.In base → base.Ns mainGlobals mg → FnOk P w K mg base CX k fa fd ps sp) (hbind : ∀ (s : Shared) (us : List Value), us.length = ps.length → BindsTo s fd ⟨us, []⟩ (ps.zip us)) (hlen : ds.length = ps.length)
    (hsp : ∀ (H : Hp) (xs : List V), OnlyF H → DwAll K H xs ds → sp xs H (fun v H' => Dw K H' v d0) fun _ _ _ => False)
    (hCX : ∀ H e s', CX [] H s₁ (fun _ _ _ => False) e s' → False) :
    codeAny (model P w) callerA (.call (.ref fa) ⟨vals, []⟩) (fun r s' => ∃ u as, r = .ok (.ret u) ∧ ReadsW R cl s'.heap u d0 as ∧ OldK s₁.heap s'.heap ∧ s'.os = s₁.os ∧ AllBare s'.gens) s₁ := by
  obtain ⟨A, ho, ar⟩ := area_all ds vals hwl hpl hwt
  have hO : OnlyF (argH K s₁.heap A) := argH_only ar
  have hok : HOk P w (argH K s₁.heap A) s₁.heap := argH_ok ar
  have hS := dw_all KX ar ds vals hwl hpl ho
  have hV := vals_toV ho
  have hK : ∀ b u, argH K s₁.heap A b = some u → K.lookup b = none := fun b u q => (argH_is ar q).1
  have noA : ∀ {b : Addr} {o : Obj} {es : Array DictEntry} {ep : Nat}, s₁.heap.get? b = some o → o.data = .dict es ep → argH K s₁.heap A b = none := fun {b o es ep} e d => by
    cases q : argH K s₁.heap A b with
    | none => rfl
    | some u =>
      obtain ⟨_, vs, _, _, ⟨e2, _⟩ | ⟨e2, _⟩⟩ := argH_is ar q
      · rw [e2] at e
        cases e
        have d' : Data.seq vs.toArray _ = Data.dict es ep := d
        cases d'
      · rw [e2] at e
        cases e
        have d' : Data.seq vs.toArray _ = Data.dict es ep := d
        cases d'
  generalize argH K s₁.heap A = H at hO hok hS hK noA
  have base_of : ∀ {b : Addr} {o : Obj}, s₁.heap.get? b = some o → H b = none → (hidT s₁.heap H).get? b = some o := fun e n => hidT_get e n
  have nsK : ∀ {b : Addr} {m : Str → Option Value}, s₁.heap.Ns b m → (hidT s₁.heap H).Ns b m := fun {b m} ⟨o, es, ep, e, d, r⟩ => ⟨o, es, ep, base_of e (noA e d), d, r⟩
  have nK : ∀ b o, K.lookup b = some o → H b = none := fun b o e => by
    cases q : H b with
    | none => rfl
    | some u =>
      rw [hK b u q] at e
      cases e
  have hKb : K.In (hidT s₁.heap H) := fun b o e => base_of (KX b o e) (nK b o e)
  have hM : Mod K mg (hidT s₁.heap H) := ⟨hKb, nsK hns, ⟨mb, nsK hb, hbb⟩, let ⟨mc, h1, h2⟩ := hlim; ⟨mc, nsK h1, h2⟩⟩
  have e0 : Env0 P w K mg (hidT s₁.heap H) callerA [] s₁ H := ⟨rfl, hM, fun b o e => of_hidT e, Nat.le_of_eq (hidT_size _ _), trivial, fun b hb => absurd (show b ∈ ([] : List Addr) from hb) (by simp), hok, .of_eq hg⟩
  have hl : vals.length = ps.length := by rw [wellAll_len hwl]; exact hlen
  refine codeAny_mono ((F _ hKb (nsK hns)).run callerA [] s₁ H ⟨vals, []⟩ vals (vals.map toV) _ _ hr e0 (hbind s₁ vals hl) hV (hsp H _ hO hS)) fun r s' x => ?_
  cases r with
  | error e => exact (hCX H e s' x).elim
  | ok fl =>
    cases fl with
    | next => exact False.elim x
    | brk => exact False.elim x
    | cont => exact False.elim x
    | ret u =>
      obtain ⟨v, H', os, bare, un, hok', r', q⟩ := x
      have kept : ∀ b o, s₁.heap.get? b = some o → s'.heap.get? b = some o := fun b o e => by
        cases q2 : H b with
        | none => exact un.keep b o e q2 (by intro z; exact absurd (show b ∈ ([] : List Addr) from z) (by simp)) (by simp)
        | some u2 =>
          rcases hO b with z | ⟨ob, u3, z⟩
          · rw [q2] at z
            cases z
          · have z2 := un.frzs b ob _ z
            obtain ⟨e1, _⟩ := hok b _ z
            obtain ⟨e2, _⟩ := hok' b _ z2
            rw [e] at e1
            cases e1
            exact e2
      have KX' : K.In s'.heap := fun b o e => kept b o (KX b o e)
      obtain ⟨as, hrd⟩ := Dw.reads (R := R) (cl := cl) hok' KX' d0 v u q r'
      exact ⟨u, as, rfl, hrd, OldK.of_keep kept, os, bare⟩
theorem layable_weight {ds : List WData} (h : WData.layableAll ds = true) : ∀ d ∈ ds, d.weight ≤ 1048576 := fun d hd =>
  (PySem.W.layableW_iff.mp (List.all_eq_true.mp h d hd)).2.2
theorem encAll_len : ∀ (cs : List Codec) (a : Codec.denoteAll cs), (Codec.encAll cs a).length = cs.length
  | [], _ => rfl
  | c :: cs, a => by
    show (Codec.encAll cs a.2).length + 1 = cs.length + 1
    rw [encAll_len cs a.2]
theorem walk_spec {r : OpenSpec} {k : Nat} {q : Program} {loose : List Str} {XP : (Str → Option Value) → Heap → Prop} {YP : World → Heap → Prop} {d : DefRec} {K : Params → PySem.W.Frag} {CX : World → CXT} {ps : List Str} {sp : World → Sp}
    (hwell : r.wellSaid = true) (hdf : d.params.defaults = []) (hlen : r.args.length = ps.length) (hr : Room k callerA)
    (hY : ∀ (w : World) (h : Heap), YP w h → (K w.params).In h)
    (F : ∀ (w : World) (mg : Str → Option Value) (fa : Addr) (h : Heap), YP w h → (K w.params).In h → h.Ns mainGlobals mg → mg d.name = some (.ref fa) →
      ∃ fd : FuncData, (∀ (s : Shared) (us : List Value), us.length = ps.length → BindsTo s fd ⟨us, []⟩ (ps.zip us)) ∧
        ∀ base : Heap, (K w.params).In base → base.Ns mainGlobals mg → FnOk r.prog w (K w.params) mg base (CX w) k fa fd ps (sp w))
    (hsp : ∀ (w : World) (H : Hp) (xs : List V) (a : Codec.denoteAll r.args), OnlyF H → Codec.withinAll r.args a = true → Codec.app r.args r.asked a = true → DwAll (K w.params) H xs (Codec.encAll r.args a) →
      sp w xs H (fun v H' => Dw (K w.params) H' v (r.ret.enc (Codec.app r.args r.f a))) fun _ _ _ => False)
    (hCX : ∀ (w : World) (H : Hp) (s : Shared) (e : Value) (s' : Shared), CX w [] H s (fun _ _ _ => False) e s' → False) :
    PySem.W.WalkOS q loose XP YP r d [] (fun f vs => PySem.call f vs) := by
  intro w s_0 s₁ mg mb G Y fa o pm cd doc dV kV ho hd hcd hD hmg hg args vals as hpre hlay hrd hwl hlo
  obtain ⟨a, e1, e2⟩ := PySem.W.os_pre_some hpre
  obtain ⟨e3, hwi⟩ := Codec.encAll_of_decAll r.args args a e1
  subst e3
  have KX := hY w _ Y
  obtain ⟨fd, hb, hF⟩ := F w mg fa _ Y KX G.T.g hmg
  refine PySem.W.enter_call (codeAny_mono (spec_call (R := []) (cl := classAt s_0.heap) (d0 := r.ret.enc (Codec.app r.args r.f a)) KX G.T.g G.T.b G.T.builtins G.T.nolimit hg hwl (pl_encAll _ _) (layable_weight hlay) hr hF hb (by rw [encAll_len]; exact hlen)
    (fun H xs hO hS => hsp w H xs a hO hwi e2 hS) fun H e s' => hCX w H s₁ e s') fun r' s' hq => ?_)
  obtain ⟨u, as', rfl, h1, h2, h3, h4⟩ := hq
  exact ⟨.inl ⟨u, _, as', rfl, fun _ => rfl, h1, (OpenSpec.post_iff hwell hwi _ _).mpr rfl, fun z => Bool.noConfusion (show false = true from z)⟩, h2, h3, h4⟩
theorem walk_specK {r : OpenSpec} {k : Nat} {q : Program} {loose : List Str} {XP : (Str → Option Value) → Heap → Prop} {YP : World → Heap → Prop} {d : DefRec} {K : Params → PySem.W.Frag} {CX : CXT} {ps : List Str} {sp : PySem.W.Frag → Sp}
    (hwell : r.wellSaid = true) (hdf : d.params.defaults = []) (hlen : r.args.length = ps.length) (hr : Room k callerA)
    (hY : ∀ (w : World) (h : Heap), YP w h → (K w.params).In h)
    (F : ∀ (w : World) (mg : Str → Option Value) (fa : Addr) (h : Heap), YP w h → (K w.params).In h → h.Ns mainGlobals mg → mg d.name = some (.ref fa) →
      ∃ fd : FuncData, (∀ (s : Shared) (us : List Value), us.length = ps.length → BindsTo s fd ⟨us, []⟩ (ps.zip us)) ∧
        ∀ base : Heap, (K w.params).In base → base.Ns mainGlobals mg → FnOk r.prog w (K w.params) mg base CX k fa fd ps (sp (K w.params)))
    (hsp : ∀ (K : PySem.W.Frag) (H : Hp) (xs : List V) (a : Codec.denoteAll r.args), OnlyF H → Codec.withinAll r.args a = true → Codec.app r.args r.asked a = true → DwAll K H xs (Codec.encAll r.args a) →
      sp K xs H (fun v H' => Dw K H' v (r.ret.enc (Codec.app r.args r.f a))) fun _ _ _ => False)
    (hCX : ∀ (H : Hp) (s : Shared) (e : Value) (s' : Shared), CX [] H s (fun _ _ _ => False) e s' → False) :
    PySem.W.WalkOS q loose XP YP r d [] (fun f vs => PySem.call f vs) :=
  walk_spec (K := K) (CX := fun _ => CX) (sp := fun w => sp (K w.params)) hwell hdf hlen hr hY F (fun w H xs a h1 h2 h3 h4 => hsp (K w.params) H xs a h1 h2 h3 h4) fun _ H s e s' => hCX H s e s'
end L2
end
set_option linter.all false
set_option maxRecDepth 100000
namespace Ls
open PySem
abbrev Up (l : List Nat) : Prop := l.Pairwise (· < ·)
theorem up_lt {l : List Nat} (h : Up l) {i j : Nat} {x y : Nat} (hij : i < j) (hx : l[i]? = some x) (hy : l[j]? = some y) : x < y := by
  obtain ⟨h1, rfl⟩ := List.getElem?_eq_some_iff.mp hx
  obtain ⟨h2, rfl⟩ := List.getElem?_eq_some_iff.mp hy
  exact List.pairwise_iff_getElem.mp h i j h1 h2 hij
theorem go_spec {xs : Array Nat} (up : Up xs.toList) (j : Nat) : ∀ (fuel lo hi : Nat), hi - lo ≤ fuel → lo ≤ hi → hi ≤ xs.size → (∀ i x, i < lo → xs[i]? = some x → x < j) → (∀ i x, hi ≤ i → xs[i]? = some x → j ≤ x) →
    SetTable.below.go xs j fuel lo hi ≤ xs.size ∧ (∀ i x, i < SetTable.below.go xs j fuel lo hi → xs[i]? = some x → x < j) ∧ ∀ i x, SetTable.below.go xs j fuel lo hi ≤ i → xs[i]? = some x → j ≤ x
  | 0, lo, hi, h0, h1, h2, h3, h4 => by
    have e : lo = hi := by omega
    subst e
    rw [SetTable.below.go]
    exact ⟨h2, h3, h4⟩
  | fuel + 1, lo, hi, h0, h1, h2, h3, h4 => by
    rw [SetTable.below.go]
    by_cases hl : lo < hi
    · rw [if_pos hl]
      dsimp only
      have hm : (lo + hi) / 2 < xs.size := by omega
      have hg : xs.getD ((lo + hi) / 2) j = xs[(lo + hi) / 2] := by
        rw [Array.getD_eq_getD_getElem?, Array.getElem?_eq_getElem hm]; rfl
      have hq : xs.toList[(lo + hi) / 2]? = some xs[(lo + hi) / 2] := by rw [Array.getElem?_toList]; exact Array.getElem?_eq_getElem hm
      by_cases hc : xs.getD ((lo + hi) / 2) j < j
      · rw [if_pos hc]
        rw [hg] at hc
        refine go_spec up j fuel _ hi (by omega) (by omega) h2 (fun i x hi' hx => ?_) h4
        rw [← Array.getElem?_toList] at hx
        by_cases e : i = (lo + hi) / 2
        · subst e
          rw [hq] at hx
          have e2 := Option.some.inj hx
          omega
        · have := up_lt up (show i < (lo + hi) / 2 by omega) hx hq
          omega
      · rw [if_neg hc]
        rw [hg] at hc
        refine go_spec up j fuel lo _ (by omega) (by omega) (by omega) h3 (fun i x hi' hx => ?_)
        rw [← Array.getElem?_toList] at hx
        by_cases e : i = (lo + hi) / 2
        · subst e
          rw [hq] at hx
          have e2 := Option.some.inj hx
          omega
        · have := up_lt up (show (lo + hi) / 2 < i by omega) hq hx
          omega
    · rw [if_neg hl]
      have e : lo = hi := by omega
      subst e
      exact ⟨h2, h3, h4⟩
theorem below_spec {xs : Array Nat} (up : Up xs.toList) (j : Nat) : SetTable.below xs j ≤ xs.size ∧ (∀ (i : Nat) (x : Nat), i < SetTable.below xs j → xs[i]? = some x → x < j) ∧ ∀ (i : Nat) (x : Nat), SetTable.below xs j ≤ i → xs[i]? = some x → j ≤ x := by
  unfold SetTable.below
  refine go_spec up j _ 0 _ (by omega) (by omega) (Nat.le_refl _) (fun i x h => by omega) fun i x h hx => ?_
  obtain ⟨h1, _⟩ := Array.getElem?_eq_some_iff.mp hx
  omega
theorem below_next {xs : Array Nat} (up : Up xs.toList) {i x : Nat} (hx : xs[i]? = some x) : SetTable.below xs (x + 1) = i + 1 := by
  obtain ⟨h1, h2, h3⟩ := below_spec up (x + 1)
  have hx' := hx
  rw [← Array.getElem?_toList] at hx'
  have a : ¬ SetTable.below xs (x + 1) ≤ i := fun h => by have := h3 i x h hx; omega
  have b : ¬ i + 1 < SetTable.below xs (x + 1) := fun h => by
    have hlt : i + 1 < xs.size := by omega
    have e := Array.getElem?_eq_getElem hlt
    have q := h2 (i + 1) _ h e
    rw [← Array.getElem?_toList] at e
    have := up_lt up (Nat.lt_succ_self i) hx' e
    omega
  omega
theorem below_zero {xs : Array Nat} (up : Up xs.toList) : SetTable.below xs 0 = 0 := by
  obtain ⟨h1, h2, h3⟩ := below_spec up 0
  rcases Nat.eq_zero_or_pos (SetTable.below xs 0) with e | e
  · exact e
  · have hlt : 0 < xs.size := by omega
    have := h2 0 _ e (Array.getElem?_eq_getElem hlt)
    omega
theorem not_there {xs : Array Nat} (up : Up xs.toList) {j : Nat} (h : xs[SetTable.below xs j]? ≠ some j) : j ∉ xs.toList := by
  intro hm
  obtain ⟨i, hi, e⟩ := List.mem_iff_getElem.mp hm
  have hi' : i < xs.size := by simpa using hi
  have e' : xs[i]? = some j := by rw [Array.getElem?_eq_getElem hi', ← e]; simp
  obtain ⟨h1, h2, h3⟩ := below_spec up j
  have a : SetTable.below xs j ≤ i := by
    rcases Nat.lt_or_ge i (SetTable.below xs j) with q | q
    · have := h2 i j q e'; omega
    · exact q
  rcases Nat.eq_or_lt_of_le a with q | q
  · rw [q] at h; exact h e'
  · have hb : SetTable.below xs j < xs.size := by omega
    have eb := Array.getElem?_eq_getElem hb
    have := h3 _ _ (Nat.le_refl _) eb
    rw [← Array.getElem?_toList] at eb e'
    have := up_lt up q eb e'
    omega
theorem up_insert {xs : Array Nat} (up : Up xs.toList) {j : Nat} (h : j ∉ xs.toList) : Up (SetTable.insertAt xs (SetTable.below xs j) j).toList := by
  rw [SetTable.toList_insertAt]
  obtain ⟨h1, h2, h3⟩ := below_spec up j
  refine List.pairwise_append.mpr ⟨up.take, List.pairwise_cons.mpr ⟨fun y hy => ?_, up.drop⟩, fun x hx y hy => ?_⟩
  · obtain ⟨k, hk, e⟩ := List.mem_iff_getElem.mp hy
    have hk' : SetTable.below xs j + k < xs.toList.length := by rw [List.length_drop] at hk; omega
    have e2 : xs.toList[SetTable.below xs j + k]? = some y := by rw [List.getElem?_eq_getElem hk', ← e, List.getElem_drop]
    have := h3 _ y (Nat.le_add_right _ k) (by rw [← Array.getElem?_toList]; exact e2)
    have : j ≠ y := fun q => h (q ▸ List.mem_of_getElem? e2)
    omega
  · obtain ⟨k, hk, e⟩ := List.mem_iff_getElem.mp hx
    have hk1 : k < SetTable.below xs j := by rw [List.length_take] at hk; omega
    have hk' : k < xs.toList.length := by rw [List.length_take] at hk; omega
    have e2 : xs.toList[k]? = some x := by rw [List.getElem?_eq_getElem hk', ← e, List.getElem_take]
    have xj := h2 k x hk1 (by rw [← Array.getElem?_toList]; exact e2)
    rcases List.mem_cons.mp hy with q | q
    · omega
    · obtain ⟨k2, hk2, e3⟩ := List.mem_iff_getElem.mp q
      have hk2' : SetTable.below xs j + k2 < xs.toList.length := by rw [List.length_drop] at hk2; omega
      have e4 : xs.toList[SetTable.below xs j + k2]? = some y := by rw [List.getElem?_eq_getElem hk2', ← e3, List.getElem_drop]
      exact up_lt up (show k < SetTable.below xs j + k2 by omega) e2 e4
structure Tb (b : Bool) (t : SetTable) : Prop where
  led : b = false → t.led = true
  up : Up t.place.toList
theorem tb_fresh (b : Bool) : Tb b (SetTable.fresh 0 0 (!b)) := ⟨fun h => by rw [h]; rfl, by simp [SetTable.fresh]⟩
theorem tb_standIn {b : Bool} {t : SetTable} (h : Tb b t) (n : Nat) : Tb b (t.standIn n) := ⟨h.led, by
  show Up (Array.range n).toList
  rw [Array.toList_range]
  exact List.pairwise_lt_range⟩
theorem tb_or {b : Bool} {t : SetTable} (h : Tb b t) (n : Nat) : Tb b (t.orStandIn n) := by
  unfold SetTable.orStandIn
  split
  · exact h
  · exact tb_standIn h n
theorem tb_plain {b : Bool} {t : SetTable} (h : Tb b t) : Tb b { t with plain := false } := ⟨h.led, h.up⟩
theorem slot_not {t : SetTable} (up : Up t.place.toList) {j : Nat} (h : t.slot j = .empty ∨ t.slot j = .dummy) : j ∉ t.place.toList := by
  refine not_there up fun e => ?_
  have : t.slot j = .live (SetTable.below t.place j) := by
    unfold SetTable.slot
    dsimp only
    rw [if_pos (by rw [e]; simp)]
  rw [this] at h
  rcases h with h | h <;> cases h
theorem probe_go {t : SetTable} {g : Nat → Int} {h : Int} : ∀ (fuel : Nat) (p : SetTable.Probe), (∀ d, p.dummy = some d → t.slot d = .dummy) → ∀ {j : Nat} {dm : Option Nat}, SetTable.probe.go t g h fuel p = some (.empty j dm) →
    t.slot j = .empty ∧ ∀ d, dm = some d → t.slot d = .dummy
  | 0, p, hp, j, dm, e => by simp [SetTable.probe.go] at e
  | fuel + 1, p, hp, j, dm, e => by
    have adv : ∀ q : SetTable.Probe, (t.advance q).dummy = q.dummy := fun q => by
      unfold SetTable.advance
      split <;> rfl
    rw [SetTable.probe.go] at e
    split at e
    · rename_i hs
      cases e
      exact ⟨hs, hp⟩
    · rename_i hs
      refine probe_go fuel _ (fun d hd => ?_) e
      rw [adv] at hd
      cases hd
      exact hs
    · split at e
      · cases e
      · exact probe_go fuel _ (fun d hd => hp d (by rw [adv] at hd; exact hd)) e
theorem free_not {t : SetTable} (up : Up t.place.toList) {h : Int} {j : Nat} {wd : Bool} (e : t.freeSlot h = some (j, wd)) : j ∉ t.place.toList := by
  unfold SetTable.freeSlot at e
  split at e
  · rename_i j' dm hp
    obtain ⟨h1, h2⟩ := probe_go _ (t.probeStart h) (fun d hd => by unfold SetTable.probeStart at hd; cases hd) (show SetTable.probe.go t _ h _ _ = _ from hp)
    cases dm with
    | none =>
      cases e
      exact slot_not up (.inl h1)
    | some d =>
      cases e
      exact slot_not up (.inr (h2 d rfl))
  · cases e
theorem tb_layNew {b : Bool} {t : SetTable} (h : Tb b t) (es : Array (Int × Value)) (hs : Int) (x : Value) : Tb b (layNew t es hs x).2.1 := by
  unfold layNew
  split
  · rename_i j wd e
    dsimp only [SetTable.put]
    refine tb_or ?_ _
    exact ⟨h.led, up_insert h.up (free_not h.up e)⟩
  · exact tb_standIn h _
theorem up_live (f : Nat → Option Nat) : ∀ {l : List Nat}, Up l → Up ((l.filterMap fun j => (f j).map (j, ·)).map (·.1))
  | [], _ => by simp
  | a :: l, h => by
    obtain ⟨h1, h2⟩ := List.pairwise_cons.mp h
    have ih := up_live f h2
    cases e : f a with
    | none => rw [List.filterMap_cons_none (by rw [e]; rfl)]; exact ih
    | some y =>
      rw [List.filterMap_cons_some (b := (a, y)) (by rw [e]; rfl), List.map_cons]
      refine List.pairwise_cons.mpr ⟨fun z hz => ?_, ih⟩
      obtain ⟨q, hq, rfl⟩ := List.mem_map.mp hz
      obtain ⟨j, hj, e2⟩ := List.mem_filterMap.mp hq
      cases e3 : f j with
      | none => rw [e3] at e2; cases e2
      | some y' =>
        rw [e3] at e2
        cases e2
        exact h1 j hj
theorem tb_laid {b : Bool} {mask finger moves : Nat} {led plain : Bool} {hs : Array Int} {t : SetTable} {order : Array Nat} (hl : b = false → led = true) (e : SetTable.laid mask finger moves led plain hs = some (t, order)) : Tb b t := by
  unfold SetTable.laid at e
  cases e1 : SetTable.layClean mask hs with
  | none => rw [e1] at e; cases e
  | some owner =>
    rw [e1] at e
    cases e
    exact ⟨hl, up_live (fun j => owner.getD j none) List.pairwise_lt_range⟩
theorem tb_relayAll {b : Bool} {t : SetTable} (h : Tb b t) (es : Array (Int × Value)) (n : Nat) : Tb b (relayAll t es n).2.1 := by
  unfold relayAll
  split
  · rename_i t' order e
    dsimp only
    split
    · exact tb_laid h.led e
    · exact tb_standIn h _
  · exact tb_standIn h _
end Ls
set_option linter.all false
set_option maxRecDepth 100000
namespace Ls
open PySem
def byText (w : World) : Bool := w.params.followText "set-order"
def SetT (prog : Program) (w : World) (h : Heap) (a : Addr) (S : Int → Bool) (n : Nat) : Prop :=
  ∃ o es ep t, (h.get? a = some o ∧ o.ExactSet ∧ o.data = .set es ep t) ∧ ElemsOf (intKind prog w) es.toList ∧ (∀ k, S k = true ↔ ∃ e ∈ es.toList, (intKind prog w).is k e.2 = true) ∧
    es.size < scanBound ∧ t.fits es.size = true ∧ es.size = n ∧ Tb (byText w) t
section
variable {prog : Program} {w : World} {A : Around} {E : Value → Shared → Prop} {s : Shared} {a : Addr} {S : Int → Bool} {n : Nat}
theorem SetT.typeIs (h : SetT prog w s.heap a S n) : s.TypeIs (.ref a) "set" := let ⟨o, _, _, _, ⟨ho, hc, _⟩, _⟩ := h; ⟨o, ho, hc.1⟩
theorem SetT.keep {h h' : Heap} (x : SetT prog w h a S n) (k : ∀ o, h.get? a = some o → h'.get? a = some o) : SetT prog w h' a S n :=
  let ⟨o, es, ep, t, ⟨ho, hc, hd⟩, r⟩ := x; ⟨o, es, ep, t, ⟨k o ho, hc, hd⟩, r⟩
theorem SetT.congr {h : Heap} {S' : Int → Bool} {n' : Nat} (x : SetT prog w h a S n) (e : ∀ k, S k = S' k) (en : n = n') : SetT prog w h a S' n' := by
  have e' : S = S' := funext e
  subst e' en
  exact x
theorem stored {h : Heap} {o : Obj} {es es' : Array (Int × Value)} {ep : Nat} {t t' : SetTable} (x : h.get? a = some o ∧ o.ExactSet ∧ o.data = .set es ep t) (el : ElemsOf (intKind prog w) es'.toList)
    (hm : ∀ k, S k = true ↔ ∃ e ∈ es'.toList, (intKind prog w).is k e.2 = true) (hb : es'.size < scanBound) (hf : t'.fits es'.size = true) (hn : es'.size = n) (tb : Tb (byText w) t') :
    (∃ o', (h.update a (Obj.putSet es' t')).get? a = some o' ∧ o'.ExactSet ∧ o'.data = .set es' (ep + 1) t') ∧ SetT prog w (h.update a (Obj.putSet es' t')) a S n := by
  obtain ⟨ho, hc, hd⟩ := x
  have q := Heap.get?_update_self (Obj.putSet es' t') ho (by rw [putSet_of es' t' hd]; rfl)
  rw [putSet_of es' t' hd] at q
  exact ⟨⟨_, q, hc, rfl⟩, _, es', ep + 1, t', ⟨q, hc, rfl⟩, el, hm, hb, hf, hn, tb⟩
theorem add_int {z : Int} {tk : Tok} {Q : Bool → Shared → Prop} (hS : SetT prog w s.heap a S n) (room : n + 1 < scanBound)
    (h : ∀ h', Heap.SameBut a s.heap h' → SetT prog w h' a (fun k => S k || decide (k = z)) (if S z then n else n + 1) → Q (!S z) { s with heap := h' }) :
    wpAny (model prog w) A (setAddHashed a (.int z tk) ((intKind prog w).hash z)) Q E s := by
  obtain ⟨o, es, ep, t, at0, el, hm, hb, hf, hn, tb⟩ := hS
  have hz : (intKind prog w).is z (.int z tk) = true := by simp [intKind, Value.isInt]
  unfold setAddHashed setAddHashedIn
  refine wpAny_holding (wpAny_bind (wpAny_setState_of at0.1 at0.2.2 hf ?_))
  dsimp only
  rw [byScan_of (x := .int z tk) rfl hb el, if_pos rfl]
  unfold setAddByScan
  refine wpAny_bind (wpAny_bind (wpAny_rule (wpAny_bind (wpAny_setScan_of hz at0.1 at0.2.2 hf el ?_))))
  cases hr : List.findIdx? (fun e => (intKind prog w).is z e.2) es.toList with
  | some j =>
    obtain ⟨hj, pj, _⟩ := List.findIdx?_eq_some_iff_getElem.mp hr
    have hs : S z = true := (hm z).mpr ⟨_, List.getElem_mem hj, pj⟩
    refine wpAny_pure (wpAny_pure ?_)
    have q := h s.heap (Heap.SameBut.refl a s.heap) ⟨o, es, ep, t, at0, el, fun k => ?_, hb, hf, by rw [hs]; exact hn, tb⟩
    · rw [hs] at q
      exact q
    · rw [Bool.or_eq_true, decide_eq_true_eq, ← hm k]
      exact ⟨fun x => x.elim id fun e => e ▸ hs, .inl⟩
  | none =>
    have hs : S z = false := by
      cases hk : S z with
      | false => rfl
      | true =>
        obtain ⟨e, he, pe⟩ := (hm z).mp hk
        have no := List.findIdx?_eq_none_iff.mp hr e he
        rw [pe] at no
        cases no
    have way : ∀ (b : Bool) {s₁ : Shared} {Q' : Unit → Shared → Prop}, Q' () s₁ → wpAny (model prog w) A (match b with | true => rule "set.scan.the-table-gave-way" | false => pure ()) Q' E s₁ := by
      intro b s₁ Q' hq
      cases b
      · exact wpAny_pure hq
      · exact wpAny_rule hq
    dsimp only
    have pm := layNew_perm t es ((intKind prog w).hash z) (.int z tk)
    have ft := layNew_fits t es ((intKind prog w).hash z) (.int z tk)
    have tb1 := tb_layNew tb es ((intKind prog w).hash z) (.int z tk)
    generalize layNew t es ((intKind prog w).hash z) (.int z tk) = L at pm ft tb1 ⊢
    obtain ⟨es1, t1, dm, gave⟩ := L
    dsimp only at pm ft tb1 ⊢
    rw [Array.toList_push] at pm
    have el1 : ElemsOf (intKind prog w) es1.toList := (el.push hz rfl).perm pm
    have hm1 : ∀ k, (S k || decide (k = z)) = true ↔ ∃ e ∈ es1.toList, (intKind prog w).is k e.2 = true := mem_push_iff hz hm pm
    have sz1 : es1.size = n + 1 := by
      have := pm.length_eq
      simp only [Array.length_toList, List.length_append, List.length_singleton] at this
      omega
    have hb1 : es1.size < scanBound := by omega
    have fin : ∀ h', Heap.SameBut a s.heap h' → SetT prog w h' a (fun k => S k || decide (k = z)) (n + 1) → Q true { s with heap := h' } := fun h' sb x => by
      have q := h h' sb
      rw [hs] at q
      exact q x
    refine wpAny_bind (way _ ?_)
    obtain ⟨⟨o1, at1⟩, x1⟩ := stored (prog := prog) (w := w) at0 el1 hm1 hb1 ft sz1 tb1
    have sb1 := Heap.SameBut.update s.heap a (Obj.putSet es1 t1)
    have pm2 := relayAll_perm t1 es1 (SetTable.grown es1.size)
    have ft2 := relayAll_fits t1 es1 (SetTable.grown es1.size)
    have tb2 := tb_relayAll tb1 es1 (SetTable.grown es1.size)
    have sz2 : (relayAll t1 es1 (SetTable.grown es1.size)).1.size = es1.size := by
      have := pm2.length_eq
      simpa using this
    have hm2 : ∀ k, (S k || decide (k = z)) = true ↔ ∃ e ∈ (relayAll t1 es1 (SetTable.grown es1.size)).1.toList, (intKind prog w).is k e.2 = true := fun k =>
      (hm1 k).trans ⟨fun ⟨e, he, q⟩ => ⟨e, pm2.mem_iff.mpr he, q⟩, fun ⟨e, he, q⟩ => ⟨e, pm2.mem_iff.mp he, q⟩⟩
    have hb2 : (relayAll t1 es1 (SetTable.grown es1.size)).1.size < scanBound := by omega
    obtain ⟨_, x2⟩ := stored (prog := prog) (w := w) at1 (el1.perm pm2) hm2 hb2 ft2 (sz2.trans sz1) tb2
    split
    · refine wpAny_bind (wpAny_of_eq (show hashByValue 8 (.int z tk) = pure true from rfl) ?_)
      simp only [↓reduceIte]
      refine wpAny_bind (wpAny_storeSet_of at0.1 at0.2.2 ?_ (fits_of_scanBound hb1))
      split
      · refine wpAny_bind (way _ ?_)
        refine wpAny_bind (wpAny_storeSet_of at1.1 at1.2.2 ?_ (fits_of_scanBound hb2))
        exact wpAny_pure (wpAny_pure (fin _ (sb1.trans (Heap.SameBut.update _ a _)) x2))
      · exact wpAny_pure (wpAny_pure (fin _ sb1 x1))
    · refine wpAny_bind (wpAny_pure ?_)
      simp only [↓reduceIte]
      refine wpAny_bind (wpAny_storeSet_of at0.1 at0.2.2 ?_ (fits_of_scanBound hb1))
      split
      · refine wpAny_bind (way _ ?_)
        refine wpAny_bind (wpAny_storeSet_of at1.1 at1.2.2 ?_ (fits_of_scanBound hb2))
        exact wpAny_pure (wpAny_pure (fin _ (sb1.trans (Heap.SameBut.update _ a _)) x2))
      · exact wpAny_pure (wpAny_pure (fin _ sb1 x1))
end
end Ls
set_option linter.all false
set_option maxRecDepth 100000
namespace Ls
open PySem PySem.Spec
open PyProof.Rows (firstMet)
section
variable {prog : Program} {w : World} {A : Around} {R : Result → Shared → Prop} {I : Addr} {fp wr : List Addr} {G : Array GenState → Array GenState → Prop} {n : Nat} {P : Nat → Value → Prop} {St : Nat → Shared → Prop}
abbrev SetUp (prog : Program) (w : World) (h : Heap) (S : Addr) (val : Nat → Int) (i : Nat) : Prop := SetT prog w h S (fun z => (firstMet val i).any (· == z)) (firstMet val i).length
theorem fill (W : WalksS prog w A.in1 I fp wr G n P St) (S : Addr) (out : S ∉ fp) (val : Nat → Int) (hval : ∀ i v, P i v → ∃ t, v = .int (val i) t) (hb : n + 1 < scanBound) :
    ∀ (m i : Nat) (s : Shared), n - i = m → i ≤ n → St i s → SetUp prog w s.heap S val i → (∀ s', Moved (S :: wr) G s s' → SetUp prog w s'.heap S val n → R (.ok (.ret .none)) s') →
      codeAny (model prog w) A (.builtin "set.update.loop" ⟨[.ref S, .ref I], []⟩) R s
  | m, i, s, hm, hi, st, x, hR => by
    have outw : S ∉ wr := fun h => out (W.sub _ h)
    have sub : ∀ b ∈ wr, b ∈ S :: wr := fun b h => List.mem_cons_of_mem _ h
    refine codeAny_builtin PyProof.Rows.F.entry_set_update_loop ?_
    rw [Around.under_plainId PyProof.Rows.F.plain_set_update_loop _]
    show wpAny _ A.in1 (pyNext (.ref I) >>= _) _ _ s
    by_cases hin : i = n
    · subst hin
      refine wpAny_bind (W.done s _ _ st fun s' mv => ?_)
      show wpAny _ A.in1 (ret Value.none) _ _ s'
      exact wpAny_pure (hR s' (mv.mono sub) (x.keep fun o e => mv.heap S o outw e))
    · have hlt : i < n := by omega
      refine wpAny_bind (W.item i s _ _ hlt st fun v s' hP st' mv => ?_)
      obtain ⟨t, rfl⟩ := hval i v hP
      have x' : SetUp prog w s'.heap S val i := x.keep fun o e => mv.heap S o outw e
      show wpAny _ A.in1 (holding [Value.int (val i) t] (setAdd S (.int (val i) t)) >>= _) _ _ s'
      refine wpAny_bind (wpAny_holding ?_)
      unfold setAdd
      refine wpAny_holding (wpAny_bind ((PySem.intKind prog w).pyHash (k := val i) (by simp [PySem.intKind, Value.isInt]) ?_))
      have room : (firstMet val i).length + 1 < scanBound := by
        have := PyProof.Rows.firstMet_length_le val i
        omega
      refine add_int (s := { s' with toks := s'.toks + 1 }) x' room fun h' sb x2 => ?_
      have x3 : SetUp prog w h' S val (i + 1) := x2.congr (fun z => by rw [PyProof.Rows.firstMet_succ, PyProof.Rows.step_any]) (by rw [PyProof.Rows.firstMet_succ, PyProof.Rows.step_length])
      refine wpAny_pure ⟨plainId_quiet PyProof.Rows.F.plain_set_update_loop _, fill W S out val hval hb (n - (i + 1)) (i + 1) _ rfl hlt (W.frame _ s' _ _ st' (Nat.le_succ _) fun b hbb o e => ?_) x3 fun s2 mv2 x4 => ?_⟩
      · rw [sb.2 b fun h => out (h ▸ hbb)]
        exact e
      · refine hR s2 (Moved.trans W.gtrans ((mv.mono sub).then_heap (Nat.le_succ _) fun b o hbb e => ?_) mv2) x4
        rw [sb.2 b fun h => hbb (by rw [h]; exact List.mem_cons_self)]
        exact e
  termination_by m i => n - i
  decreasing_by omega
end
section
variable {prog : Program} {w : World} {A : Around} {E : Value → Shared → Prop} {s : Shared}
abbrev freshSet (w : World) : Obj := { cls := .type "set", dict := none, data := .set #[] 0 (.fresh 0 0 (!byText w)) }
theorem fresh_setT (h : Heap) (val : Nat → Int) : SetUp prog w (h.push (freshSet w)) h.objs.size val 0 :=
  ⟨freshSet w, #[], 0, .fresh 0 0 (!byText w), ⟨Heap.get?_push_size _ rfl, ⟨rfl, rfl, rfl⟩, rfl⟩, fun e he => by simp at he, fun k => by simp [firstMet], by decide, by rfl, rfl, tb_fresh _⟩
theorem set_new (a : Value) {Q : Value → Shared → Prop} (h : Q (.ref s.heap.objs.size) { s with heap := s.heap.push (freshSet w) }) :
    codeAny (model prog w) A (.call (.builtin "set.__new__") ⟨[.type "set", a], []⟩) (wants Q E) s := by
  refine codeAny_of_tree ?_
  show wpAny _ A.in1 (do checkBuiltinCall "set.__new__" ⟨[.type "set", a], []⟩; again (.builtin "set.__new__" ⟨[.type "set", a], []⟩)) _ _ s
  refine wpAny_bind (wpAny_of_eq (PySem.F.newCall_set_1 a) (wpAny_pure ⟨plainId_quiet PySem.F.plain_set_new _, codeAny_builtin PySem.F.entry_set_new ?_⟩))
  rw [Around.under_plainId PySem.F.plain_set_new _]
  unfold Builtin.«set.__new__» Builtin.Frozenset.newClass
  have own := sub_set_self
  obtain ⟨hp, g, d, tk, os⟩ := s
  dsimp only
  wp_walk
  refine wpAny_askSetting (wpAny_pure ?_)
  dsimp only
  simp only [newObj]
  refine wpAny_bind (wpAny_alloc (wpAny_pure ?_))
  exact wpAny_pure h
set_option maxHeartbeats 4000000 in
theorem set_list {l : Addr} {items : Array Value} {ns : List Int} {Q : Value → Shared → Prop} (hh : A.handled = none) (hl : s.heap.IsList l items) (hi : PyProof.Rows.IntsAre items.toList ns) (hb : items.size + 1 < scanBound)
    (h : ∀ (h' : Heap) (tk : Nat), SetUp prog w h' s.heap.objs.size (fun i => ns.getD i 0) items.size → (∀ b o, b < s.heap.objs.size → s.heap.get? b = some o → h'.get? b = some o) → Q (.ref s.heap.objs.size) { s with heap := h', toks := tk }) :
    wpAny (model prog w) A (call (.type "set") [.ref l]) Q E s := by
  obtain ⟨c, tl, hmro⟩ := PySem.F.called_set.mro
  have made := PySem.F.called_set.made
  have issub := PySem.F.called_set.sub
  refine wpAny_call (codeAny_of_tree ?_)
  show wpAny _ _ (callAny (.type "set") _) _ _ _
  refine wpAny_pure ⟨Code.quiet_builtin _ (by decide +kernel), codeAny_builtin PySem.F.entry_type_call ?_⟩
  rw [Around.under_plain (weight_type_call_type "set" [.ref l] []) rfl]
  have t1 := PySem.F.called_set.notType
  have t2 := PySem.F.called_set.canCreate
  have t3 := PySem.F.typeCall_set_1 (.ref l)
  repeat (any_goals (first | assumption | wp_step))
  refine codeAny_mono (set_new (.ref l) (E := E) (Q := fun obj s₁ => obj = .ref s.heap.objs.size ∧ s₁ = { s with heap := s.heap.push (freshSet w) }) ⟨rfl, rfl⟩) fun r s₁ hr => ?_
  cases r with
  | error e => exact hr
  | ok fl =>
    cases fl with
    | ret obj =>
      obtain ⟨rfl, rfl⟩ := hr
      have hS : (s.heap.push (freshSet w)).get? s.heap.objs.size = some (freshSet w) := Heap.get?_push_size _ rfl
      have hT : Shared.TypeIs { s with heap := s.heap.push (freshSet w) } (.ref s.heap.objs.size) "set" := ⟨_, hS, rfl⟩
      have i1 := PySem.F.called_set.init.lookup
      have i2 := PySem.F.called_set.init.bind (.ref s.heap.objs.size)
      repeat (any_goals (first | assumption | wp_step))
      refine codeAny_mono (codeAny_call_builtin (R := wants (fun r s₂ => r = .none ∧ ∃ h' tk, s₂ = { s with heap := h', toks := tk } ∧ SetUp prog w h' s.heap.objs.size (fun i => ns.getD i 0) items.size ∧
          (∀ b o, b < s.heap.objs.size → s.heap.get? b = some o → h'.get? b = some o)) E) PySem.F.called_set.init.plain PySem.F.entry_set_init (check_set_init_1 hT ?_)) fun r₂ s₂ hr₂ => ?_
      · obtain ⟨ol, hol, hcl, nl, hdl⟩ := hl
        obtain ⟨ocls, odict, odata, oslots⟩ := ol
        simp only at hcl hdl
        subst hcl; subst hdl
        have hol' : (s.heap.push (freshSet w)).get? l = some { cls := .type "list", dict := odict, data := .seq items nl, slots := oslots } := Heap.get?_push_of_some _ hol
        have u1 := PySem.F.sub_list_set
        have u2 := PySem.F.sub_list_frozenset
        have u3 : (Value.type "list" == Value.type "dict") = false := by decide
        have hl1 : (s.heap.push (freshSet w)).IsList l items := ⟨_, hol', rfl, nl, rfl⟩
        unfold Builtin.«set.__init__» noKeywords Builtin.Frozenset.updateFrom
        generalize ePI : pyIter = PI
        wp_walk
        subst ePI
        refine wpAny_pyIter_list hl1 ?_
        refine wpAny_bind (wpAny_runValue ?_)
        have hlS : l < s.heap.objs.size := Heap.lt_size hol
        have h3 : A.in1.in1.in1.handled = none := by simp [hh]
        have ne1 : l ≠ (s.heap.push (freshSet w)).objs.size := by
          rw [Heap.size_push]
          exact Nat.ne_of_lt (Nat.lt_succ_of_lt hlS)
        have out : s.heap.objs.size ∉ [(s.heap.push (freshSet w)).objs.size, l] := by
          rw [Heap.size_push]
          simp only [List.mem_cons, List.mem_singleton, List.not_mem_nil, or_false, not_or]
          exact ⟨Nat.ne_of_lt (Nat.lt_succ_self _), Nat.ne_of_gt hlS⟩
        refine fill ((Walks.list h3 _ l ne1 items).toS) s.heap.objs.size out (fun i => ns.getD i 0) (fun i v hv => PyProof.Rows.IntsAre.int_at hi i v (by rw [Array.getElem?_toList]; exact hv)) hb (items.size - 0) 0 _ rfl (Nat.zero_le _)
          ⟨⟨_, Heap.get?_push_size _ rfl, rfl, rfl⟩, hl1.push _⟩ ?hS0 ?hR
        case hS0 => exact (fresh_setT (prog := prog) s.heap fun i => ns.getD i 0).keep fun o e => Heap.get?_push_of_some _ e
        case hR =>
          intro s' mv xS
          obtain ⟨h', g', d', tk', os'⟩ := s'
          have eg : g' = s.gens := mv.gens
          have ed : d' = s.drawn := mv.drawn
          have eo : os' = s.os := mv.os
          subst eg; subst ed; subst eo
          show wpAny _ _ _ _ _ _
          refine wpAny_pure ?_
          show wpAny _ _ (ret Value.none) _ _ _
          refine wpAny_pure ⟨rfl, h', tk', rfl, xS, fun b o hbb e => ?_⟩
          have n1 : b ≠ s.heap.objs.size := Nat.ne_of_lt hbb
          have n2 : b ≠ (s.heap.push (freshSet w)).objs.size := by
            rw [Heap.size_push]
            exact Nat.ne_of_lt (Nat.lt_succ_of_lt hbb)
          exact mv.heap b o (by simp only [List.mem_cons, List.mem_singleton, List.not_mem_nil, or_false, not_or]; exact ⟨n1, n2⟩) (Heap.get?_push_of_some _ (Heap.get?_push_of_some _ e))
      · cases r₂ with
        | error e => exact hr₂
        | ok fl₂ =>
          cases fl₂ with
          | ret r =>
            obtain ⟨rfl, h', tk, rfl, xS, kp⟩ := hr₂
            repeat (any_goals (first | assumption | wp_step))
            exact h _ _ xS kp
          | _ => exact hr₂.elim
    | _ => exact hr.elim
theorem set_len {a : Addr} {S : Int → Bool} {n : Nat} {Q : Value → Shared → Prop} (x : SetT prog w s.heap a S n) (h : Q (.int n (s.toks + 1)) { s with toks := s.toks + 1 + 1 }) : wpAny (model prog w) A (call (.builtin "len") [.ref a]) Q E s := by
  obtain ⟨o, es, ep, t, ⟨ho, hc, hd⟩, _, _, hb, hf, hn, _⟩ := x
  refine call_len_set ho hc hd hf (by unfold scanBound at hb; omega) ?_
  rw [hn]
  exact h
end
end Ls
set_option linter.all false
set_option maxRecDepth 100000
namespace Ls
open PySem PySem.Spec
theorem any_choose {M : Model} {A : Around} {E : Value → Shared → Prop} {s : Shared} {src : Source} {n : Nat} {Q : Nat → Shared → Prop} (hn : n ≠ 0) (h : ∀ i d, i < n → Q i { s with drawn := d }) : wpAny M A (choose src n) Q E s := fun Γ p _ => by
  show Sem.wp M Γ (.choose src n .pure) _ _ p s
  rw [Sem.wp_choose]
  refine ⟨hn, ?_⟩
  rw [Sem.wp_pure]
  exact h _ _ (Nat.mod_lt _ (Nat.pos_of_ne_zero hn))
theorem perm_erase {α : Type} : ∀ {l : List α} {i : Nat} {x : α}, l[i]? = some x → (x :: l.eraseIdx i).Perm l
  | [], i, x, h => by simp at h
  | a :: l, 0, x, h => by
    have e : a = x := by simpa using h
    subst e
    exact .refl _
  | a :: l, i + 1, x, h => by
    have ih := perm_erase (l := l) (i := i) (x := x) (by simpa using h)
    rw [List.eraseIdx_cons_succ]
    exact (List.Perm.swap a x _).trans (ih.cons a)
theorem draw_order {M : Model} {A : Around} {E : Value → Shared → Prop} {α : Type} : ∀ (n : Nat) (xs : List α) (s : Shared) (Q : List α → Shared → Prop), xs.length = n → (∀ ys d, ys.Perm xs → Q ys { s with drawn := d }) → wpAny M A (drawOrder n xs) Q E s
  | 0, xs, s, Q, hl, h => by
    have e : xs = [] := List.eq_nil_of_length_eq_zero hl
    subst e
    exact wpAny_pure (h [] s.drawn (.refl _))
  | n + 1, [], s, Q, hl, h => by simp at hl
  | n + 1, x :: xs, s, Q, hl, h => by
    show wpAny M A (do
      let i ← choose .order (x :: xs).length
      match (x :: xs)[i]? with
      | some x' => return x' :: (← drawOrder n ((x :: xs).eraseIdx i))
      | none => unsupported "internal:drawOrder") Q E s
    refine wpAny_bind (any_choose (by simp) fun i d hi => ?_)
    have e := List.getElem?_eq_getElem hi
    rw [e]
    dsimp only
    refine wpAny_bind (draw_order n _ _ _ (by rw [List.length_eraseIdx, if_pos hi]; simp at hl ⊢; exact hl) fun ys d' pm => wpAny_pure ?_)
    exact h _ d' ((pm.cons _).trans (perm_erase e))
theorem pick_go {α : Type} (next : Nat → Nat) : ∀ (fuel k : Nat) (left : List α) (out : Array α), left.length = fuel → (pickOrder.go next fuel k left out).toList.Perm (out.toList ++ left)
  | 0, k, left, out, hl => by
    have e : left = [] := List.eq_nil_of_length_eq_zero hl
    subst e
    rw [pickOrder.go, List.append_nil]
  | fuel + 1, k, left, out, hl => by
    have hi : next k % left.length < left.length := Nat.mod_lt _ (by omega)
    have e := List.getElem?_eq_getElem hi
    rw [pickOrder.go, e]
    dsimp only
    refine (pick_go next fuel (k + 1) _ _ (by rw [List.length_eraseIdx, if_pos hi]; omega)).trans ?_
    rw [Array.toList_push, List.append_assoc]
    exact List.Perm.append_left _ (by simpa using perm_erase e)
theorem pick_perm {α : Type} (next : Nat → Nat) (xs : Array α) : (pickOrder next xs).toList.Perm xs.toList := by
  have := pick_go next xs.size 0 xs.toList #[] (by simp)
  simpa [pickOrder] using this
theorem slot_next : Slot "set_iterator" "__next__" "set_iterator.__next__" :=
  .of (owner := "set_iterator") (n := "__next__") (by rw [typeLookup_type, builtinLookup_eq_fast]; kernel_rfl) (by decide +kernel) (by decide +kernel) (by decide +kernel)
    (by first | exact .inl (by decide +kernel) | exact .inr (by decide +kernel)) (by rw [isSubtype_type]; kernel_rfl)
theorem entry_next : entryFor table "set_iterator.__next__" = some Builtin.«set_iterator.__next__» := entryFor_of_tree (by kernel_rfl)
theorem owner_si : Manifest.owners.lookup (String.ofList ['r', 'o', 't', 'a', 'r', 'e', 't', 'i', '_', 't', 'e', 's'].reverse) = some Manifest.sig_set_iterator := by kernel_rfl
theorem args_next (a : Value) : argsOk "set_iterator.__next__" ⟨[a], []⟩ := by
  unfold argsOk
  rw [signature?_of (id := "set_iterator.__next__") (n := ['_', '_', 't', 'x', 'e', 'n', '_', '_']) (o := ['r', 'o', 't', 'a', 'r', 'e', 't', 'i', '_', 't', 'e', 's']) (by kernel_rfl) owner_si]
  kernel_rfl
theorem entry_iter : entryFor table "set.__iter__" = some Builtin.«frozenset.__iter__» :=
  entryFor_alias (id' := "frozenset.__iter__") (by kernel_rfl) rfl (by decide +kernel) (by kernel_rfl)
end Ls
set_option linter.all false
set_option maxRecDepth 100000
namespace Ls
open PySem PySem.Spec
abbrev sIt (first : Value) (a : Addr) (i n ep : Nat) : Obj := { cls := .type "set_iterator", data := .fields #[first, .int i 0, .ref a, .int n 0, .int ep 0] }
structure At (h : Heap) (a : Addr) (es : Array (Int × Value)) (ep : Nat) (t : SetTable) : Prop where
  ex : ∃ o, h.get? a = some o ∧ o.ExactSet ∧ o.data = .set es ep t
  fit : t.fits es.size = true
theorem At.keep {h h' : Heap} {a : Addr} {es : Array (Int × Value)} {ep : Nat} {t : SetTable} (x : At h a es ep t) (k : ∀ o, h.get? a = some o → h'.get? a = some o) : At h' a es ep t :=
  ⟨let ⟨o, e, r⟩ := x.ex; ⟨o, k o e, r⟩, x.fit⟩
section
variable {prog : Program} {w : World} {A : Around} {E : Value → Shared → Prop} {s : Shared} {it a : Addr} {first : Value} {i n ep : Nat} {es : Array (Int × Value)} {t : SetTable} {Q : Option Value → Shared → Prop}
theorem next_in (ho : s.heap.get? it = some (sIt first a i n ep)) 
    (h : wpAny (model prog w) A.in1 (Builtin.«set_iterator.__next__» ⟨[.ref it], []⟩) (fun fin s' => ∃ r, fin = .done (.ret r) ∧ Q (some r) s')
      (fun e s' => wpAny (model prog w) A (do if ← isInstance e (.type "StopIteration") then pure none else throw e) Q E s') s) : wpAny (model prog w) A (pyNext (.ref it)) Q E s := by
  have hT : s.TypeIs (.ref it) "set_iterator" := ⟨_, ho, rfl⟩
  unfold pyNext
  refine wpAny_bind (wpAny_attempt (wpAny_callSpecial?_slot (name := Str.ofString "__next__") hT slot_next (wpAny_call_entry slot_next hT entry_next ?_ (args_next _))))
  refine wpAny_mono h (fun fin s' ⟨r, e, q⟩ => ⟨r, e, ?_⟩) fun e s' q => ?_
  · exact wpAny_pure q
  · exact q
theorem next_text (x : At s.heap a es ep t) (hb : byText w = true) {slot : Nat} {Q : Option (Value × Nat) → Shared → Prop} (h : Q (((pickOrder (w.params.setOrder a ep) es)[i]?).map fun e => (e.2, slot)) s) :
    wpAny (model prog w) A (setNext a slot i ep) Q E s := by
  obtain ⟨o, ho, hc, hd⟩ := x.ex
  unfold setNext
  refine wpAny_bind (wpAny_setState_of ho hd x.fit ?_)
  dsimp only
  unfold setsByText
  refine wpAny_bind (wpAny_bind (wpAny_askSetting (wpAny_pure ?_)))
  refine wpAny_ite_split (fun _ => ?_) fun q => absurd hb q
  rw [if_neg (by simp)]
  unfold setWalk setsByText
  refine wpAny_bind (wpAny_bind (wpAny_setState_of ho hd x.fit ?_))
  dsimp only
  refine wpAny_bind (wpAny_bind (wpAny_askSetting (wpAny_pure ?_)))
  refine wpAny_ite_split (fun _ => ?_) fun q => absurd hb q
  refine wpAny_bind (wpAny_askSetting (wpAny_pure ?_))
  exact wpAny_pure h
theorem next_place (x : At s.heap a es ep t) (hb : byText w = false) (hl : t.led = true) (hp : (!t.plain && decide (es.size > 1)) = false) {slot : Nat} {Q : Option (Value × Nat) → Shared → Prop}
    (h : Q (match es[SetTable.below t.place slot]?, t.place[SetTable.below t.place slot]? with
      | some (_, v), some j => some (v, j + 1)
      | _, _ => none) s) : wpAny (model prog w) A (setNext a slot i ep) Q E s := by
  obtain ⟨o, ho, hc, hd⟩ := x.ex
  unfold setNext
  refine wpAny_bind (wpAny_setState_of ho hd x.fit ?_)
  dsimp only
  unfold setsByText
  refine wpAny_bind (wpAny_bind (wpAny_askSetting (wpAny_pure ?_)))
  refine wpAny_ite_split (fun q => absurd (hb.symm.trans q) Bool.false_ne_true) fun _ => ?_
  refine wpAny_ite_split (fun q => ?_) fun _ => ?_
  · have q' : (!t.plain && decide (es.size > 1)) = true := q
    rw [hp] at q'
    cases q'
  · refine wpAny_bind ?_
    show wpAny _ _ (if (!t.led && !es.isEmpty) = true then unsupported "set:maker-not-led" else pure ()) _ _ s
    rw [if_neg (by rw [hl]; simp)]
    refine wpAny_pure ?_
    exact wpAny_pure h
end
end Ls
set_option linter.all false
set_option maxRecDepth 100000
namespace Ls
open PySem PySem.Spec
section
variable {prog : Program} {w : World} {A : Around} {E : Value → Shared → Prop} {s : Shared} {it a : Addr} {first : Value} {i n ep : Nat} {es : Array (Int × Value)} {t : SetTable} {Q : Option Value → Shared → Prop}
theorem item_int {slot nxt : Nat} {v : Value} (ho : s.heap.get? it = some (sIt (.int slot 0) a i n ep)) (x : At s.heap a es ep t) (hn : es.size = n)
    (hx : ∀ (E' : Value → Shared → Prop) (Q' : Option (Value × Nat) → Shared → Prop), Q' (some (v, nxt)) s → wpAny (model prog w) A.in1 (setNext a slot i ep) Q' E' s)
    (h : ∀ h', h'.get? it = some (sIt (.int nxt 0) a (i + 1) n ep) → Heap.SameBut it s.heap h' → Q (some v) { s with heap := h' }) : wpAny (model prog w) A (pyNext (.ref it)) Q E s := by
  obtain ⟨o, hoa, hc, hd⟩ := x.ex
  refine next_in ho ?_
  unfold Builtin.«set_iterator.__next__»
  refine wpAny_bind (wpAny_pure ?_)
  refine wpAny_bind (wpAny_fieldsOf ho rfl ?_)
  dsimp only
  refine wpAny_bind (wpAny_setEntries_of hoa hd x.fit ?_)
  rw [if_neg (by rw [hn]; simp)]
  refine wpAny_bind (hx _ _ ?_)
  dsimp only
  refine wpAny_bind (wpAny_setField ho rfl (by simp) ?_)
  have h1 : (s.heap.update it (Obj.mapFields (·.setIfInBounds 0 (rawInt (nxt : Int))))).get? it = some (sIt (.int nxt 0) a i n ep) := by
    rw [Heap.get?_update_self _ ho (Obj.isFreed_of_fields (Obj.data_mapFields rfl _))]
    rfl
  refine wpAny_bind (wpAny_setField h1 rfl (by simp) ?_)
  have h2 : ((s.heap.update it (Obj.mapFields (·.setIfInBounds 0 (rawInt (nxt : Int))))).update it (Obj.mapFields (·.setIfInBounds 1 (rawInt ((i : Int) + 1))))).get? it = some (sIt (.int nxt 0) a (i + 1) n ep) := by
    rw [Heap.get?_update_self _ h1 (Obj.isFreed_of_fields (Obj.data_mapFields rfl _))]
    rfl
  exact wpAny_pure ⟨_, rfl, h _ h2 ((Heap.SameBut.update ..).trans (Heap.SameBut.update ..))⟩
theorem end_int {slot : Nat} (hh : A.handled = none) (ho : s.heap.get? it = some (sIt (.int slot 0) a i n ep)) (x : At s.heap a es ep t) (hn : es.size = n)
    (hx : ∀ (E' : Value → Shared → Prop) (Q' : Option (Value × Nat) → Shared → Prop), Q' none s → wpAny (model prog w) A.in1 (setNext a slot i ep) Q' E' s)
    (h : ∀ h', Heap.ExtBut it s.heap h' → Q none { s with heap := h' }) : wpAny (model prog w) A (pyNext (.ref it)) Q E s := by
  obtain ⟨o, hoa, hc, hd⟩ := x.ex
  refine next_in ho ?_
  unfold Builtin.«set_iterator.__next__»
  refine wpAny_bind (wpAny_pure ?_)
  refine wpAny_bind (wpAny_fieldsOf ho rfl ?_)
  dsimp only
  refine wpAny_bind (wpAny_setEntries_of hoa hd x.fit ?_)
  rw [if_neg (by rw [hn]; simp)]
  refine wpAny_bind (hx _ _ ?_)
  dsimp only
  refine wpAny_bind (wpAny_setField ho rfl (by simp) ?_)
  refine wpAny_bind ?_
  simp only [newExc, newTuple]
  refine wpAny_bind (wpAny_newObj_type ?_ (by size_fits))
  refine wpAny_bind (m := firstArgMember _ _) (wpAny_of_eq (a := Value.none) (by first | rfl | (simp only [firstArgMember]; rfl)) ?_)
  refine wpAny_newObj_type ?_ (by size_fits)
  simp only [raiseNew]
  refine wpAny_bind (wpAny_handled ?_)
  rw [show A.in1.handled = none from hh]
  refine wpAny_bind (wpAny_pure (wpAny_throw ?_))
  refine wpAny_bind (wpAny_isInstance (T := "StopIteration") (b := true) ⟨_, Heap.get?_push_size _ rfl, rfl⟩ isSubtype_stop ?_)
  exact wpAny_pure (h _ (((Heap.SameBut.update ..).extBut.push _).push _))
abbrev sTup (ps : List Nat) : Obj := { cls := .type "tuple", data := .seq (ps.map fun i : Nat => rawInt i).toArray }
theorem item_drawn {T : Addr} {ps : List Nat} {j : Nat} {e : Int × Value} (hT : s.heap.get? T = some (sTup ps)) (ne : T ≠ it) (ho : s.heap.get? it = some (sIt (.ref T) a i n ep)) (x : At s.heap a es ep t) (hn : es.size = n) (hj : ps[i]? = some j) (he : es[j]? = some e)
    (h : ∀ h', h'.get? it = some (sIt (.ref T) a (i + 1) n ep) → Heap.SameBut it s.heap h' → Q (some e.2) { s with heap := h' }) : wpAny (model prog w) A (pyNext (.ref it)) Q E s := by
  obtain ⟨o, hoa, hc, hd⟩ := x.ex
  refine next_in ho ?_
  unfold Builtin.«set_iterator.__next__»
  refine wpAny_bind (wpAny_pure ?_)
  refine wpAny_bind (wpAny_fieldsOf ho rfl ?_)
  dsimp only
  refine wpAny_bind (wpAny_setEntries_of hoa hd x.fit ?_)
  rw [if_neg (by rw [hn]; simp)]
  refine wpAny_bind (wpAny_seqItems hT rfl ?_)
  have g : ((ps.map fun i : Nat => rawInt i).toArray)[((i : Nat) : Int).toNat]? = some (.int (j : Int) 0) := by
    rw [Int.toNat_natCast, List.getElem?_toArray, List.getElem?_map, hj]
    rfl
  dsimp only
  rw [g]
  dsimp only
  refine wpAny_bind ?_
  unfold setNextDrawn
  refine wpAny_bind (wpAny_setState_of hoa hd x.fit ?_)
  dsimp only
  rw [if_neg (by simp), Int.toNat_natCast, he]
  dsimp only
  refine wpAny_pure ?_
  refine wpAny_bind (wpAny_setField ho rfl (by simp) ?_)
  have h1 : (s.heap.update it (Obj.mapFields (·.setIfInBounds 1 (rawInt ((i : Int) + 1))))).get? it = some (sIt (.ref T) a (i + 1) n ep) := by
    rw [Heap.get?_update_self _ ho (Obj.isFreed_of_fields (Obj.data_mapFields rfl _))]
    rfl
  exact wpAny_pure ⟨_, rfl, h _ h1 (Heap.SameBut.update ..)⟩
theorem end_drawn {T : Addr} {ps : List Nat} (hh : A.handled = none) (hT : s.heap.get? T = some (sTup ps)) (ne : T ≠ it) (ho : s.heap.get? it = some (sIt (.ref T) a i n ep)) (x : At s.heap a es ep t) (hn : es.size = n) (hj : ps[i]? = none)
    (h : ∀ h', Heap.ExtBut it s.heap h' → Q none { s with heap := h' }) : wpAny (model prog w) A (pyNext (.ref it)) Q E s := by
  obtain ⟨o, hoa, hc, hd⟩ := x.ex
  refine next_in ho ?_
  unfold Builtin.«set_iterator.__next__»
  refine wpAny_bind (wpAny_pure ?_)
  refine wpAny_bind (wpAny_fieldsOf ho rfl ?_)
  dsimp only
  refine wpAny_bind (wpAny_setEntries_of hoa hd x.fit ?_)
  rw [if_neg (by rw [hn]; simp)]
  refine wpAny_bind (wpAny_seqItems hT rfl ?_)
  have g : ((ps.map fun i : Nat => rawInt i).toArray)[((i : Nat) : Int).toNat]? = none := by
    rw [Int.toNat_natCast, List.getElem?_toArray, List.getElem?_map, hj]
    rfl
  dsimp only
  rw [g]
  dsimp only
  refine wpAny_bind (wpAny_setField ho rfl (by simp) ?_)
  have h1 : (s.heap.update it (Obj.mapFields (·.setIfInBounds 0 (rawInt 0)))).get? it = some (sIt (.int 0 0) a i n ep) := by
    rw [Heap.get?_update_self _ ho (Obj.isFreed_of_fields (Obj.data_mapFields rfl _))]
    rfl
  refine wpAny_bind (wpAny_setField h1 rfl (by simp) ?_)
  refine wpAny_bind ?_
  simp only [newExc, newTuple]
  refine wpAny_bind (wpAny_newObj_type ?_ (by size_fits))
  refine wpAny_bind (m := firstArgMember _ _) (wpAny_of_eq (a := Value.none) (by first | rfl | (simp only [firstArgMember]; rfl)) ?_)
  refine wpAny_newObj_type ?_ (by size_fits)
  simp only [raiseNew]
  refine wpAny_bind (wpAny_handled ?_)
  rw [show A.in1.handled = none from hh]
  refine wpAny_bind (wpAny_pure (wpAny_throw ?_))
  refine wpAny_bind (wpAny_isInstance (T := "StopIteration") (b := true) ⟨_, Heap.get?_push_size _ rfl, rfl⟩ isSubtype_stop ?_)
  exact wpAny_pure (h _ ((((Heap.SameBut.update ..).trans (Heap.SameBut.update ..)).extBut.push _).push _))
end
end Ls
set_option linter.all false
set_option maxRecDepth 100000
namespace Ls
open PySem PySem.Spec
theorem slot_self : Slot "set_iterator" "__iter__" "set_iterator.__iter__" :=
  .of (owner := "set_iterator") (n := "__iter__") (by rw [typeLookup_type, builtinLookup_eq_fast]; kernel_rfl) (by decide +kernel) (by decide +kernel) (by decide +kernel)
    (by first | exact .inl (by decide +kernel) | exact .inr (by decide +kernel)) (by rw [isSubtype_type]; kernel_rfl)
theorem entry_self : entryFor table "set_iterator.__iter__" = some Builtin.«dict_keyiterator.__iter__» :=
  entryFor_alias (id' := "dict_keyiterator.__iter__") (by kernel_rfl) rfl (by decide +kernel) (by kernel_rfl)
theorem args_self (a : Value) : argsOk "set_iterator.__iter__" ⟨[a], []⟩ := by
  unfold argsOk
  rw [signature?_of (id := "set_iterator.__iter__") (n := ['_', '_', 'r', 'e', 't', 'i', '_', '_']) (o := ['r', 'o', 't', 'a', 'r', 'e', 't', 'i', '_', 't', 'e', 's']) (by kernel_rfl) owner_si]
  kernel_rfl
def Pv (L : List (Int × Value)) (i : Nat) (v : Value) : Prop := ∃ e, L[i]? = some e ∧ e.2 = v
section
variable {prog : Program} {w : World} {A : Around} {it a : Addr} {n ep : Nat} {es : Array (Int × Value)} {t : SetTable}
theorem iter_self {E : Value → Shared → Prop} {s : Shared} {first : Value} {i : Nat} {Q : Value → Shared → Prop} (ho : s.heap.get? it = some (sIt first a i n ep)) (h : Q (.ref it) s) : wpAny (model prog w) A (pyIter (.ref it)) Q E s := by
  have hT : s.TypeIs (.ref it) "set_iterator" := ⟨_, ho, rfl⟩
  refine wpAny_pyIter_slot hT slot_self (wpAny_call_entry slot_self hT entry_self ?_ (args_self _))
  show wpAny _ _ (ret (.ref it)) _ _ s
  exact wpAny_pure ⟨_, rfl, "set_iterator", _, hT, slot_next.lookup, h⟩
theorem kept_but {h h' : Heap} {b : Addr} {o : Obj} (sb : Heap.SameBut it h h') (hb : b ∉ [it]) (e : h.get? b = some o) : h'.get? b = some o := (sb.2 b (by simpa using hb)).trans e
theorem walks_text (hh : A.handled = none) (ne : a ≠ it) (hb : byText w = true) (hn : es.size = n) :
    Walks prog w A it [it, a] [it] n (Pv (pickOrder (w.params.setOrder a ep) es).toList) (fun i h => h.get? it = some (sIt (.int ((0 : Nat) : Int) 0) a i n ep) ∧ At h a es ep t) where
  sub := fun b hb => by simp at hb ⊢; exact .inl hb
  frame := fun i h h' st k => ⟨k it (by simp) _ st.1, st.2.keep fun o e => k a (by simp) o e⟩
  item := fun i s Q E hi st hQ => by
    have hl : (pickOrder (w.params.setOrder a ep) es).size = n := by
      have := (pick_perm (w.params.setOrder a ep) es).length_eq
      simpa [hn] using this
    have hi' : i < (pickOrder (w.params.setOrder a ep) es).size := by omega
    refine item_int (slot := 0) (nxt := 0) (v := (pickOrder (w.params.setOrder a ep) es)[i].2) st.1 st.2 hn (fun E' Q' q => next_text st.2 hb ?_) fun h' ho sb => ?_
    · rw [Array.getElem?_eq_getElem hi']
      exact q
    · have q := hQ (pickOrder (w.params.setOrder a ep) es)[i].2 h' s.toks ⟨_, by rw [Array.getElem?_toList, Array.getElem?_eq_getElem hi'], rfl⟩ ⟨ho, st.2.keep fun o e => (sb.2 a ne).trans e⟩ fun b o hbb e => kept_but sb hbb e
      exact q
  done := fun s Q E st hQ => by
    have hl : (pickOrder (w.params.setOrder a ep) es).size = n := by
      have := (pick_perm (w.params.setOrder a ep) es).length_eq
      simpa [hn] using this
    refine end_int (slot := 0) hh st.1 st.2 hn (fun E' Q' q => next_text st.2 hb ?_) fun h' eb => ?_
    · rw [Array.getElem?_eq_none (by omega)]
      exact q
    · exact hQ h' s.toks fun b o hbb e => eb b o (by simpa using hbb) e
  self := fun i s Q E st h => iter_self st.1 h
theorem walks_place (hh : A.handled = none) (ne : a ≠ it) (hb : byText w = false) (hl : t.led = true) (up : Up t.place.toList) (hp : (!t.plain && decide (es.size > 1)) = false) (hf : t.fits es.size = true) (hn : es.size = n) :
    Walks prog w A it [it, a] [it] n (Pv es.toList) (fun i h => ∃ slot : Nat, h.get? it = some (sIt (.int (slot : Int) 0) a i n ep) ∧ SetTable.below t.place slot = i ∧ At h a es ep t) where
  sub := fun b hb => by simp at hb ⊢; exact .inl hb
  frame := fun i h h' ⟨slot, h1, h2, h3⟩ k => ⟨slot, k it (by simp) _ h1, h2, h3.keep fun o e => k a (by simp) o e⟩
  item := fun i s Q E hi ⟨slot, h1, h2, h3⟩ hQ => by
    have hps : t.place.size = es.size := by
      simp only [SetTable.fits, Bool.and_eq_true, beq_iff_eq] at hf
      exact hf.1
    have e1 : es[i]? = some es[i] := Array.getElem?_eq_getElem (by omega)
    have hip : i < t.place.size := by omega
    have e2 : t.place[i]? = some t.place[i] := Array.getElem?_eq_getElem hip
    refine item_int (slot := slot) (nxt := t.place[i] + 1) (v := es[i].2) h1 h3 hn (fun E' Q' q => next_place h3 hb hl hp ?_) fun h' ho sb => ?_
    · rw [h2, e1, e2]
      exact q
    · exact hQ es[i].2 h' s.toks ⟨_, by rw [Array.getElem?_toList]; exact e1, rfl⟩ ⟨t.place[i] + 1, ho, below_next up e2, h3.keep fun o e => (sb.2 a ne).trans e⟩ fun b o hbb e => kept_but sb hbb e
  done := fun s Q E ⟨slot, h1, h2, h3⟩ hQ => by
    refine end_int (slot := slot) hh h1 h3 hn (fun E' Q' q => next_place h3 hb hl hp ?_) fun h' eb => ?_
    · rw [h2, Array.getElem?_eq_none (by omega)]
      exact q
    · exact hQ h' s.toks fun b o hbb e => eb b o (by simpa using hbb) e
  self := fun i s Q E ⟨slot, h1, _, _⟩ h => iter_self h1 h
theorem pick_at {es : Array (Int × Value)} : ∀ {ps : List Nat} {i j : Nat}, (∀ k ∈ ps, k < es.size) → ps[i]? = some j → (ps.filterMap fun k => es[k]?)[i]? = es[j]?
  | [], i, j, _, h => by simp at h
  | p :: ps, 0, j, hk, h => by
    have e : p = j := by simpa using h
    subst e
    have hp := hk p (by simp)
    rw [List.filterMap_cons_some (Array.getElem?_eq_getElem hp), Array.getElem?_eq_getElem hp]
    rfl
  | p :: ps, i + 1, j, hk, h => by
    have hp := hk p (by simp)
    rw [List.filterMap_cons_some (Array.getElem?_eq_getElem hp), List.getElem?_cons_succ]
    exact pick_at (fun k hk' => hk k (List.mem_cons_of_mem _ hk')) (by simpa using h)
theorem walks_drawn {T : Addr} {ps : List Nat} (hh : A.handled = none) (ne : a ≠ it) (neT : T ≠ it) (pm : ps.Perm (List.range n)) (hn : es.size = n) :
    Walks prog w A it [it, a, T] [it] n (Pv (ps.filterMap fun k => es[k]?)) (fun i h => h.get? it = some (sIt (.ref T) a i n ep) ∧ h.get? T = some (sTup ps) ∧ At h a es ep t) where
  sub := fun b hb => by simp at hb ⊢; exact .inl hb
  frame := fun i h h' ⟨h1, h2, h3⟩ k => ⟨k it (by simp) _ h1, k T (by simp) _ h2, h3.keep fun o e => k a (by simp) o e⟩
  item := fun i s Q E hi ⟨h1, h2, h3⟩ hQ => by
    have hl : ps.length = n := by rw [pm.length_eq, List.length_range]
    have bd : ∀ k ∈ ps, k < es.size := fun k hk => by rw [hn]; exact List.mem_range.mp (pm.mem_iff.mp hk)
    have e1 : ps[i]? = some ps[i] := List.getElem?_eq_getElem (by omega)
    have hj : ps[i] < es.size := bd _ (List.getElem_mem _)
    have e2 : es[ps[i]]? = some es[ps[i]] := Array.getElem?_eq_getElem hj
    refine item_drawn h2 neT h1 h3 hn e1 e2 fun h' ho sb => ?_
    exact hQ _ h' s.toks ⟨es[ps[i]], by rw [pick_at bd e1]; exact e2, rfl⟩ ⟨ho, (sb.2 T neT).trans h2, h3.keep fun o e => (sb.2 a ne).trans e⟩ fun b o hbb e => kept_but sb hbb e
  done := fun s Q E ⟨h1, h2, h3⟩ hQ => by
    have hl : ps.length = n := by rw [pm.length_eq, List.length_range]
    refine end_drawn hh h2 neT h1 h3 hn (List.getElem?_eq_none_iff.mpr (by omega)) fun h' eb => ?_
    exact hQ h' s.toks fun b o hbb e => eb b o (by simpa using hbb) e
  self := fun i s Q E st h => iter_self st.1 h
end
section
variable {prog : Program} {w : World} {A : Around} {E : Value → Shared → Prop} {s : Shared} {a : Addr} {ep : Nat} {es : Array (Int × Value)} {t : SetTable}
structure Walk (prog : Program) (w : World) (s : Shared) (a : Addr) (es : Array (Int × Value)) (I : Addr) (fp : List Addr) (L : List (Int × Value)) (St : Nat → Heap → Prop) (h : Heap) : Prop where
  walks : ∀ A : Around, A.handled = none → Walks prog w A I fp [I] es.size (Pv L) St
  st : St 0 h
  pm : L.Perm es.toList
  kp : ∀ b o, s.heap.get? b = some o → h.get? b = some o
  new : s.heap.objs.size ≤ I
  fps : ∀ b ∈ fp, b = a ∨ s.heap.objs.size ≤ b
theorem iter_set {Q : Value → Shared → Prop} (x : At s.heap a es ep t) (tb : Tb (byText w) t) (hz : es.size ≤ sizeLine)
    (h : ∀ I fp L St h₁ d, Walk prog w s a es I fp L St h₁ → Q (.ref I) { s with heap := h₁, drawn := d }) : wpAny (model prog w) A (pyIter (.ref a)) Q E s := by
  obtain ⟨o, ho, hc, hd⟩ := x.ex
  have hT : s.TypeIs (.ref a) "set" := ⟨o, ho, hc.1⟩
  have hlt : a < s.heap.objs.size := Heap.lt_size ho
  refine wpAny_pyIter_slot hT PySem.F.slot_set_iter (wpAny_call_entry PySem.F.slot_set_iter hT entry_iter ?_ (PySem.F.args_set_iter_1 _))
  unfold Builtin.«frozenset.__iter__»
  refine wpAny_bind ?_
  unfold Builtin.Frozenset.slot0
  refine wpAny_bind (wpAny_pure ?_)
  show wpAny _ _ (pure a) _ _ s
  refine wpAny_pure ?_
  refine wpAny_bind ?_
  unfold Builtin.Frozenset.sizeOf
  refine wpAny_bind (wpAny_setEntries_of ho hd x.fit (wpAny_pure ?_))
  refine wpAny_bind ?_
  unfold setDrawn setsByText
  refine wpAny_bind (wpAny_setState_of ho hd x.fit ?_)
  dsimp only
  refine wpAny_bind (wpAny_bind (wpAny_askSetting (wpAny_pure ?_)))
  refine wpAny_pure ?_
  refine wpAny_ite_split (fun q => ?_) fun q => ?_
  · -- drawn
    refine wpAny_bind (draw_order es.size (List.range es.size) _ _ (by simp) fun ps d pm => ?_)
    have hl : ps.length = es.size := by rw [pm.length_eq, List.length_range]
    refine wpAny_bind (wpAny_newObj_type ?_ (by show (List.map (fun i : Nat => rawInt i) ps).toArray.size ≤ sizeLine; rw [List.size_toArray, List.length_map, hl]; exact hz))
    refine wpAny_bind (wpAny_setEpoch_of (Heap.get?_push_of_some _ ho) hd x.fit ?_)
    refine wpAny_bind (wpAny_newObj_type (wpAny_pure ⟨_, rfl, "set_iterator", _, ⟨_, Heap.get?_push_size _ rfl, rfl⟩, slot_next.lookup, ?_⟩))
    have e1 : (s.heap.push (sTup ps)).objs.size = s.heap.objs.size + 1 := Heap.size_push ..
    have ne : a ≠ (s.heap.push (sTup ps)).objs.size := by rw [e1]; exact Nat.ne_of_lt (Nat.lt_succ_of_lt hlt)
    have neT : s.heap.objs.size ≠ (s.heap.push (sTup ps)).objs.size := by omega
    have x' : At ((s.heap.push (sTup ps)).push (sIt (.ref s.heap.objs.size) a 0 es.size ep)) a es ep t := x.keep fun o e => Heap.get?_push_of_some _ (Heap.get?_push_of_some _ e)
    refine h (s.heap.push (sTup ps)).objs.size [(s.heap.push (sTup ps)).objs.size, a, s.heap.objs.size] _ _ _ d ⟨fun A' hh => walks_drawn hh ne neT pm rfl, ⟨Heap.get?_push_size _ rfl, Heap.get?_push_of_some _ (Heap.get?_push_size _ rfl), x'⟩, ?_, fun b o e => Heap.get?_push_of_some _ (Heap.get?_push_of_some _ e), by omega, fun b hb => ?_⟩
    · exact (pm.filterMap _).trans (by rw [filterMap_getElem?_range])
    · simp only [List.mem_cons, List.not_mem_nil, or_false] at hb
      rcases hb with rfl | rfl | rfl
      · exact .inr (by omega)
      · exact .inl rfl
      · exact .inr (Nat.le_refl _)
  · refine wpAny_bind (wpAny_pure ?_)
    refine wpAny_bind (wpAny_setEpoch_of ho hd x.fit ?_)
    refine wpAny_bind (wpAny_newObj_type (wpAny_pure ⟨_, rfl, "set_iterator", _, ⟨_, Heap.get?_push_size _ rfl, rfl⟩, slot_next.lookup, ?_⟩))
    have ne : a ≠ s.heap.objs.size := Nat.ne_of_lt hlt
    have x' : At (s.heap.push (sIt (.int ((0 : Nat) : Int) 0) a 0 es.size ep)) a es ep t := x.keep fun o e => Heap.get?_push_of_some _ e
    have fps : ∀ b ∈ [s.heap.objs.size, a], b = a ∨ s.heap.objs.size ≤ b := fun b hb => by
      simp at hb
      rcases hb with rfl | rfl
      · exact .inr (Nat.le_refl _)
      · exact .inl rfl
    cases hb : byText w with
    | true =>
      exact h s.heap.objs.size [s.heap.objs.size, a] _ _ _ s.drawn ⟨fun A' hh => walks_text hh ne hb rfl, ⟨Heap.get?_push_size _ rfl, x'⟩, pick_perm _ _, fun b o e => Heap.get?_push_of_some _ e, Nat.le_refl _, fps⟩
    | false =>
      have hp : (!t.plain && decide (es.size > 1)) = false := by
        cases hq : (!t.plain && decide (es.size > 1)) with
        | false => rfl
        | true =>
          refine absurd ?_ q
          show (!byText w && (!t.plain && decide (es.size > 1))) = true
          rw [hb, hq]
          rfl
      rw [hb] at tb
      exact h s.heap.objs.size [s.heap.objs.size, a] _ _ _ s.drawn ⟨fun A' hh => walks_place hh ne hb (tb.led rfl) tb.up hp x.fit rfl, ⟨0, Heap.get?_push_size _ rfl, below_zero tb.up, x'⟩, .refl _, fun b o e => Heap.get?_push_of_some _ e, Nat.le_refl _, fps⟩
end
end Ls
set_option linter.all false
set_option maxRecDepth 100000
namespace Ls
open PySem PySem.Spec
section
variable {prog : Program} {w : World} {A : Around} {E : Value → Shared → Prop} {s : Shared} {a : Addr} {ep : Nat} {es : Array (Int × Value)} {t : SetTable}
theorem hint_set {Q : Bool → Shared → Prop} (hT : s.TypeIs (.ref a) "set") (h : Q false s) : wpAny (model prog w) A (Builtin.List.listLengthHint (.ref a)) Q E s := by
  unfold Builtin.List.listLengthHint
  refine wpAny_bind (wpAny_specialOf hT PySem.F.slot_set_len.lookup ?_)
  generalize hid : ("set.__len__" : String) = id0
  wp_delta
  rw [show splitId id0 = some ("set", "__len__") from by subst hid; decide +kernel]
  subst hid
  refine wpAny_bind (wpAny_isInstance (T := "set") (b := true) hT (by rw [isSubtype_type]; kernel_rfl) ?_)
  refine wpAny_ite_split (fun z => absurd z (by decide)) (fun _ => ?_)
  refine wpAny_ite_split (fun _ => ?_) (fun z => absurd (by decide +kernel) z)
  exact wpAny_bind (wpAny_typeOf hT (wpAny_pure h))
theorem collect_set {R : List Value → Shared → Prop} (hh : A.handled = none) (x : At s.heap a es ep t) (tb : Tb (byText w) t) (hz : es.size ≤ sizeLine)
    (h : ∀ (h' : Heap) (tk : Nat) (d : Drawn) (vs : List Value), (∀ b o, s.heap.get? b = some o → h'.get? b = some o) → vs.Perm (es.toList.map (·.2)) → R vs { s with heap := h', toks := tk, drawn := d }) :
    wpAny (model prog w) A (collect (.ref a)) R E s := by
  obtain ⟨o, ho, hc, hd⟩ := x.ex
  have hlt : a < s.heap.objs.size := Heap.lt_size ho
  have hT : s.TypeIs (.ref a) "set" := ⟨o, ho, hc.1⟩
  have hS : (s.heap.push { cls := .type "list", data := .seq ([] : List Value).toArray }).get? s.heap.objs.size = some { cls := .type "list", data := .seq #[] } := Heap.get?_push_size _ rfl
  have neS : s.heap.objs.size ≠ a := Nat.ne_of_gt hlt
  have fin : ∀ (A' : Around) (I : Addr) (fp : List Addr) (L : List (Int × Value)) (St : Nat → Heap → Prop) (h₁ h₂ : Heap) (d : Drawn) (c : Nat) (R' : Result → Shared → Prop),
      A'.handled = none → Walk prog w { s with heap := s.heap.push { cls := .type "list", data := .seq ([] : List Value).toArray } } a es I fp L St h₁ → St 0 h₂ → (∀ b o, s.heap.get? b = some o → h₂.get? b = some o) →
      h₂.get? s.heap.objs.size = some { cls := .type "list", data := .seq #[] c } →
      (∀ (h' : Heap) (tk : Nat) (vs : Array Value) (c' : Nat), (∀ b o, s.heap.get? b = some o → h'.get? b = some o) → h'.get? s.heap.objs.size = some { cls := .type "list", data := .seq vs c' } → vs.toList.Perm (es.toList.map (·.2)) →
        R' (.ok (.ret (.ref s.heap.objs.size))) { s with heap := h', toks := tk, drawn := d }) →
      codeAny (model prog w) A' (.builtin "list.extend.loop" ⟨[.ref s.heap.objs.size, .ref I, .ref s.heap.objs.size], []⟩) R' { s with heap := h₂, drawn := d } := by
    intro A' I fp L St h₁ h₂ d c R' hh' W st2 kp2 hS2 hR'
    have sz1 : (s.heap.push { cls := .type "list", data := .seq ([] : List Value).toArray }).objs.size = s.heap.objs.size + 1 := Heap.size_push ..
    have out : s.heap.objs.size ∉ fp := fun hm => by
      rcases W.fps _ hm with e | e
      · exact neS e
      · have e' : (s.heap.push { cls := .type "list", data := .seq ([] : List Value).toArray }).objs.size ≤ s.heap.objs.size := e
        rw [sz1] at e'
        exact absurd e' (Nat.not_succ_le_self _)
    have newI : s.heap.objs.size < I := by
      have e' : (s.heap.push { cls := .type "list", data := .seq ([] : List Value).toArray }).objs.size ≤ I := W.new
      rw [sz1] at e'
      exact e'
    refine codeAny_extend_loopS ((W.walks A'.in1 (by simpa using hh')).toS) hz s.heap.objs.size out (.ref s.heap.objs.size) es.size 0 _ #[] c rfl (Nat.zero_le _) st2 hS2 (ItemsOf.nil _) fun s' acc' c' mv hS' hacc => ?_
    obtain ⟨h3, g3, d3, tk3, os3⟩ := s'
    have eg : g3 = s.gens := mv.gens
    have ed : d3 = d := mv.drawn
    have eo : os3 = s.os := mv.os
    subst eg; subst ed; subst eo
    refine hR' h3 tk3 acc' c' (fun b o e => ?_) hS' ?_
    · refine mv.heap b o (fun hm => ?_) (kp2 b o e)
      have lb := Heap.lt_size e
      rcases List.mem_cons.mp hm with e' | e'
      · rw [e'] at lb
        exact Nat.lt_irrefl _ lb
      · rw [List.mem_singleton.mp e'] at lb
        exact absurd (Nat.lt_trans lb newI) (Nat.lt_irrefl _)
    · have e1 : acc'.toList = L.map (·.2) := by
        refine List.ext_getElem? fun j => ?_
        have hl : L.length = es.size := by
          have := W.pm.length_eq
          simpa using this
        by_cases hj : j < es.size
        · have hj' : j < acc'.size := by rw [hacc.1]; exact hj
          have ej : acc'.toList[j]? = some acc'[j] := by rw [Array.getElem?_toList, Array.getElem?_eq_getElem hj']
          obtain ⟨e, he, hv⟩ := hacc.2 j acc'[j] (Array.getElem?_eq_getElem hj')
          rw [ej, List.getElem?_map, he]
          exact congrArg some hv.symm
        · rw [List.getElem?_eq_none_iff.mpr (by rw [Array.length_toList, hacc.1]; omega), List.getElem?_eq_none_iff.mpr (by rw [List.length_map]; omega)]
      rw [e1]
      exact W.pm.map _
  unfold collect
  refine wpAny_bind (wpAny_runValue (codeAny_builtin PySem.F.entry_proto_collect ?_))
  rw [Around.under_plainId PySem.F.plain_proto_collect _]
  show wpAny _ A.in1 (newList [] >>= fun l => again (.builtin "list.__iadd__" ⟨[l, .ref a], []⟩)) _ _ s
  refine wpAny_bind (wpAny_newObj_type ?_)
  refine wpAny_pure ⟨plainId_quiet PySem.F.plain_list_iadd _, codeAny_builtin PySem.F.entry_list_iadd ?_⟩
  rw [Around.under_plainId PySem.F.plain_list_iadd _]
  show wpAny _ A.in1 (Builtin.List.listExtendWith (.ref s.heap.objs.size) (.ref a) (.ref s.heap.objs.size)) _ _ _
  unfold Builtin.List.listExtendWith
  have hT1 : Shared.TypeIs { s with heap := s.heap.push { cls := .type "list", data := .seq ([] : List Value).toArray } } (.ref a) "set" := ⟨o, Heap.get?_push_of_some _ ho, hc.1⟩
  refine wpAny_bind (wpAny_typeOf hT1 ?_)
  have h1 : Builtin.List.listSameRef (.ref s.heap.objs.size) (.ref a) = false := by simp [Builtin.List.listSameRef, neS]
  simp only [h1, show (Value.type "set" == Value.type "list") = false by decide, show (Value.type "set" == Value.type "tuple") = false by decide, Bool.or_false, Bool.false_eq_true, if_false]
  have x1 : At (s.heap.push { cls := .type "list", data := .seq ([] : List Value).toArray }) a es ep t := x.keep fun o e => Heap.get?_push_of_some _ e
  refine wpAny_bind (iter_set (s := { s with heap := s.heap.push { cls := .type "list", data := .seq ([] : List Value).toArray } }) x1 tb hz fun I fp L St h₁ d W => ?_)
  have kp1 : ∀ b o, s.heap.get? b = some o → h₁.get? b = some o := fun b o e => W.kp b o (Heap.get?_push_of_some _ e)
  have hS1 : h₁.get? s.heap.objs.size = some { cls := .type "list", data := .seq #[] } := W.kp _ _ hS
  refine wpAny_bind (wpAny_holding (hint_set (s := { s with heap := h₁, drawn := d }) ⟨o, kp1 _ _ ho, hc.1⟩ ?_))
  refine wpAny_ite_split (fun _ => ?_) (fun _ => ?_)
  · refine wpAny_bind (wpAny_rule ?_)
    refine wpAny_bind ?_
    show wpAny _ _ (updateSeq s.heap.objs.size (·.push .none) >>= fun _ => updateSeq s.heap.objs.size (·.pop)) _ _ _
    refine wpAny_bind (wpAny_updateSeq hS1 rfl ?_)
    have hS2 := Heap.get?_update_self (Obj.mapSeq (·.push Value.none)) hS1 rfl
    refine wpAny_updateSeq (hz := by seq_fits) hS2 rfl ?_
    have hS3 := Heap.get?_update_self (Obj.mapSeq (·.pop)) hS2 rfl
    refine wpAny_pure ⟨plainId_quiet PySem.F.plain_extend_loop _, ?_⟩
    have sz1 : (s.heap.push { cls := .type "list", data := .seq ([] : List Value).toArray }).objs.size = s.heap.objs.size + 1 := Heap.size_push ..
    refine fin A I fp L St h₁ _ d _ _ hh W ((W.walks A hh).frame 0 _ _ W.st fun b hb o e => ?_) (fun b o e => ?_) hS3 fun h' tk vs c' kp hS' pm => ?_
    · have nb : s.heap.objs.size ≠ b := fun q => by
        rcases W.fps _ hb with z | z
        · exact neS (q.trans z)
        · have z' : (s.heap.push { cls := .type "list", data := .seq ([] : List Value).toArray }).objs.size ≤ b := z
          rw [sz1, ← q] at z'
          exact absurd z' (Nat.not_succ_le_self _)
      exact (Heap.get?_update_other _ _ nb).trans ((Heap.get?_update_other _ _ nb).trans e)
    · have nb : s.heap.objs.size ≠ b := Nat.ne_of_gt (Heap.lt_size e)
      exact (Heap.get?_update_other _ _ nb).trans ((Heap.get?_update_other _ _ nb).trans (kp1 b o e))
    · exact wpAny_bind (wpAny_load hS' (wpAny_pure (h h' tk d vs.toList kp pm)))
  · refine wpAny_pure ⟨plainId_quiet PySem.F.plain_extend_loop _, ?_⟩
    refine fin A I fp L St h₁ h₁ d _ _ hh W W.st kp1 hS1 fun h' tk vs c' kp hS' pm => ?_
    exact wpAny_bind (wpAny_load hS' (wpAny_pure (h h' tk d vs.toList kp pm)))
theorem sorted_of {Q : Value → Shared → Prop} {r : Value} {ms : List Int}
    (hc : ∀ (R : List Value → Shared → Prop), (∀ (h' : Heap) (tk : Nat) (d : Drawn) (vs : List Value) (ns : List Int), (∀ b o, s.heap.get? b = some o → h'.get? b = some o) → PyProof.Rows.IntsAre vs ns → ns.Perm ms → R vs { s with heap := h', toks := tk, drawn := d }) → wpAny (model prog w) A.in1 (collect r) R E s)
    (hz : ms.length ≤ sizeLine)
    (h : ∀ (h₁ : Heap) (D : Addr) (h' : Heap) (tk : Nat) (d : Drawn) (vs : List Value) (ns : List Int) (c : Nat), (∀ b o, s.heap.get? b = some o → h₁.get? b = some o) → h₁.objs.size ≤ D → (∀ b o, h₁.get? b = some o → h'.get? b = some o) → h'.get? D = some { cls := .type "list", data := .seq vs.toArray c } →
      PyProof.Rows.IntsAre vs ns → ns.Perm ms → ns.Pairwise (· ≤ ·) → Q (.ref D) { s with heap := h', toks := tk, drawn := d }) :
    wpAny (model prog w) A (call (.builtin "sorted") [r]) Q E s := by
  refine Calls.call_function_entry PyProof.Rows.kind_sorted PyProof.Rows.plain_sorted PyProof.Rows.entry_sorted (PyProof.Rows.args_sorted1 _) ?_
  unfold Builtin.«sorted»
  refine wpAny_bind (m := checkCount "sorted" 1 1 _) (wpAny_pure ?_)
  refine wpAny_bind (hc _ fun h' tk d vs ns kp hi pm => ?_)
  have hl : vs.length = ms.length := by rw [hi.length, pm.length_eq]
  refine wpAny_bind (wpAny_newList ?_ (by rw [hl]; exact hz))
  have hD : (h'.push { cls := .type "list", data := .seq vs.toArray }).get? h'.objs.size = some { cls := .type "list", data := .seq vs.toArray } := Heap.get?_push_size _ rfl
  refine wpAny_bind (wpAny_holding (wpAny_call_entry PyProof.Rows.slot_list_sort ⟨_, hD, rfl⟩ PyProof.Rows.entry_list_sort (PyProof.Rows.list_sort_treeAny (s := { s with heap := h'.push { cls := .type "list", data := .seq vs.toArray }, toks := tk, drawn := d }) hD hi (by rw [hl]; exact hz) fun out ns' a1 a2 a3 => ⟨_, rfl, ?_⟩) (PyProof.Rows.args_list_sort _)))
  refine wpAny_pure ⟨_, rfl, ?_⟩
  obtain ⟨c, hc'⟩ := PyProof.Rows.sortedHeap_at (vs := vs) (out := out) hD
  have e1 : (h'.push { cls := .type "list", data := .seq vs.toArray }).objs.size = h'.objs.size + 1 := Heap.size_push ..
  refine h h' h'.objs.size _ tk d out.toList ns' c kp (Nat.le_refl _) (fun b o hb => ?_) (by simpa using hc') a1 (a2.trans pm) a3
  have lb : b < h'.objs.size := Heap.lt_size hb
  rw [PyProof.Rows.sortedHeap_old (Nat.ne_of_lt lb) (by rw [e1]; exact Nat.lt_succ_of_lt lb)]
  exact Heap.get?_push_of_some _ hb
theorem keys_of {l : List (Int × Value)} (el : ElemsOf (PySem.intKind prog w) l) : ∃ ms : List Int, PyProof.Rows.IntsAre (l.map (·.2)) ms ∧ ∀ k, k ∈ ms ↔ ∃ e ∈ l, (PySem.intKind prog w).is k e.2 = true := by
  induction l with
  | nil => exact ⟨[], .nil, fun k => by simp⟩
  | cons e l ih =>
    obtain ⟨ms, h1, h2⟩ := ih el.tail
    obtain ⟨⟨k, hk, _⟩, _⟩ := el.head
    obtain ⟨t, ht⟩ := Value.isInt_shape hk
    refine ⟨k :: ms, ?_, fun k' => ?_⟩
    · rw [List.map_cons, ht]
      exact .cons k t h1
    · rw [List.mem_cons, h2]
      constructor
      · rintro (rfl | ⟨e', he', q⟩)
        · exact ⟨e, by simp, hk⟩
        · exact ⟨e', List.mem_cons_of_mem _ he', q⟩
      · rintro ⟨e', he', q⟩
        rcases List.mem_cons.mp he' with rfl | he'
        · exact .inl ((PySem.intKind prog w).inj _ _ _ q hk)
        · exact .inr ⟨e', he', q⟩
theorem intsAre_perm : ∀ {vs us : List Value} {ns : List Int}, vs.Perm us → PyProof.Rows.IntsAre us ns → ∃ ms, PyProof.Rows.IntsAre vs ms ∧ ms.Perm ns := by
  intro vs us ns pm
  induction pm generalizing ns with
  | nil => intro h; exact ⟨ns, h, .refl _⟩
  | cons x _ ih =>
    intro h
    cases h with
    | cons n t h =>
      obtain ⟨ms, h1, h2⟩ := ih h
      exact ⟨n :: ms, .cons n t h1, h2.cons n⟩
  | swap x y l =>
    intro h
    cases h with
    | cons n t h =>
      cases h with
      | cons m u h => exact ⟨m :: n :: _, .cons m u (.cons n t h), .swap ..⟩
  | trans _ _ ih1 ih2 =>
    intro h
    obtain ⟨ms, h1, h2⟩ := ih2 h
    obtain ⟨ms', h3, h4⟩ := ih1 h1
    exact ⟨ms', h3, h4.trans h2⟩
theorem perm_of_sub : ∀ {l m : List Int}, l.Nodup → l ⊆ m → m.length ≤ l.length → m.Perm l
  | [], m, _, _, hl => by rw [List.eq_nil_of_length_eq_zero (Nat.le_zero.mp hl)]
  | y :: l, m, nd, sub, hl => by
    obtain ⟨n1, n2⟩ := List.nodup_cons.mp nd
    have hy : y ∈ m := sub (by simp)
    have p1 := List.perm_cons_erase hy
    refine p1.trans (List.Perm.cons y (perm_of_sub n2 (fun z hz' => ?_) ?_))
    · rcases List.mem_cons.mp (p1.mem_iff.mp (sub (List.mem_cons_of_mem _ hz'))) with e | e
      · exact absurd (e ▸ hz') n1
      · exact e
    · rw [List.length_erase_of_mem hy]
      simp at hl
      omega
theorem sorted_set {Q : Value → Shared → Prop} {S : Int → Bool} {n : Nat} {ks : List Int} (hh : A.handled = none) (x : SetT prog w s.heap a S n) (hk : ks.Nodup) (hkn : ks.length = n) (hS : ∀ k, S k = true ↔ k ∈ ks)
    (h : ∀ (h₁ : Heap) (D : Addr) (h' : Heap) (tk : Nat) (d : Drawn) (vs : List Value) (ns : List Int) (c : Nat), (∀ b o, s.heap.get? b = some o → h₁.get? b = some o) → h₁.objs.size ≤ D → (∀ b o, h₁.get? b = some o → h'.get? b = some o) → h'.get? D = some { cls := .type "list", data := .seq vs.toArray c } →
      PyProof.Rows.IntsAre vs ns → ns.Perm ks → ns.Pairwise (· ≤ ·) → Q (.ref D) { s with heap := h', toks := tk, drawn := d }) :
    wpAny (model prog w) A (call (.builtin "sorted") [.ref a]) Q E s := by
  obtain ⟨o, es, ep, t, ⟨ho, hc, hd⟩, el, hm, hb, hf, hn, tb⟩ := x
  obtain ⟨ms, h1, h2⟩ := keys_of el
  have hz : es.size ≤ sizeLine := fits_of_scanBound hb
  have hl : ms.length = es.size := by
    have := h1.length
    simpa using this.symm
  have sub : ks ⊆ ms := fun k hk' => (h2 k).mpr ((hm k).mp ((hS k).mpr hk'))
  have pm : ms.Perm ks := perm_of_sub hk sub (by omega)
  refine sorted_of (ms := ms) (fun R hR => collect_set (A := A.in1) (by simpa using hh) ⟨⟨o, ho, hc, hd⟩, hf⟩ tb hz fun h' tk d vs kp pv => ?_) (by rw [hl]; exact hz) fun h1 D h' tk d vs ns c kp lt0 kp2 e hi p1 p2 => h h1 D h' tk d vs ns c kp lt0 kp2 e hi (p1.trans pm) p2
  obtain ⟨ns, q1, q2⟩ := intsAre_perm pv h1
  exact hR h' tk d vs ns kp q1 q2
end
end Ls
set_option linter.unusedVariables false
namespace Mx
open Kh292
theorem nodup_dups {α : Type} [BEq α] [LawfulBEq α] : ∀ (n : Nat) (l : List α), l.length ≤ n → l.eraseDups.Nodup
  | _, [], _ => by simp
  | 0, _ :: _, h => by simp at h
  | n + 1, a :: l, h => by
    rw [List.eraseDups_cons]
    refine List.nodup_cons.mpr ⟨?_, nodup_dups n _ ?_⟩
    · rw [List.mem_eraseDups, List.mem_filter]
      simp
    · exact Nat.le_trans (List.length_filter_le _ _) (by simpa using h)
theorem nodup_eraseDups {α : Type} [BEq α] [LawfulBEq α] (l : List α) : l.eraseDups.Nodup := nodup_dups l.length l (Nat.le_refl _)
theorem rising_unique : ∀ {l m : List Int}, l.Pairwise (· < ·) → m.Pairwise (· < ·) → (∀ x, x ∈ l ↔ x ∈ m) → l = m
  | [], [], _, _, _ => rfl
  | [], b :: m, _, _, h => by have := (h b).mpr (by simp); simp at this
  | a :: l, [], _, _, h => by have := (h a).mp (by simp); simp at this
  | a :: l, b :: m, hl, hm, h => by
    obtain ⟨ha, hl'⟩ := List.pairwise_cons.mp hl
    obtain ⟨hb, hm'⟩ := List.pairwise_cons.mp hm
    have e : a = b := by
      have h1 := (h a).mp (by simp)
      have h2 := (h b).mpr (by simp)
      rcases List.mem_cons.mp h1 with e | e
      · exact e
      · rcases List.mem_cons.mp h2 with e2 | e2
        · exact e2.symm
        · have := hb a e
          have := ha b e2
          omega
    subst e
    congr 1
    refine rising_unique hl' hm' fun x => ⟨fun hx => ?_, fun hx => ?_⟩
    · have := ha x hx
      rcases List.mem_cons.mp ((h x).mp (List.mem_cons_of_mem _ hx)) with e | e
      · omega
      · exact e
    · have := hb x hx
      rcases List.mem_cons.mp ((h x).mpr (List.mem_cons_of_mem _ hx)) with e | e
      · omega
      · exact e
theorem rising_of : ∀ {l : List Int}, l.Pairwise (· ≤ ·) → l.Nodup → l.Pairwise (· < ·)
  | [], _, _ => .nil
  | a :: l, h, n => by
    obtain ⟨h1, h2⟩ := List.pairwise_cons.mp h
    obtain ⟨n1, n2⟩ := List.nodup_cons.mp n
    refine List.pairwise_cons.mpr ⟨fun b hb => ?_, rising_of h2 n2⟩
    have := h1 b hb
    have : a ≠ b := fun e => n1 (e ▸ hb)
    omega
theorem rising_nodup {l : List Int} (h : l.Pairwise (· < ·)) : l.Nodup := h.imp (fun {a b} h => by omega)
def stepsOf (s : Script) (c : Nat) : Option Nat → List (Option Nat)
  | some q => if takesPart s c q then [] else (at_ s q).ways.map Prod.snd
  | none => []
inductive Reach (s : Script) (c : Nat) : Option Nat → Option Nat → Prop where
  | refl (x : Option Nat) : Reach s c x x
  | tail {x y z : Option Nat} : Reach s c x y → z ∈ stepsOf s c y → Reach s c x z
theorem Reach.trans {s : Script} {c : Nat} {x y z : Option Nat} (a : Reach s c x y) (b : Reach s c y z) : Reach s c x z := by
  induction b with
  | refl => exact a
  | tail _ h ih => exact .tail ih h
theorem Reach.head {s : Script} {c : Nat} {x y z : Option Nat} (h : y ∈ stepsOf s c x) (b : Reach s c y z) : Reach s c x z := (Reach.tail (.refl x) h).trans b
theorem Reach.of_none {s : Script} {c : Nat} {x : Option Nat} (h : Reach s c none x) : x = none := by
  induction h with
  | refl => rfl
  | tail _ h ih => subst ih; simp [stepsOf] at h
theorem Reach.of_own {s : Script} {c q : Nat} {x : Option Nat} (t : takesPart s c q = true) (h : Reach s c (some q) x) : x = some q := by
  induction h with
  | refl => rfl
  | tail _ h ih => subst ih; simp [stepsOf, t] at h
def Valid (s : Script) (x : Option Nat) : Prop := ∀ q, x = some q → q < s.places.length
def Sound (s : Script) : Prop := ∀ q x, x ∈ (at_ s q).ways.map Prod.snd → Valid s x
theorem at_out {s : Script} {q : Nat} (h : s.places.length ≤ q) : at_ s q = ⟨0, 0, []⟩ := by
  unfold at_
  rw [List.getD_eq_getElem?_getD, List.getElem?_eq_none_iff.mpr h]
  rfl
theorem at_in {s : Script} {q : Nat} (h : q < s.places.length) : at_ s q = s.places[q] := by
  unfold at_
  rw [List.getD_eq_getElem?_getD, List.getElem?_eq_getElem h]
  rfl
theorem sound_of {s : Script} (h : okScript s = true) : Sound s := by
  intro q x hx
  by_cases hq : q < s.places.length
  · unfold okScript at h
    simp only [Bool.and_eq_true, decide_eq_true_eq, List.all_eq_true] at h
    have h1 := h.2.2.2.2 _ (List.getElem_mem hq)
    unfold okPlace at h1
    simp only [Bool.and_eq_true, decide_eq_true_eq, List.all_eq_true] at h1
    rw [at_in hq] at hx
    obtain ⟨v, hv, rfl⟩ := List.mem_map.mp hx
    have h2 := (h1.2.2.2.2.2.2 v hv).2
    intro q' e
    rw [e] at h2
    simpa using h2
  · rw [at_out (by omega)] at hx
    simp at hx
theorem steps_valid {s : Script} (h : Sound s) {c : Nat} {x y : Option Nat} (hy : y ∈ stepsOf s c x) : Valid s y := by
  cases x with
  | none => simp [stepsOf] at hy
  | some q =>
    have hy' : y ∈ (if takesPart s c q then [] else (at_ s q).ways.map Prod.snd) := hy
    split at hy'
    · simp at hy'
    · exact h q y hy'
theorem reach_valid {s : Script} (h : Sound s) {c : Nat} {x y : Option Nat} (r : Reach s c x y) (hx : Valid s x) : Valid s y := by
  cases r with
  | refl => exact hx
  | tail _ h2 => exact steps_valid h h2
def grow (s : Script) (c : Nat) (l : List (Option Nat)) : List (Option Nat) := (l ++ l.flatMap (stepsOf s c)).eraseDups
theorem spread_succ (s : Script) (c f : Nat) (l : List (Option Nat)) : spread s c (f + 1) l = spread s c f (grow s c l) := by
  unfold grow
  rw [spread]
  congr 4
theorem mem_grow {s : Script} {c : Nat} {l : List (Option Nat)} {x : Option Nat} : x ∈ grow s c l ↔ x ∈ l ∨ ∃ y ∈ l, x ∈ stepsOf s c y := by
  unfold grow
  rw [List.mem_eraseDups, List.mem_append, List.mem_flatMap]
def Closed (s : Script) (c : Nat) (l : List (Option Nat)) : Prop := ∀ x ∈ l, ∀ y ∈ stepsOf s c x, y ∈ l
theorem closed_mem {s : Script} {c : Nat} : ∀ (f : Nat) (l : List (Option Nat)), Closed s c l → ∀ x, x ∈ spread s c f l ↔ x ∈ l
  | 0, l, _, x => Iff.rfl
  | f + 1, l, h, x => by
    have e : ∀ y, y ∈ grow s c l ↔ y ∈ l := fun y => by
      rw [mem_grow]
      exact ⟨fun q => q.elim id fun ⟨z, hz, hy⟩ => h z hz y hy, .inl⟩
    have hc : Closed s c (grow s c l) := fun a ha b hb => (e b).mpr (h a ((e a).mp ha) b hb)
    rw [spread_succ, closed_mem f _ hc, e]
theorem closed_of_iff {s : Script} {c : Nat} {l m : List (Option Nat)} (h : Closed s c l) (e : ∀ x, x ∈ m ↔ x ∈ l) : Closed s c m :=
  fun a ha b hb => (e b).mpr (h a ((e a).mp ha) b hb)
def univ (s : Script) : List (Option Nat) := none :: (List.range s.places.length).map some
theorem mem_univ {s : Script} {x : Option Nat} : x ∈ univ s ↔ Valid s x := by
  unfold univ Valid
  cases x with
  | none => simp
  | some q => simp
theorem univ_len (s : Script) : (univ s).length = s.places.length + 1 := by unfold univ; simp
theorem spread_closed {s : Script} (hs : Sound s) (c : Nat) : ∀ (f : Nat) (l : List (Option Nat)), l.Nodup → (∀ x ∈ l, Valid s x) → s.places.length + 1 ≤ l.length + f → Closed s c (spread s c f l)
  | 0, l, hn, hv, hl => by
    intro a ha b hb
    have vb := steps_valid hs hb
    show b ∈ l
    refine Classical.byContradiction fun nb => ?_
    have : (b :: l).length ≤ (univ s).length := List.Nodup.length_le_of_subset (List.nodup_cons.mpr ⟨nb, hn⟩) (fun x hx => by
      rcases List.mem_cons.mp hx with e | e
      · rw [e]; exact mem_univ.mpr vb
      · exact mem_univ.mpr (hv x e))
    rw [univ_len] at this
    simp at this
    omega
  | f + 1, l, hn, hv, hl => by
    by_cases hc : Closed s c l
    · exact closed_of_iff hc (closed_mem (f + 1) l hc)
    · rw [spread_succ]
      refine spread_closed hs c f _ (nodup_eraseDups _) (fun x hx => ?_) ?_
      · rcases mem_grow.mp hx with e | ⟨y, _, e⟩
        · exact hv x e
        · exact steps_valid hs e
      · have : ∃ a ∈ l, ∃ b ∈ stepsOf s c a, b ∉ l := by
          refine Classical.byContradiction fun q => hc fun a ha b hb => Classical.byContradiction fun nb => q ⟨a, ha, b, hb, nb⟩
        obtain ⟨a, ha, b, hb, nb⟩ := this
        have : (b :: l).length ≤ (grow s c l).length := List.Nodup.length_le_of_subset (List.nodup_cons.mpr ⟨nb, hn⟩) (fun x hx => by
          rcases List.mem_cons.mp hx with e | e
          · rw [e]; exact mem_grow.mpr (.inr ⟨a, ha, hb⟩)
          · exact mem_grow.mpr (.inl e))
        simp at this
        omega
theorem spread_sub {s : Script} {c : Nat} : ∀ (f : Nat) (l : List (Option Nat)) (x : Option Nat), x ∈ l → x ∈ spread s c f l
  | 0, _, _, h => h
  | f + 1, l, x, h => by
    rw [spread_succ]
    exact spread_sub f _ x (mem_grow.mpr (.inl h))
theorem spread_reach {s : Script} {c : Nat} : ∀ (f : Nat) (l : List (Option Nat)) (x : Option Nat), x ∈ spread s c f l → ∃ y ∈ l, Reach s c y x
  | 0, _, x, h => ⟨x, h, .refl x⟩
  | f + 1, l, x, h => by
    rw [spread_succ] at h
    obtain ⟨y, hy, r⟩ := spread_reach f _ x h
    rcases mem_grow.mp hy with e | ⟨z, hz, e⟩
    · exact ⟨y, e, r⟩
    · exact ⟨z, hz, r.head e⟩
theorem mem_spread {s : Script} (hs : Sound s) {c : Nat} {l : List (Option Nat)} (hn : l.Nodup) (hv : ∀ x ∈ l, Valid s x) (x : Option Nat) :
    x ∈ spread s c s.places.length l ↔ ∃ y ∈ l, Reach s c y x := by
  refine ⟨spread_reach _ l x, ?_⟩
  rintro ⟨y, hy, r⟩
  have hc : Closed s c (spread s c s.places.length l) := spread_closed hs c _ l hn hv (by
    cases l with
    | nil => simp at hy
    | cons a l => simp; omega)
  clear hv
  induction r with
  | refl => exact spread_sub _ _ _ hy
  | tail _ h ih => exact hc _ ih _ h
def Never (s : Script) (c q : Nat) : Prop := ¬ Reach s c (some q) none ∧ ∀ t, t < s.places.length → takesPart s c t = true → ¬ Reach s c (some q) (some t)
theorem contains_iff {x : Option Nat} {l : List (Option Nat)} : l.contains x = true ↔ x ∈ l := List.contains_iff_mem
theorem never_iff {s : Script} (hs : Sound s) {c q : Nat} (hq : q < s.places.length) : never s c q = true ↔ Never s c q := by
  have m := fun x => mem_spread hs (c := c) (l := [some q]) (by simp) (fun x hx => by rw [List.mem_singleton.mp hx]; intro q' e; cases e; exact hq) x
  unfold never Never
  simp only [Bool.and_eq_true, Bool.not_eq_true', List.any_eq_false, List.mem_range]
  constructor
  · rintro ⟨h1, h2⟩
    refine ⟨fun r => ?_, fun t ht tp r => ?_⟩
    · have := contains_iff.mpr ((m none).mpr ⟨_, by simp, r⟩)
      rw [h1] at this; cases this
    · exact h2 t ht ⟨tp, contains_iff.mpr ((m (some t)).mpr ⟨_, by simp, r⟩)⟩
  · rintro ⟨h1, h2⟩
    refine ⟨?_, fun t ht e => ?_⟩
    · cases e : (spread s c s.places.length [some q]).contains none with
      | false => rfl
      | true =>
        obtain ⟨y, hy, r⟩ := (m none).mp (contains_iff.mp e)
        rw [List.mem_singleton.mp hy] at r
        exact (h1 r).elim
    · obtain ⟨y, hy, r⟩ := (m (some t)).mp (contains_iff.mp e.2)
      rw [List.mem_singleton.mp hy] at r
      exact h2 t ht e.1 r
theorem places_iff {s : Script} (hs : Sound s) {c : Nat} {l : List (Option Nat)} (hv : ∀ x ∈ l, Valid s x) {q : Nat} :
    q ∈ (comesTo s c l).places ↔ q < s.places.length ∧ takesPart s c q = true ∧ ∃ y ∈ l, Reach s c y (some q) := by
  have m := fun x => mem_spread hs (c := c) (l := l.eraseDups) (nodup_eraseDups l) (fun x hx => hv x (List.mem_eraseDups.mp hx)) x
  unfold comesTo
  simp only [List.mem_filter, List.mem_range, Bool.and_eq_true]
  rw [contains_iff, m]
  simp only [List.mem_eraseDups]
theorem over_iff {s : Script} (hs : Sound s) {c : Nat} {l : List (Option Nat)} (hv : ∀ x ∈ l, Valid s x) :
    (comesTo s c l).over = true ↔ ∃ y ∈ l, Reach s c y none ∨ ∃ q, q < s.places.length ∧ Reach s c y (some q) ∧ Never s c q := by
  have m := fun x => mem_spread hs (c := c) (l := l.eraseDups) (nodup_eraseDups l) (fun x hx => hv x (List.mem_eraseDups.mp hx)) x
  unfold comesTo
  simp only [Bool.or_eq_true, List.any_eq_true, List.mem_range, Bool.and_eq_true]
  rw [contains_iff, m]
  constructor
  · rintro (⟨y, hy, r⟩ | ⟨q, hq, e, hn⟩)
    · exact ⟨y, List.mem_eraseDups.mp hy, .inl r⟩
    · obtain ⟨y, hy, r⟩ := (m (some q)).mp (contains_iff.mp e)
      exact ⟨y, List.mem_eraseDups.mp hy, .inr ⟨q, hq, r, (never_iff hs hq).mp hn⟩⟩
  · rintro ⟨y, hy, r | ⟨q, hq, r, hn⟩⟩
    · exact .inl ⟨y, List.mem_eraseDups.mpr hy, r⟩
    · exact .inr ⟨q, hq, contains_iff.mpr ((m (some q)).mpr ⟨y, List.mem_eraseDups.mpr hy, r⟩), (never_iff hs hq).mpr hn⟩
theorem places_rising (s : Script) (c : Nat) (l : List (Option Nat)) : (comesTo s c l).places.Pairwise (· < ·) := by
  unfold comesTo
  exact List.Pairwise.filter _ List.pairwise_lt_range
theorem places_lt {s : Script} {c : Nat} {l : List (Option Nat)} {q : Nat} (h : q ∈ (comesTo s c l).places) : q < s.places.length := by
  unfold comesTo at h
  simp only [List.mem_filter, List.mem_range] at h
  exact h.1
theorem places_own {s : Script} {c : Nat} {l : List (Option Nat)} {q : Nat} (h : q ∈ (comesTo s c l).places) : takesPart s c q = true := by
  unfold comesTo at h
  simp only [List.mem_filter, List.mem_range, Bool.and_eq_true] at h
  exact h.2.1
def encS (x : State) : List Int := x.places.map (fun q : Nat => (q : Int)) ++ (if x.over then [255] else [])
def encO : Option Nat → Int
  | some q => q
  | none => 255
structure StOk (s : Script) (c : Nat) (x : State) : Prop where
  up : x.places.Pairwise (· < ·)
  lt : ∀ q ∈ x.places, q < s.places.length
  own : ∀ q ∈ x.places, takesPart s c q = true
theorem stOk_comes (s : Script) (c : Nat) (l : List (Option Nat)) : StOk s c (comesTo s c l) := ⟨places_rising s c l, fun _ h => places_lt h, fun _ h => places_own h⟩
theorem mem_encS {x : State} {z : Int} : z ∈ encS x ↔ (∃ q ∈ x.places, z = (q : Int)) ∨ (x.over = true ∧ z = 255) := by
  unfold encS
  rw [List.mem_append, List.mem_map]
  constructor
  · rintro (⟨q, h, e⟩ | h)
    · exact .inl ⟨q, h, e.symm⟩
    · split at h
      · rename_i ho; exact .inr ⟨ho, by simpa using h⟩
      · simp at h
  · rintro (⟨q, h, e⟩ | ⟨ho, e⟩)
    · exact .inl ⟨q, h, e.symm⟩
    · right; rw [if_pos ho]; simp [e]
theorem encS_rising {s : Script} {c : Nat} {x : State} (h : StOk s c x) (hn : s.places.length ≤ 32) : (encS x).Pairwise (· < ·) := by
  unfold encS
  refine List.pairwise_append.mpr ⟨List.Pairwise.map _ (fun a b hab => by omega) h.up, ?_, fun a ha b hb => ?_⟩
  · split <;> simp
  · obtain ⟨q, hq, rfl⟩ := List.mem_map.mp ha
    split at hb
    · have := h.lt q hq
      have : b = 255 := by simpa using hb
      omega
    · simp at hb
theorem encS_len {s : Script} {c : Nat} {x : State} (h : StOk s c x) : (encS x).length ≤ s.places.length + 1 := by
  unfold encS
  have h1 : x.places.length ≤ (List.range s.places.length).length := List.Nodup.length_le_of_subset (h.up.imp fun {a b} h => by omega) fun q hq => List.mem_range.mpr (h.lt q hq)
  rw [List.length_range] at h1
  rw [List.length_append, List.length_map]
  split <;> simp <;> omega
theorem encS_inj {s : Script} {c c' : Nat} {x y : State} (hx : StOk s c x) (hy : StOk s c' y) (hn : s.places.length ≤ 32) (e : encS x = encS y) : x = y := by
  have h1 : x.over = y.over := by
    have m : ∀ {c : Nat} {z : State}, StOk s c z → (z.over = true ↔ (255 : Int) ∈ encS z) := fun {c z} hz => by
      rw [mem_encS]
      constructor
      · exact fun h => .inr ⟨h, rfl⟩
      · rintro (⟨q, h, e⟩ | h)
        · have := hz.lt q h; omega
        · exact h.1
    have := (m hx).trans ((by rw [e] : (255 : Int) ∈ encS x ↔ (255 : Int) ∈ encS y).trans (m hy).symm)
    cases hxo : x.over <;> cases hyo : y.over <;> simp_all
  have h2 : x.places = y.places := by
    unfold encS at e
    rw [h1] at e
    have := List.append_cancel_right e
    exact (List.map_inj_right (fun a b h => by omega)).mp this
  cases x; cases y; simp_all
end Mx
set_option linter.all false
namespace Mx
open Kh292 Kh292Neutral
def wd : List Int → List Int
  | w :: _ :: l => w :: wd l
  | _ => []
def nx : List Int → List Int
  | _ :: n :: l => n :: nx l
  | _ => []
def wordsI (r : List Int) : List Int := wd (r.drop 2)
def nextsI (r : List Int) : List Int := nx (r.drop 2)
def r0 (r : List Int) : Int := r.getD 0 0
def r1 (r : List Int) : Int := r.getD 1 0
def optOf (n : Int) : Option Nat := if n = 255 then none else some n.toNat
structure RowOk (r : List Int) : Prop where
  lo : 4 ≤ r.length
  hi : r.length ≤ 10
  ev : r.length % 2 = 0
  ge : ∀ x ∈ r, 0 ≤ x
  le : ∀ x ∈ r, x ≤ 255
theorem wd_mem : ∀ {l : List Int} {x : Int}, x ∈ wd l → x ∈ l
  | [], _, h => by simp [wd] at h
  | [_], _, h => by simp [wd] at h
  | w :: n :: l, x, h => by
    rw [wd] at h
    rcases List.mem_cons.mp h with e | e
    · simp [e]
    · exact List.mem_cons_of_mem _ (List.mem_cons_of_mem _ (wd_mem e))
theorem nx_mem : ∀ {l : List Int} {x : Int}, x ∈ nx l → x ∈ l
  | [], _, h => by simp [nx] at h
  | [_], _, h => by simp [nx] at h
  | w :: n :: l, x, h => by
    rw [nx] at h
    rcases List.mem_cons.mp h with e | e
    · simp [e]
    · exact List.mem_cons_of_mem _ (List.mem_cons_of_mem _ (nx_mem e))
theorem wd_len : ∀ (l : List Int), (wd l).length = l.length / 2
  | [] => rfl
  | [_] => by simp [wd]
  | w :: n :: l => by rw [wd, List.length_cons, wd_len l]; simp; omega
theorem nx_len : ∀ (l : List Int), (nx l).length = l.length / 2
  | [] => rfl
  | [_] => by simp [nx]
  | w :: n :: l => by rw [nx, List.length_cons, nx_len l]; simp; omega
theorem wd_get : ∀ (l : List Int) (i : Nat), 2 * i + 1 < l.length → (wd l)[i]? = l[2 * i]?
  | [], i, h => by simp at h
  | [_], i, h => by simp at h
  | w :: n :: l, 0, h => rfl
  | w :: n :: l, i + 1, h => by
    rw [wd, List.getElem?_cons_succ, wd_get l i (by simp at h; omega), show 2 * (i + 1) = 2 * i + 1 + 1 by omega, List.getElem?_cons_succ, List.getElem?_cons_succ]
theorem nx_get : ∀ (l : List Int) (i : Nat), 2 * i + 1 < l.length → (nx l)[i]? = l[2 * i + 1]?
  | [], i, h => by simp at h
  | [_], i, h => by simp at h
  | w :: n :: l, 0, h => rfl
  | w :: n :: l, i + 1, h => by
    rw [nx, List.getElem?_cons_succ, nx_get l i (by simp at h; omega), show 2 * (i + 1) + 1 = 2 * i + 1 + 1 + 1 by omega, List.getElem?_cons_succ, List.getElem?_cons_succ]
theorem RowOk.wlen {r : List Int} (h : RowOk r) : (wordsI r).length = (r.length - 2) / 2 := by unfold wordsI; rw [wd_len, List.length_drop]
theorem RowOk.nlen {r : List Int} (h : RowOk r) : (nextsI r).length = (r.length - 2) / 2 := by unfold nextsI; rw [nx_len, List.length_drop]
theorem RowOk.wlen4 {r : List Int} (h : RowOk r) : (wordsI r).length ≤ 4 := by rw [h.wlen]; have := h.hi; omega
theorem RowOk.nlen4 {r : List Int} (h : RowOk r) : (nextsI r).length ≤ 4 := by rw [h.nlen]; have := h.hi; omega
theorem RowOk.wget {r : List Int} (h : RowOk r) {i : Nat} (hi : i < (wordsI r).length) : (wordsI r)[i]? = r[2 + 2 * i]? := by
  rw [h.wlen] at hi
  unfold wordsI
  rw [wd_get _ _ (by rw [List.length_drop]; have := h.ev; omega), List.getElem?_drop]
theorem RowOk.nget {r : List Int} (h : RowOk r) {i : Nat} (hi : i < (nextsI r).length) : (nextsI r)[i]? = r[3 + 2 * i]? := by
  rw [h.nlen] at hi
  unfold nextsI
  rw [nx_get _ _ (by rw [List.length_drop]; have := h.ev; omega), List.getElem?_drop]
  congr 1; omega
theorem RowOk.w255 {r : List Int} (h : RowOk r) {x : Int} (hx : x ∈ wordsI r) : 0 ≤ x ∧ x ≤ 255 := by
  have := List.mem_of_mem_drop (wd_mem hx)
  exact ⟨h.ge x this, h.le x this⟩
theorem RowOk.n255 {r : List Int} (h : RowOk r) {x : Int} (hx : x ∈ nextsI r) : 0 ≤ x ∧ x ≤ 255 := by
  have := List.mem_of_mem_drop (nx_mem hx)
  exact ⟨h.ge x this, h.le x this⟩
theorem RowOk.at0 {r : List Int} (h : RowOk r) : r[0]? = some (r0 r) := by
  unfold r0
  have := h.lo
  rw [List.getD_eq_getElem?_getD, List.getElem?_eq_getElem (by omega)]; rfl
theorem RowOk.at1 {r : List Int} (h : RowOk r) : r[1]? = some (r1 r) := by
  unfold r1
  have := h.lo
  rw [List.getD_eq_getElem?_getD, List.getElem?_eq_getElem (by omega)]; rfl
theorem RowOk.r0ge {r : List Int} (h : RowOk r) : 0 ≤ r0 r := h.ge _ (List.mem_of_getElem? h.at0)
theorem RowOk.r1ge {r : List Int} (h : RowOk r) : 0 ≤ r1 r := h.ge _ (List.mem_of_getElem? h.at1)
theorem ways_fst : ∀ (l : List Int), (ways l).map Prod.fst = (wd l).map Int.toNat
  | [] => rfl
  | [_] => rfl
  | w :: n :: l => by rw [ways, wd, List.map_cons, List.map_cons, ways_fst l]; rfl
theorem ways_snd : ∀ (l : List Int), (ways l).map Prod.snd = (nx l).map optOf
  | [] => rfl
  | [_] => rfl
  | w :: n :: l => by rw [ways, nx, List.map_cons, List.map_cons, ways_snd l]; rfl
theorem ways_zip : ∀ (l : List Int), ways l = ((wd l).zip (nx l)).map fun p => (p.1.toNat, optOf p.2)
  | [] => rfl
  | [_] => rfl
  | w :: n :: l => by rw [ways, wd, nx, List.zip_cons_cons, List.map_cons, ways_zip l]; rfl
abbrev scr (p : Int) (s : List (List Int)) : Script := ⟨p.toNat, s.map place⟩
theorem scr_len (p : Int) (s : List (List Int)) : (scr p s).places.length = s.length := by simp
theorem at_scr {p : Int} {s : List (List Int)} {q : Nat} {r : List Int} (h : s[q]? = some r) : at_ (scr p s) q = place r := by
  unfold at_
  rw [List.getD_eq_getElem?_getD, List.getElem?_map, h]
  rfl
theorem place_from (r : List Int) : (place r).from_ = (r0 r).toNat := rfl
theorem place_to (r : List Int) : (place r).to_ = (r1 r).toNat := rfl
theorem place_words (r : List Int) : (place r).ways.map Prod.fst = (wordsI r).map Int.toNat := ways_fst _
theorem place_nexts (r : List Int) : (place r).ways.map Prod.snd = (nextsI r).map optOf := ways_snd _
def isAtI (c : Int) (r : List Int) : Bool := decide (r0 r = c) || decide (r1 r = c)
theorem takes_scr {p : Int} {s : List (List Int)} {q : Nat} {r : List Int} {c : Nat} (h : s[q]? = some r) (ok : RowOk r) : takesPart (scr p s) c q = isAtI c r := by
  unfold takesPart isAtI
  rw [at_scr h, place_from, place_to]
  have h0 := ok.r0ge
  have h1 := ok.r1ge
  congr 1
  · rw [Bool.eq_iff_iff]; simp; omega
  · rw [Bool.eq_iff_iff]; simp; omega
structure ScOk (p : Int) (s : List (List Int)) : Prop where
  rows : ∀ r ∈ s, RowOk r
  len1 : 1 ≤ s.length
  len : s.length ≤ 32
  ok : okScript (scr p s) = true
def placeB (p : Int) (n : Nat) (r : List Int) : Bool := decide (r0 r < p) && (decide (r1 r < p) && (!decide (r0 r = r1 r) && (decide (wordsI r).Nodup && (nextsI r).all fun t => decide (t < n) || decide (t = 255))))
theorem nodup_toNat {l : List Int} (h : ∀ x ∈ l, 0 ≤ x) : (l.map Int.toNat).Nodup ↔ l.Nodup := by
  induction l with
  | nil => simp
  | cons a l ih =>
    rw [List.map_cons, List.nodup_cons, List.nodup_cons, ih (fun x hx => h x (List.mem_cons_of_mem _ hx)), List.mem_map]
    refine and_congr_left fun _ => not_congr ⟨?_, fun h1 => ⟨a, h1, rfl⟩⟩
    rintro ⟨b, hb, e⟩
    have h1 := h a (by simp)
    have h2 := h b (List.mem_cons_of_mem _ hb)
    have : b = a := by omega
    exact this ▸ hb
theorem placeB_eq {p : Int} {n : Nat} {r : List Int} (h : RowOk r) (hn : n ≤ 32) (hp : 0 ≤ p) : placeB p n r = okPlace p.toNat n (place r) := by
  have h0 := h.r0ge
  have h1 := h.r1ge
  unfold placeB okPlace
  have e1 : decide (r0 r < p) = decide ((place r).from_ < p.toNat) := by rw [place_from]; apply decide_eq_decide.mpr; omega
  have e2 : decide (r1 r < p) = decide ((place r).to_ < p.toNat) := by rw [place_to]; apply decide_eq_decide.mpr; omega
  have e3 : (!decide (r0 r = r1 r)) = ((place r).from_ != (place r).to_) := by
    rw [place_from, place_to, Bool.eq_iff_iff]; simp; omega
  have wl : (place r).ways.length = (wordsI r).length := by rw [← List.length_map (f := Prod.fst), place_words, List.length_map]
  have e4 : decide (1 ≤ (place r).ways.length) = true := by rw [decide_eq_true_eq, wl, h.wlen]; have := h.lo; omega
  have e5 : decide ((place r).ways.length ≤ 4) = true := by rw [decide_eq_true_eq, wl]; exact h.wlen4
  have e6 : decide ((wordsI r).Nodup) = decide (((place r).ways.map Prod.fst).Nodup) := by
    apply decide_eq_decide.mpr
    rw [place_words]
    exact (nodup_toNat fun x hx => (h.w255 hx).1).symm
  rw [e1, e2, e3, e4, e5, e6]
  simp only [Bool.true_and]
  congr 4
  rw [Bool.eq_iff_iff, List.all_eq_true, List.all_eq_true]
  constructor
  · intro hh w hw
    have hw2 : w.2 ∈ (place r).ways.map Prod.snd := List.mem_map.mpr ⟨w, hw, rfl⟩
    have hw1 : w.1 ∈ (place r).ways.map Prod.fst := List.mem_map.mpr ⟨w, hw, rfl⟩
    rw [place_nexts] at hw2
    rw [place_words] at hw1
    obtain ⟨t, ht, e⟩ := List.mem_map.mp hw2
    obtain ⟨x, hx, e'⟩ := List.mem_map.mp hw1
    have g := h.n255 ht
    have g' := h.w255 hx
    have hh := hh t ht
    rw [← e, ← e']
    unfold optOf
    simp only [Bool.and_eq_true, Bool.or_eq_true, decide_eq_true_eq] at hh ⊢
    refine ⟨by omega, ?_⟩
    split
    · rename_i q hq
      split at hq
      · cases hq
      · cases hq
        rw [decide_eq_true_eq]; omega
    · rfl
  · intro hh t ht
    have g := h.n255 ht
    have : optOf t ∈ (place r).ways.map Prod.snd := by rw [place_nexts]; exact List.mem_map.mpr ⟨t, ht, rfl⟩
    obtain ⟨w, hw, e⟩ := List.mem_map.mp this
    have hh := hh w hw
    rw [e] at hh
    unfold optOf at hh
    simp only [Bool.and_eq_true, Bool.or_eq_true, decide_eq_true_eq] at hh ⊢
    by_cases ht : t = 255
    · exact .inr ht
    · rw [if_neg ht] at hh
      have := hh.2
      simp at this
      left; omega
def scriptB (p : Int) (s : List (List Int)) : Bool := decide (2 ≤ p) && (decide (p ≤ 8) && s.all (placeB p s.length))
theorem scriptB_eq {p : Int} {s : List (List Int)} (hp : 0 ≤ p) (h : ∀ r ∈ s, RowOk r) (h1 : 1 ≤ s.length) (h2 : s.length ≤ 32) : scriptB p s = okScript (scr p s) := by
  unfold scriptB okScript
  have e1 : decide (2 ≤ p) = decide (2 ≤ (scr p s).p) := by apply decide_eq_decide.mpr; show 2 ≤ p ↔ 2 ≤ p.toNat; omega
  have e2 : decide (p ≤ 8) = decide ((scr p s).p ≤ 8) := by apply decide_eq_decide.mpr; show p ≤ 8 ↔ p.toNat ≤ 8; omega
  have e3 : decide (1 ≤ (scr p s).places.length) = true := by rw [scr_len]; exact decide_eq_true h1
  have e4 : decide ((scr p s).places.length ≤ 32) = true := by rw [scr_len]; exact decide_eq_true h2
  rw [e1, e2, e3, e4, scr_len]
  simp only [Bool.true_and]
  congr 2
  rw [List.all_map]
  rw [Bool.eq_iff_iff, List.all_eq_true, List.all_eq_true]
  refine forall_congr' fun r => forall_congr' fun hr => ?_
  rw [placeB_eq (h r hr) h2 hp]
  rfl
section
variable {p : Int} {s : List (List Int)} (ok : ScOk p s)
include ok
theorem ScOk.sound : Sound (scr p s) := sound_of ok.ok
theorem ScOk.place {q : Nat} {r : List Int} (h : s[q]? = some r) : placeB p s.length r = true := by
  have h1 := ok.ok
  have hr := List.mem_of_getElem? h
  have hp : 0 ≤ p := by
    unfold okScript at h1
    simp only [Bool.and_eq_true, decide_eq_true_eq] at h1
    have : 2 ≤ p.toNat := h1.1
    omega
  rw [← scriptB_eq hp ok.rows ok.len1 ok.len] at h1
  unfold scriptB at h1
  simp only [Bool.and_eq_true, List.all_eq_true] at h1
  exact h1.2.2 r hr
theorem ScOk.row {q : Nat} {r : List Int} (h : s[q]? = some r) : RowOk r := ok.rows r (List.mem_of_getElem? h)
theorem ScOk.nodup {q : Nat} {r : List Int} (h : s[q]? = some r) : (wordsI r).Nodup := by
  have := ok.place h
  unfold placeB at this
  simp only [Bool.and_eq_true, decide_eq_true_eq] at this
  exact this.2.2.2.1
theorem ScOk.ne {q : Nat} {r : List Int} (h : s[q]? = some r) : r0 r ≠ r1 r := by
  have := ok.place h
  unfold placeB at this
  simp only [Bool.and_eq_true, decide_eq_true_eq, Bool.not_eq_true', decide_eq_false_iff_not] at this
  exact this.2.2.1
theorem ScOk.next {q : Nat} {r : List Int} (h : s[q]? = some r) {t : Int} (ht : t ∈ nextsI r) : 0 ≤ t ∧ (t < s.length ∨ t = 255) := by
  have := ok.place h
  unfold placeB at this
  simp only [Bool.and_eq_true, List.all_eq_true, Bool.or_eq_true, decide_eq_true_eq] at this
  exact ⟨((ok.row h).n255 ht).1, this.2.2.2.2 t ht⟩
def NumOk (s : List (List Int)) (z : Int) : Prop := z = 255 ∨ ∃ q : Nat, z = (q : Int) ∧ q < s.length
omit ok in
theorem numOk_valid {z : Int} (h : NumOk s z) : Valid (scr p s) (optOf z) := by
  intro q e
  rw [scr_len]
  unfold optOf at e
  rcases h with rfl | ⟨q', rfl, hq⟩
  · simp at e
  · split at e
    · cases e
    · cases e; simpa using hq
theorem ScOk.nextOk {q : Nat} {r : List Int} (h : s[q]? = some r) {t : Int} (ht : t ∈ nextsI r) : NumOk s t := by
  obtain ⟨h1, h2⟩ := ok.next h ht
  rcases h2 with h2 | h2
  · exact .inr ⟨t.toNat, by omega, by omega⟩
  · exact .inl h2
theorem ScOk.enc_opt {z : Int} (h : NumOk s z) : encO (optOf z) = z := by
  unfold optOf
  rcases h with rfl | ⟨q, rfl, hq⟩
  · rfl
  · have := ok.len
    rw [if_neg (by omega)]
    show ((Int.toNat (q : Int) : Nat) : Int) = q
    simp
theorem ScOk.opt_enc {x : Option Nat} (h : Valid (scr p s) x) : optOf (encO x) = x := by
  cases x with
  | none => rfl
  | some q =>
    have h1 := h q rfl
    rw [scr_len] at h1
    have := ok.len
    show optOf ((q : Nat) : Int) = some q
    unfold optOf
    rw [if_neg (by omega)]
    simp
omit ok in
theorem enc_num {x : Option Nat} (h : Valid (scr p s) x) : NumOk s (encO x) := by
  cases x with
  | none => exact .inl rfl
  | some q => exact .inr ⟨q, rfl, by simpa using h q rfl⟩
theorem ScOk.steps_of {c q : Nat} {r : List Int} (h : s[q]? = some r) : stepsOf (scr p s) c (some q) = if isAtI c r then [] else (nextsI r).map optOf := by
  show (if takesPart (scr p s) c q then [] else (at_ (scr p s) q).ways.map Prod.snd) = _
  rw [takes_scr h (ok.row h), at_scr h, place_nexts]
end
def addAll (f l : List Int) : List Int := l.foldl (fun f t => if t ∈ f then f else f ++ [t]) f
theorem addAll_nil (f : List Int) : addAll f [] = f := rfl
theorem addAll_cons (f : List Int) (t : Int) (l : List Int) : addAll f (t :: l) = addAll (if t ∈ f then f else f ++ [t]) l := rfl
theorem addAll_snoc (f : List Int) (t : Int) (l : List Int) : addAll f (l ++ [t]) = if t ∈ addAll f l then addAll f l else addAll f l ++ [t] := by
  unfold addAll
  rw [List.foldl_append]
  rfl
theorem mem_addAll {f l : List Int} {z : Int} : z ∈ addAll f l ↔ z ∈ f ∨ z ∈ l := by
  induction l generalizing f with
  | nil => simp [addAll_nil]
  | cons t l ih =>
    rw [addAll_cons, ih, List.mem_cons]
    split
    · rename_i h
      constructor
      · rintro (a | a)
        · exact .inl a
        · exact .inr (.inr a)
      · rintro (a | a | a)
        · exact .inl a
        · exact .inl (a ▸ h)
        · exact .inr a
    · rw [List.mem_append, List.mem_singleton, or_assoc]
theorem nodup_addAll {f l : List Int} (h : f.Nodup) : (addAll f l).Nodup := by
  induction l generalizing f with
  | nil => exact h
  | cons t l ih =>
    rw [addAll_cons]
    refine ih ?_
    split
    · exact h
    · rename_i hn
      refine List.nodup_append.mpr ⟨h, by simp, fun a ha b hb e => hn ?_⟩
      rw [← List.mem_singleton.mp hb, ← e]; exact ha
theorem prefix_addAll (f l : List Int) : ∃ e, addAll f l = f ++ e := by
  induction l generalizing f with
  | nil => exact ⟨[], by simp [addAll_nil]⟩
  | cons t l ih =>
    rw [addAll_cons]
    split
    · exact ih f
    · obtain ⟨e, he⟩ := ih (f ++ [t])
      exact ⟨t :: e, by rw [he]; simp⟩
structure IsWalk (p : Int) (s : List (List Int)) (c q : Nat) (W : List Int) : Prop where
  nd : W.Nodup
  mem : ∀ z, z ∈ W ↔ ∃ x, Reach (scr p s) c (some q) x ∧ encO x = z
structure WInv (p : Int) (s : List (List Int)) (c q k : Nat) (W : List Int) : Prop where
  nd : W.Nodup
  start : (q : Int) ∈ W
  sound : ∀ z ∈ W, ∃ x, Reach (scr p s) c (some q) x ∧ encO x = z
  done : ∀ i z, i < k → W[i]? = some z → ∀ y ∈ stepsOf (scr p s) c (optOf z), encO y ∈ W
section
variable {p : Int} {s : List (List Int)} (ok : ScOk p s) {c q k : Nat} {W : List Int}
include ok
omit ok in
theorem WInv.init (hq : q < s.length) : WInv p s c q 0 [(q : Int)] := ⟨by simp, by simp, fun z hz => ⟨some q, .refl _, by rw [List.mem_singleton.mp hz]; rfl⟩, fun i z h => by omega⟩
theorem WInv.num (h : WInv p s c q k W) (hq : q < s.length) {z : Int} (hz : z ∈ W) : NumOk s z := by
  obtain ⟨x, r, rfl⟩ := h.sound z hz
  exact enc_num (p := p) (reach_valid ok.sound r (fun q' e => by cases e; rw [scr_len]; exact hq))
theorem WInv.len (h : WInv p s c q k W) (hq : q < s.length) : W.length ≤ s.length + 1 := by
  have : W.length ≤ ((255 : Int) :: (List.range s.length).map (fun q : Nat => (q : Int))).length := List.Nodup.length_le_of_subset h.nd fun z hz => by
    rcases h.num ok hq hz with e | ⟨q', e, hq'⟩
    · simp [e]
    · rw [e]; exact List.mem_cons_of_mem _ (List.mem_map.mpr ⟨q', List.mem_range.mpr hq', rfl⟩)
  simpa using this
theorem WInv.stop (h : WInv p s c q k W) {z : Int} (hz : W[k]? = some z) (hs : stepsOf (scr p s) c (optOf z) = []) : WInv p s c q (k + 1) W :=
  ⟨h.nd, h.start, h.sound, fun i z' hi e y hy => by
    by_cases hk : i = k
    · subst hk; rw [hz] at e; cases e; rw [hs] at hy; simp at hy
    · exact h.done i z' (by omega) e y hy⟩
theorem WInv.over (h : WInv p s c q k W) (hz : W[k]? = some 255) : WInv p s c q (k + 1) W := h.stop ok hz rfl
theorem WInv.own (h : WInv p s c q k W) {q' : Nat} {r : List Int} (hz : W[k]? = some (q' : Int)) (hr : s[q']? = some r) (ha : isAtI c r = true) : WInv p s c q (k + 1) W := by
  have hq' : q' < s.length := (List.getElem?_eq_some_iff.mp hr).1
  have hl := ok.len
  refine h.stop ok hz ?_
  have : optOf (q' : Int) = some q' := by unfold optOf; rw [if_neg (by omega)]; simp
  rw [this, ok.steps_of hr, if_pos ha]
theorem WInv.turn (h : WInv p s c q k W) {q' : Nat} {r : List Int} (hz : W[k]? = some (q' : Int)) (hr : s[q']? = some r) (ha : isAtI c r = false) : WInv p s c q (k + 1) (addAll W (nextsI r)) := by
  have hq' : q' < s.length := (List.getElem?_eq_some_iff.mp hr).1
  have hl := ok.len
  have eo : optOf (q' : Int) = some q' := by unfold optOf; rw [if_neg (by omega)]; simp
  have es : stepsOf (scr p s) c (some q') = (nextsI r).map optOf := by rw [ok.steps_of hr, if_neg (by rw [ha]; simp)]
  obtain ⟨e, he⟩ := prefix_addAll W (nextsI r)
  obtain ⟨x, rx, ex⟩ := h.sound (q' : Int) (List.mem_of_getElem? hz)
  refine ⟨nodup_addAll h.nd, mem_addAll.mpr (.inl h.start), fun z hz => ?_, fun i z hi ez y hy => ?_⟩
  · rcases mem_addAll.mp hz with m | m
    · exact h.sound z m
    · refine ⟨optOf z, Reach.tail (y := some q') ?_ (by rw [es]; exact List.mem_map.mpr ⟨z, m, rfl⟩), ok.enc_opt (ok.nextOk hr m)⟩
      cases x with
      | none =>
        have : (255 : Int) = (q' : Int) := ex
        omega
      | some q2 =>
        have : ((q2 : Nat) : Int) = (q' : Int) := ex
        have : q2 = q' := by omega
        subst this; exact rx
  · by_cases hk : i = k
    · subst hk
      have hlt : i < W.length := (List.getElem?_eq_some_iff.mp hz).1
      rw [he, List.getElem?_append_left hlt, hz] at ez
      cases ez
      rw [eo, es] at hy
      obtain ⟨t, ht, rfl⟩ := List.mem_map.mp hy
      rw [ok.enc_opt (ok.nextOk hr ht)]
      exact mem_addAll.mpr (.inr ht)
    · have hlt : i < W.length := by have := (List.getElem?_eq_some_iff.mp hz).1; omega
      rw [he, List.getElem?_append_left hlt] at ez
      exact mem_addAll.mpr (.inl (h.done i z (by omega) ez y hy))
theorem WInv.done_all (h : WInv p s c q k W) (hq : q < s.length) (hk : W.length ≤ k) : IsWalk p s c q W := by
  refine ⟨h.nd, fun z => ⟨h.sound z, ?_⟩⟩
  rintro ⟨x, r, rfl⟩
  induction r with
  | refl => exact h.start
  | tail ry hz ih =>
    obtain ⟨i, hi, e⟩ := List.mem_iff_getElem.mp ih
    refine h.done i _ (by omega) (List.getElem?_eq_some_iff.mpr ⟨hi, e⟩) _ ?_
    rw [ok.opt_enc (reach_valid ok.sound ry (fun q' e => by cases e; rw [scr_len]; exact hq))]
    exact hz
end
end Mx
set_option linter.all false
namespace Mx
open Kh292 Kh292Neutral
def sortI (l : List Int) : List Int := l.mergeSort (fun a b => decide (a ≤ b))
theorem sortI_perm (l : List Int) : (sortI l).Perm l := List.mergeSort_perm _ _
theorem sortI_up (l : List Int) : (sortI l).Pairwise (· ≤ ·) := by
  have h := List.pairwise_mergeSort (le := fun a b : Int => decide (a ≤ b)) (fun a b c h1 h2 => by simp at *; omega) (fun a b => by simp; omega) l
  exact h.imp (by simp)
theorem sortI_unique {l m : List Int} (h1 : m.Perm l) (h2 : m.Pairwise (· ≤ ·)) : m = sortI l :=
  List.Perm.eq_of_pairwise (le := fun a b : Int => a ≤ b) (fun a b _ _ h h' => by omega) h2 (sortI_up l) (h1.trans (sortI_perm l).symm)
theorem mem_sortI {l : List Int} {x : Int} : x ∈ sortI l ↔ x ∈ l := (sortI_perm l).mem_iff
theorem sortI_len (l : List Int) : (sortI l).length = l.length := (sortI_perm l).length_eq
theorem sortI_nodup {l : List Int} (h : l.Nodup) : (sortI l).Nodup := (sortI_perm l).nodup_iff.mpr h
theorem sortI_rising {l : List Int} (h : l.Nodup) : (sortI l).Pairwise (· < ·) := rising_of (sortI_up l) (sortI_nodup h)
def stopB (c : Int) (s : List (List Int)) (z : Int) : Bool := decide (z = 255) || isAtI c (s.getD z.toNat [])
def stopsI (c : Int) (s : List (List Int)) (W : List Int) : List Int := W.filter (stopB c s)
section
variable {p : Int} {s : List (List Int)} (ok : ScOk p s) {c q : Nat}
include ok
theorem ScOk.getD {q : Nat} (h : q < s.length) : s[q]? = some (s.getD q []) := by
  rw [List.getD_eq_getElem?_getD, List.getElem?_eq_getElem h]; rfl
theorem ScOk.valid0 {q : Nat} (h : q < s.length) : Valid (scr p s) (some q) := fun q' e => by cases e; rw [scr_len]; exact h
theorem ScOk.stop_enc {x : Option Nat} (h : Valid (scr p s) x) : stopB c s (encO x) = true ↔ x = none ∨ ∃ t, x = some t ∧ takesPart (scr p s) c t = true := by
  cases x with
  | none => simp [stopB, encO]
  | some t =>
    have ht := h t rfl
    rw [scr_len] at ht
    have hl := ok.len
    have hr := ok.getD ht
    have e := takes_scr (p := p) (c := c) hr (ok.row hr)
    show (decide ((t : Int) = 255) || isAtI c (s.getD (Int.toNat (t : Int)) [])) = true ↔ _
    rw [Int.toNat_natCast, ← e, Bool.or_eq_true, decide_eq_true_eq]
    constructor
    · rintro (h | h)
      · omega
      · exact .inr ⟨t, rfl, h⟩
    · rintro (h | ⟨t', h, h'⟩)
      · cases h
      · cases h; exact .inr h'
theorem stops_never {W : List Int} (hq : q < s.length) (h : IsWalk p s c q W) : stopsI c s W = [] ↔ Never (scr p s) c q := by
  unfold stopsI Never
  rw [List.filter_eq_nil_iff]
  constructor
  · intro hh
    refine ⟨fun r => ?_, fun t ht tp r => ?_⟩
    · exact hh _ ((h.mem _).mpr ⟨none, r, rfl⟩) rfl
    · exact hh _ ((h.mem _).mpr ⟨some t, r, rfl⟩) ((ok.stop_enc (fun q' e => by cases e; exact ht)).mpr (.inr ⟨t, rfl, tp⟩))
  · rintro ⟨h1, h2⟩ z hz hs
    obtain ⟨x, r, rfl⟩ := (h.mem z).mp hz
    have v := reach_valid ok.sound r (ok.valid0 hq)
    rcases (ok.stop_enc v).mp hs with rfl | ⟨t, rfl, tp⟩
    · exact h1 r
    · exact h2 t (v t rfl) tp r
theorem coming_eq {W : List Int} (hq : q < s.length) (h : IsWalk p s c q W) (cond : Bool)
    (hc : cond = true ↔ (255 : Int) ∉ W ∧ ∃ q' : Nat, q' < s.length ∧ (q' : Int) ∈ W ∧ Never (scr p s) c q') :
    sortI (stopsI c s W) ++ (if cond then [255] else []) = encS (comesTo (scr p s) c [some q]) := by
  have hl := ok.len
  have hv : ∀ x ∈ [some q], Valid (scr p s) x := fun x hx => by rw [List.mem_singleton.mp hx]; exact ok.valid0 hq
  have hl' : (scr p s).places.length ≤ 32 := by rw [scr_len]; exact hl
  have ndS : (stopsI c s W).Nodup := h.nd.filter _
  have num : ∀ z ∈ W, NumOk s z := fun z hz => by
    obtain ⟨x, r, rfl⟩ := (h.mem z).mp hz
    exact enc_num (p := p) (reach_valid ok.sound r (ok.valid0 hq))
  refine rising_unique ?_ (encS_rising (stOk_comes _ _ _) hl') fun z => ?_
  · refine List.pairwise_append.mpr ⟨sortI_rising ndS, by split <;> simp, fun a ha b hb => ?_⟩
    split at hb
    · rename_i hcond
      have e : b = 255 := by simpa using hb
      have ha' := mem_sortI.mp ha
      unfold stopsI at ha'
      have haW := (List.mem_filter.mp ha').1
      rcases num a haW with e2 | ⟨q2, e2, h2⟩
      · exact absurd (e2 ▸ haW) (hc.mp hcond).1
      · omega
    · simp at hb
  · rw [mem_encS, List.mem_append, mem_sortI]
    have over := over_iff ok.sound (c := c) (l := [some q]) hv
    constructor
    · rintro (hz | hz)
      · unfold stopsI at hz
        obtain ⟨hzW, hs⟩ := List.mem_filter.mp hz
        obtain ⟨x, r, rfl⟩ := (h.mem z).mp hzW
        have v := reach_valid ok.sound r (ok.valid0 hq)
        rcases (ok.stop_enc v).mp hs with rfl | ⟨t, rfl, tp⟩
        · exact .inr ⟨over.mpr ⟨_, by simp, .inl r⟩, rfl⟩
        · exact .inl ⟨t, (places_iff ok.sound hv).mpr ⟨v t rfl, tp, _, by simp, r⟩, rfl⟩
      · split at hz
        · rename_i hcond
          obtain ⟨_, q', hq', hm, hn⟩ := hc.mp hcond
          obtain ⟨x, r, ex⟩ := (h.mem _).mp hm
          have v := reach_valid ok.sound r (ok.valid0 hq)
          have : x = some q' := by rw [← ok.opt_enc v, ex]; unfold optOf; rw [if_neg (by omega)]; simp
          subst this
          exact .inr ⟨over.mpr ⟨_, by simp, .inr ⟨q', by rw [scr_len]; exact hq', r, hn⟩⟩, by simpa using hz⟩
        · simp at hz
    · rintro (⟨t, ht, rfl⟩ | ⟨ho, rfl⟩)
      · obtain ⟨lt, tp, y, hy, r⟩ := (places_iff ok.sound hv).mp ht
        rw [List.mem_singleton.mp hy] at r
        left
        unfold stopsI
        exact List.mem_filter.mpr ⟨(h.mem _).mpr ⟨some t, r, rfl⟩, (ok.stop_enc (fun q' e => by cases e; exact lt)).mpr (.inr ⟨t, rfl, tp⟩)⟩
      · obtain ⟨y, hy, r⟩ := over.mp ho
        rw [List.mem_singleton.mp hy] at r
        by_cases h255 : (255 : Int) ∈ W
        · left
          unfold stopsI
          exact List.mem_filter.mpr ⟨h255, rfl⟩
        · right
          have : cond = true := hc.mpr ⟨h255, by
            rcases r with r | ⟨q', hq', r, hn⟩
            · exact absurd ((h.mem _).mpr ⟨none, r, rfl⟩) h255
            · exact ⟨q', by rw [scr_len] at hq'; exact hq', (h.mem _).mpr ⟨some q', r, rfl⟩, hn⟩⟩
          rw [if_pos this]; simp
theorem coming_over : encS (comesTo (scr p s) c [none]) = [255] := by
  have hv : ∀ x ∈ [(none : Option Nat)], Valid (scr p s) x := fun x hx => by rw [List.mem_singleton.mp hx]; intro q e; cases e
  have h1 : (comesTo (scr p s) c [none]).places = [] := by
    refine List.eq_nil_iff_forall_not_mem.mpr fun q hq => ?_
    obtain ⟨_, _, y, hy, r⟩ := (places_iff ok.sound hv).mp hq
    rw [List.mem_singleton.mp hy] at r
    cases r.of_none
  have h2 : (comesTo (scr p s) c [none]).over = true := (over_iff ok.sound hv).mpr ⟨none, by simp, .inl (.refl _)⟩
  unfold encS
  rw [h1, h2]; rfl
theorem coming_union {l : List (Option Nat)} (hv : ∀ x ∈ l, Valid (scr p s) x) {z : Int} : z ∈ encS (comesTo (scr p s) c l) ↔ ∃ y ∈ l, z ∈ encS (comesTo (scr p s) c [y]) := by
  have hv1 : ∀ y ∈ l, ∀ x ∈ [y], Valid (scr p s) x := fun y hy x hx => by rw [List.mem_singleton.mp hx]; exact hv y hy
  rw [mem_encS]
  constructor
  · rintro (⟨q, hq, rfl⟩ | ⟨ho, rfl⟩)
    · obtain ⟨a, b, y, hy, r⟩ := (places_iff ok.sound hv).mp hq
      exact ⟨y, hy, mem_encS.mpr (.inl ⟨q, (places_iff ok.sound (hv1 y hy)).mpr ⟨a, b, y, by simp, r⟩, rfl⟩)⟩
    · obtain ⟨y, hy, r⟩ := (over_iff ok.sound hv).mp ho
      exact ⟨y, hy, mem_encS.mpr (.inr ⟨(over_iff ok.sound (hv1 y hy)).mpr ⟨y, by simp, r⟩, rfl⟩)⟩
  · rintro ⟨y, hy, hz⟩
    rcases mem_encS.mp hz with ⟨q, hq, rfl⟩ | ⟨ho, rfl⟩
    · obtain ⟨a, b, y', hy', r⟩ := (places_iff ok.sound (hv1 y hy)).mp hq
      rw [List.mem_singleton.mp hy'] at r
      exact .inl ⟨q, (places_iff ok.sound hv).mpr ⟨a, b, y, hy, r⟩, rfl⟩
    · obtain ⟨y', hy', r⟩ := (over_iff ok.sound (hv1 y hy)).mp ho
      rw [List.mem_singleton.mp hy'] at r
      exact .inr ⟨(over_iff ok.sound hv).mpr ⟨y, hy, r⟩, rfl⟩
def rowsOf (s : List (List Int)) (x : State) : List (List Int) := x.places.map fun q => s.getD q []
omit ok in
theorem rowsOf_nil {x : State} : rowsOf s x = [] ↔ x.places = [] := by unfold rowsOf; simp
theorem ScOk.ltOf {x : State} (hx : StOk (scr p s) c x) {q : Nat} (h : q ∈ x.places) : q < s.length := by have := hx.lt q h; rw [scr_len] at this; exact this
theorem rowsOf_at {x : State} (hx : StOk (scr p s) c x) {r : List Int} (h : r ∈ rowsOf s x) : ∃ q ∈ x.places, s[q]? = some r := by
  obtain ⟨q, hq, rfl⟩ := List.mem_map.mp h
  exact ⟨q, hq, ok.getD (ok.ltOf hx hq)⟩
theorem rowsOf_mem {x : State} (hx : StOk (scr p s) c x) {q : Nat} {r : List Int} (hq : q ∈ x.places) (h : s[q]? = some r) : r ∈ rowsOf s x := by
  refine List.mem_map.mpr ⟨q, hq, ?_⟩
  have := ok.getD (ok.ltOf hx hq)
  rw [h] at this
  exact (Option.some.inj this).symm
theorem wordsAt_row {q : Nat} {r : List Int} (h : s[q]? = some r) : wordsAt (scr p s) q = (wordsI r).map Int.toNat := by
  unfold wordsAt
  rw [at_scr h, place_words]
def wordsL (x : State) (s : Script) : List Int := (words s x).map fun w : Nat => (w : Int)
omit ok in
theorem wordsL_rising (x : State) (S : Script) : (wordsL x S).Pairwise (· < ·) := by
  unfold wordsL words
  exact List.Pairwise.map _ (fun a b h => by omega) (List.Pairwise.filter _ List.pairwise_lt_range)
theorem mem_wordsL {x : State} (hx : StOk (scr p s) c x) {z : Int} : z ∈ wordsL x (scr p s) ↔ ∃ r ∈ rowsOf s x, z ∈ wordsI r := by
  unfold wordsL words
  rw [List.mem_map]
  constructor
  · rintro ⟨w, hw, rfl⟩
    simp only [List.mem_filter, List.mem_range, List.any_eq_true] at hw
    obtain ⟨_, q, hq, hc⟩ := hw
    have hr := ok.getD (ok.ltOf hx hq)
    refine ⟨_, rowsOf_mem ok hx hq hr, ?_⟩
    rw [List.contains_iff_mem, wordsAt_row ok hr] at hc
    obtain ⟨v, hv, e⟩ := List.mem_map.mp hc
    have := ((ok.row hr).w255 hv).1
    have : v = (w : Int) := by omega
    exact this ▸ hv
  · rintro ⟨r, hr, hz⟩
    obtain ⟨q, hq, hr'⟩ := rowsOf_at ok hx hr
    have b := (ok.row hr').w255 hz
    refine ⟨z.toNat, ?_, by omega⟩
    simp only [List.mem_filter, List.mem_range, List.any_eq_true]
    refine ⟨by omega, q, hq, ?_⟩
    rw [List.contains_iff_mem, wordsAt_row ok hr']
    exact List.mem_map.mpr ⟨z, hz, rfl⟩
theorem words_eq {x : State} (hx : StOk (scr p s) c x) {l : List Int} (h1 : l.Pairwise (· < ·)) (h2 : ∀ z, z ∈ l ↔ ∃ r ∈ rowsOf s x, z ∈ wordsI r) : l = wordsL x (scr p s) :=
  rising_unique h1 (wordsL_rising _ _) fun z => (h2 z).trans (mem_wordsL ok hx).symm
def behindO (s : List (List Int)) (x : State) (w : Int) : List (Option Nat) := (rowsOf s x).flatMap fun r => (((wordsI r).zip (nextsI r)).filter fun v => decide (v.1 = w)).map fun v => optOf v.2
theorem behindO_mem {x : State} {w : Int} {y : Option Nat} : y ∈ behindO s x w ↔ ∃ r ∈ rowsOf s x, ∃ t, (w, t) ∈ (wordsI r).zip (nextsI r) ∧ optOf t = y := by
  unfold behindO
  rw [List.mem_flatMap]
  refine ⟨?_, ?_⟩
  · rintro ⟨r, hr, h⟩
    obtain ⟨v, hv, e⟩ := List.mem_map.mp h
    obtain ⟨hv, ew⟩ := List.mem_filter.mp hv
    have ew := of_decide_eq_true ew
    exact ⟨r, hr, v.2, by rw [← ew]; exact hv, e⟩
  · rintro ⟨r, hr, t, ht, e⟩
    exact ⟨r, hr, List.mem_map.mpr ⟨(w, t), List.mem_filter.mpr ⟨ht, by simp⟩, e⟩⟩
theorem behind_eq {x : State} (hx : StOk (scr p s) c x) {w : Nat} : behind (scr p s) c x w = comesTo (scr p s) c (behindO s x w) := by
  unfold behind behindO rowsOf
  congr 1
  rw [List.map_flatMap, List.flatMap_map]
  have : ∀ l : List Nat, (∀ q ∈ l, q ∈ x.places) → (l.flatMap fun q => List.map Prod.snd (List.filter (fun v => v.1 == w) (at_ (scr p s) q).ways)) = l.flatMap fun q => List.map (fun v => optOf v.2) (List.filter (fun v => decide (v.1 = (w : Int))) ((wordsI (s.getD q [])).zip (nextsI (s.getD q [])))) := by
    intro l hl
    induction l with
    | nil => rfl
    | cons q l ih =>
      rw [List.flatMap_cons, List.flatMap_cons, ih fun q' h' => hl q' (List.mem_cons_of_mem _ h')]
      congr 1
      have hr := ok.getD (ok.ltOf hx (hl q (by simp)))
      have rok := ok.row hr
      rw [at_scr hr]
      show List.map Prod.snd (List.filter (fun v => v.1 == w) (ways ((s.getD q []).drop 2))) = _
      rw [ways_zip]
      rw [List.filter_map, List.map_map]
      show List.map _ (List.filter _ ((wordsI (s.getD q [])).zip (nextsI (s.getD q [])))) = _
      have e : List.filter ((fun v : Nat × Option Nat => v.1 == w) ∘ fun p : Int × Int => (p.1.toNat, optOf p.2)) ((wordsI (s.getD q [])).zip (nextsI (s.getD q []))) = List.filter (fun v => decide (v.1 = (w : Int))) ((wordsI (s.getD q [])).zip (nextsI (s.getD q []))) := by
        refine List.filter_congr fun v hv => ?_
        have := (rok.w255 (List.of_mem_zip (a := v.1) (b := v.2) hv).1).1
        rw [Bool.eq_iff_iff]
        simp
        omega
      rw [e]
      rfl
  exact this x.places fun _ h => h
theorem behindO_valid {x : State} (hx : StOk (scr p s) c x) {w : Int} : ∀ y ∈ behindO s x w, Valid (scr p s) y := by
  intro y hy
  obtain ⟨r, hr, t, ht, rfl⟩ := (behindO_mem ok).mp hy
  obtain ⟨q, hq, hr'⟩ := rowsOf_at ok hx hr
  exact numOk_valid (ok.nextOk hr' (List.of_mem_zip ht).2)
theorem behind_enc {x : State} (hx : StOk (scr p s) c x) {w : Nat} {l : List Int} (h1 : l.Pairwise (· < ·))
    (h2 : ∀ z, z ∈ l ↔ ∃ r ∈ rowsOf s x, ∃ t, ((w : Int), t) ∈ (wordsI r).zip (nextsI r) ∧ z ∈ encS (comesTo (scr p s) c [optOf t])) : l = encS (behind (scr p s) c x w) := by
  rw [behind_eq ok hx]
  refine rising_unique h1 (encS_rising (stOk_comes _ _ _) (by rw [scr_len]; exact ok.len)) fun z => ?_
  rw [h2, coming_union ok (behindO_valid ok hx)]
  constructor
  · rintro ⟨r, hr, t, ht, hz⟩
    exact ⟨_, (behindO_mem ok).mpr ⟨r, hr, t, ht, rfl⟩, hz⟩
  · rintro ⟨y, hy, hz⟩
    obtain ⟨r, hr, t, ht, rfl⟩ := (behindO_mem ok).mp hy
    exact ⟨r, hr, t, ht, hz⟩
end
def alikeB (r o : List Int) : Bool := decide (r1 r = r1 o) && decide (sortI (wordsI r) = sortI (wordsI o))
def faultI (c : Int) (rows : List (List Int)) (over : Bool) : Int :=
  match rows with
  | [] => 0
  | h :: rest => if over then 1 else
    if (h :: rest).filter (fun r => decide (r0 r = c)) = [] then (if (h :: rest).all (fun r => decide (r0 r = r0 h)) then 0 else 4)
    else if ((h :: rest).filter (fun r => decide (r0 r = c))).length < (h :: rest).length then 2
    else if (h :: rest).all (fun r => alikeB r h) then 0 else 3
section
variable {p : Int} {s : List (List Int)} (ok : ScOk p s) {c : Nat}
include ok
theorem same_words {q t : Nat} {r o : List Int} (hr : s[q]? = some r) (ho : s[t]? = some o) : sameWords (wordsAt (scr p s) q) (wordsAt (scr p s) t) = decide (sortI (wordsI r) = sortI (wordsI o)) := by
  rw [wordsAt_row ok hr, wordsAt_row ok ho]
  unfold sameWords
  have key : ∀ {a b : List Int}, (∀ x ∈ a, 0 ≤ x) → (∀ x ∈ b, 0 ≤ x) → ((a.map Int.toNat).all (b.map Int.toNat).contains = true ↔ ∀ x ∈ a, x ∈ b) := by
    intro a b ha hb
    rw [List.all_eq_true]
    constructor
    · intro h x hx
      have := h _ (List.mem_map.mpr ⟨x, hx, rfl⟩)
      rw [List.contains_iff_mem] at this
      obtain ⟨y, hy, e⟩ := List.mem_map.mp this
      have := ha x hx
      have := hb y hy
      have : y = x := by omega
      exact this ▸ hy
    · intro h x hx
      obtain ⟨y, hy, rfl⟩ := List.mem_map.mp hx
      rw [List.contains_iff_mem]
      exact List.mem_map.mpr ⟨y, h y hy, rfl⟩
  have h1 := fun x hx => ((ok.row hr).w255 (x := x) hx).1
  have h2 := fun x hx => ((ok.row ho).w255 (x := x) hx).1
  rw [Bool.eq_iff_iff, Bool.and_eq_true, key h1 h2, key h2 h1, decide_eq_true_eq]
  constructor
  · rintro ⟨a, b⟩
    exact rising_unique (sortI_rising (ok.nodup hr)) (sortI_rising (ok.nodup ho)) fun x => by
      rw [mem_sortI, mem_sortI]; exact ⟨a x, b x⟩
  · intro e
    exact ⟨fun x hx => mem_sortI.mp (e ▸ mem_sortI.mpr hx), fun x hx => mem_sortI.mp (e.symm ▸ mem_sortI.mpr hx)⟩
theorem from_row {q : Nat} {r : List Int} (h : s[q]? = some r) : ((at_ (scr p s) q).from_ : Int) = r0 r := by
  rw [at_scr h, place_from]
  have := (ok.row h).r0ge
  omega
theorem to_row {q : Nat} {r : List Int} (h : s[q]? = some r) : ((at_ (scr p s) q).to_ : Int) = r1 r := by
  rw [at_scr h, place_to]
  have := (ok.row h).r1ge
  omega
theorem fault_eq {x : State} (hx : StOk (scr p s) c x) : faultI c (rowsOf s x) x.over = (fault (scr p s) c x : Nat) := by
  obtain ⟨places, over⟩ := x
  cases places with
  | nil => rfl
  | cons q rest =>
    have row : ∀ t ∈ q :: rest, s[t]? = some (s.getD t []) := fun t ht => ok.getD (ok.ltOf hx ht)
    have own : ∀ t ∈ q :: rest, r0 (s.getD t []) = c ∨ r1 (s.getD t []) = c := fun t ht => by
      have h1 := hx.own t ht
      rw [takes_scr (row t ht) (ok.row (row t ht))] at h1
      unfold isAtI at h1
      simpa using h1
    show faultI c (s.getD q [] :: rest.map fun q => s.getD q []) over = _
    unfold faultI fault
    dsimp only
    cases over with
    | true => rfl
    | false =>
      simp only [Bool.false_eq_true, if_false]
      have hq := row q (by simp)
      have memr : ∀ r, r ∈ (s.getD q [] :: rest.map fun q => s.getD q []) ↔ ∃ t ∈ q :: rest, s.getD t [] = r := fun r => by
        rw [← List.map_cons (f := fun q => s.getD q [])]; exact List.mem_map
      have Aall : ((q :: rest).all fun t => (at_ (scr p s) t).from_ == c) = true ↔ ∀ t ∈ q :: rest, r0 (s.getD t []) = c := by
        rw [List.all_eq_true]
        refine forall_congr' fun t => forall_congr' fun ht => ?_
        have := from_row ok (row t ht)
        rw [beq_iff_eq]; omega
      have Tall : ((q :: rest).all fun t => (at_ (scr p s) t).to_ == c) = true ↔ ∀ t ∈ q :: rest, r1 (s.getD t []) = c := by
        rw [List.all_eq_true]
        refine forall_congr' fun t => forall_congr' fun ht => ?_
        have := to_row ok (row t ht)
        rw [beq_iff_eq]; omega
      have neq : ∀ t ∈ q :: rest, r0 (s.getD t []) ≠ r1 (s.getD t []) := fun t ht => ok.ne (row t ht)
      have Fnil : (s.getD q [] :: rest.map fun q => s.getD q []).filter (fun r => decide (r0 r = (c : Int))) = [] ↔ ∀ t ∈ q :: rest, r0 (s.getD t []) ≠ c := by
        rw [List.filter_eq_nil_iff]
        constructor
        · intro h t ht e
          exact h _ ((memr _).mpr ⟨t, ht, rfl⟩) (decide_eq_true e)
        · intro h r hr e
          obtain ⟨t, ht, rfl⟩ := (memr r).mp hr
          exact h t ht (of_decide_eq_true e)
      have Flen : ((s.getD q [] :: rest.map fun q => s.getD q []).filter (fun r => decide (r0 r = (c : Int)))).length < (s.getD q [] :: rest.map fun q => s.getD q []).length ↔ ¬ ∀ t ∈ q :: rest, r0 (s.getD t []) = c := by
        have h1 := List.length_filter_le (fun r => decide (r0 r = (c : Int))) (s.getD q [] :: rest.map fun q => s.getD q [])
        have h2 := List.length_filter_eq_length_iff (p := fun r => decide (r0 r = (c : Int))) (l := s.getD q [] :: rest.map fun q => s.getD q [])
        constructor
        · intro h h3
          have : ∀ a ∈ (s.getD q [] :: rest.map fun q => s.getD q []), decide (r0 a = (c : Int)) = true := fun a ha => by
            obtain ⟨t, ht, rfl⟩ := (memr a).mp ha
            exact decide_eq_true (h3 t ht)
          have := h2.mpr this
          omega
        · intro h
          refine Nat.lt_of_le_of_ne h1 fun e => h fun t ht => ?_
          exact of_decide_eq_true (h2.mp e _ ((memr _).mpr ⟨t, ht, rfl⟩))
      by_cases hA : ∀ t ∈ q :: rest, r0 (s.getD t []) = c
      · -- it speaks at all of them
        rw [if_neg (fun h => (Fnil.mp h) q (by simp) (hA q (by simp))), if_neg (fun h => Flen.mp h hA)]
        have c2 : ¬ ((!((q :: rest).all fun t => (at_ (scr p s) t).from_ == c) && !((q :: rest).all fun t => (at_ (scr p s) t).to_ == c)) = true) := by rw [Aall.mpr hA]; simp
        rw [if_neg c2]
        have hf : (at_ (scr p s) q).from_ = c := by have := from_row ok hq; have := hA q (by simp); omega
        rw [if_pos hf]
        have e : (s.getD q [] :: rest.map fun q => s.getD q []).all (fun r => alikeB r (s.getD q [])) = rest.all fun t => (at_ (scr p s) t).to_ == (at_ (scr p s) q).to_ && sameWords (wordsAt (scr p s) t) (wordsAt (scr p s) q) := by
          rw [List.all_cons, List.all_map]
          have : alikeB (s.getD q []) (s.getD q []) = true := by unfold alikeB; simp
          rw [this, Bool.true_and, Bool.eq_iff_iff, List.all_eq_true, List.all_eq_true]
          refine forall_congr' fun t => forall_congr' fun ht => ?_
          have rt := row t (List.mem_cons_of_mem _ ht)
          show alikeB (s.getD t []) (s.getD q []) = true ↔ _
          unfold alikeB
          rw [same_words ok rt hq]
          have h1 := to_row ok rt
          have h2 := to_row ok hq
          have : decide (r1 (s.getD t []) = r1 (s.getD q [])) = ((at_ (scr p s) t).to_ == (at_ (scr p s) q).to_) := by
            rw [Bool.eq_iff_iff, decide_eq_true_eq, beq_iff_eq]; omega
          rw [this]
        rw [e]
        split <;> rfl
      · by_cases hN : ∀ t ∈ q :: rest, r0 (s.getD t []) ≠ c
        · -- it listens at all of them
          have hT : ∀ t ∈ q :: rest, r1 (s.getD t []) = c := fun t ht => (own t ht).resolve_left (hN t ht)
          rw [if_pos (Fnil.mpr hN)]
          have c2 : ¬ ((!((q :: rest).all fun t => (at_ (scr p s) t).from_ == c) && !((q :: rest).all fun t => (at_ (scr p s) t).to_ == c)) = true) := by rw [Tall.mpr hT]; simp
          rw [if_neg c2]
          have hf : ¬ (at_ (scr p s) q).from_ = c := by have := from_row ok hq; have := hN q (by simp); omega
          rw [if_neg hf]
          have e : (s.getD q [] :: rest.map fun q => s.getD q []).all (fun r => decide (r0 r = r0 (s.getD q []))) = rest.all fun t => (at_ (scr p s) t).from_ == (at_ (scr p s) q).from_ := by
            rw [List.all_cons, List.all_map, decide_eq_true rfl, Bool.true_and, Bool.eq_iff_iff, List.all_eq_true, List.all_eq_true]
            refine forall_congr' fun t => forall_congr' fun ht => ?_
            have h1 := from_row ok (row t (List.mem_cons_of_mem _ ht))
            have h2 := from_row ok hq
            show decide (r0 (s.getD t []) = r0 (s.getD q [])) = true ↔ _
            rw [decide_eq_true_eq, beq_iff_eq]; omega
          rw [e]
          split <;> rfl
        · rw [if_neg (fun h => hN (Fnil.mp h)), if_pos (Flen.mpr hA)]
          have hT : ¬ ∀ t ∈ q :: rest, r1 (s.getD t []) = c := fun h => hN fun t ht e => neq t ht (e.trans (h t ht).symm)
          have a1 : ((q :: rest).all fun t => (at_ (scr p s) t).from_ == c) = false := by
            cases h : ((q :: rest).all fun t => (at_ (scr p s) t).from_ == c) with
            | false => rfl
            | true => exact absurd (Aall.mp h) hA
          have a2 : ((q :: rest).all fun t => (at_ (scr p s) t).to_ == c) = false := by
            cases h : ((q :: rest).all fun t => (at_ (scr p s) t).to_ == c) with
            | false => rfl
            | true => exact absurd (Tall.mp h) hT
          have c2 : (!((q :: rest).all fun t => (at_ (scr p s) t).from_ == c) && !((q :: rest).all fun t => (at_ (scr p s) t).to_ == c)) = true := by rw [a1, a2]; rfl
          rw [if_pos c2]
          rfl
end
end Mx
set_option linter.all false
namespace Mx
open Kh292 Kh292Neutral
theorem asked_ok {p : Int} {s : List (List Int)} (h : PyKh292.check_asked p s = true) : 0 ≤ p ∧ 1 ≤ s.length ∧ s.length ≤ 32 ∧ ∀ r ∈ s, RowOk r := by
  have h' : (natural p 32 && okPlaces s) = true := h
  unfold natural okPlaces at h'
  simp only [Bool.and_eq_true, decide_eq_true_eq, List.all_eq_true] at h'
  refine ⟨h'.1.1, h'.2.1, h'.2.2.1, fun r hr => ?_⟩
  have hr := h'.2.2.2 r hr
  unfold okPlaceRow below at hr
  simp only [Bool.and_eq_true, decide_eq_true_eq, List.all_eq_true, beq_iff_eq] at hr
  refine ⟨hr.1.1.2, hr.1.2, hr.2, fun x hx => (hr.1.1.1 x hx).1, fun x hx => ?_⟩
  have := (hr.1.1.1 x hx).2
  omega
def partyAns (S : Script) (c : Nat) : List Int := match statesOf S c with
  | .states _ => []
  | .unclear w => [1, (c : Int), (w : Int)]
  | .many => [-75]
structure FInv (S : Script) (c k : Nat) (l : List State) : Prop where
  eq : statesOf S c = find S c (65 - k) k l
  le : k ≤ l.length
  len : l.length ≤ 64
  ok : ∀ x ∈ l, StOk S c x
theorem FInv.init (S : Script) (c : Nat) : FInv S c 0 [first S c] := ⟨rfl, by simp, by simp, fun x hx => by rw [List.mem_singleton.mp hx]; exact stOk_comes _ _ _⟩
section
variable {S : Script} {c k : Nat} {l : List State}
theorem FInv.exit (h : FInv S c k l) (hk : ¬ k < l.length) : statesOf S c = .states l := by
  have := h.le
  have := h.len
  rw [h.eq, show 65 - k = (64 - k) + 1 by omega, find, List.getElem?_eq_none_iff.mpr (by omega)]
theorem FInv.next (h : FInv S c k l) {x : State} (hx : l[k]? = some x) : statesOf S c = if fault S c x ≠ 0 then .unclear (fault S c x) else if 16 < (words S x).length then .many else match add S c x (words S x) l with
      | none => .many
      | some m => find S c (64 - k) (k + 1) m := by
  have := h.len
  have := (List.getElem?_eq_some_iff.mp hx).1
  rw [h.eq, show 65 - k = (64 - k) + 1 by omega, find, hx]
  all_goals rfl
theorem FInv.bad (h : FInv S c k l) {x : State} (hx : l[k]? = some x) (hf : fault S c x ≠ 0) : partyAns S c = [1, (c : Int), (fault S c x : Int)] := by
  unfold partyAns
  rw [h.next hx, if_pos hf]
theorem FInv.wide (h : FInv S c k l) {x : State} (hx : l[k]? = some x) (hf : fault S c x = 0) (hw : 16 < (words S x).length) : partyAns S c = [-75] := by
  unfold partyAns
  rw [h.next hx, if_neg (by rw [hf]; simp), if_pos hw]
structure AInv (S : Script) (c : Nat) (x : State) (l : List State) (i : Nat) (m : List State) : Prop where
  eq : add S c x (words S x) l = add S c x ((words S x).drop i) m
  le : l.length ≤ m.length
  len : m.length ≤ 64
  ok : ∀ x ∈ m, StOk S c x
  pre : ∀ (j : Nat) (y : State), l[j]? = some y → m[j]? = some y
theorem FInv.start (h : FInv S c k l) (x : State) : AInv S c x l 0 l := ⟨by rw [List.drop_zero], Nat.le_refl _, h.len, h.ok, fun _ _ h => h⟩
theorem AInv.turn {x : State} {i : Nat} {m : List State} (h : AInv S c x l i m) {w : Nat} (hw : (words S x)[i]? = some w) :
    add S c x (words S x) l = if m.contains (behind S c x w) then add S c x ((words S x).drop (i + 1)) m else if 64 ≤ m.length then none else add S c x ((words S x).drop (i + 1)) (m ++ [behind S c x w]) := by
  obtain ⟨hi, e⟩ := List.getElem?_eq_some_iff.mp hw
  rw [h.eq, List.drop_eq_getElem_cons hi, e, add]
theorem AInv.there {x : State} {i : Nat} {m : List State} (h : AInv S c x l i m) {w : Nat} (hw : (words S x)[i]? = some w) (hm : behind S c x w ∈ m) : AInv S c x l (i + 1) m :=
  ⟨by rw [h.turn hw, if_pos (List.contains_iff_mem.mpr hm)], h.le, h.len, h.ok, h.pre⟩
theorem AInv.full {x : State} {i : Nat} {m : List State} (h : AInv S c x l i m) {w : Nat} (hw : (words S x)[i]? = some w) (hm : behind S c x w ∉ m) (hl : m.length = 64) : add S c x (words S x) l = none := by
  rw [h.turn hw, if_neg (fun q => hm (List.contains_iff_mem.mp q)), if_pos (by omega)]
theorem AInv.new {x : State} {i : Nat} {m : List State} (h : AInv S c x l i m) {w : Nat} (hw : (words S x)[i]? = some w) (hm : behind S c x w ∉ m) (hl : ¬ m.length = 64) : AInv S c x l (i + 1) (m ++ [behind S c x w]) := by
  have := h.len
  refine ⟨by rw [h.turn hw, if_neg (fun q => hm (List.contains_iff_mem.mp q)), if_neg (by omega)], by have := h.le; simp; omega, by simp; omega, fun y hy => ?_, fun i x hx => ?_⟩
  · rcases List.mem_append.mp hy with e | e
    · exact h.ok y e
    · rw [List.mem_singleton.mp e]; exact stOk_comes _ _ _
  · have hx := h.pre i x hx
    rw [List.getElem?_append_left (List.getElem?_eq_some_iff.mp hx).1]; exact hx
theorem AInv.done {x : State} {m : List State} (h : AInv S c x l (words S x).length m) : add S c x (words S x) l = some m := by
  rw [h.eq, List.drop_length, add]
theorem FInv.many (h : FInv S c k l) {x : State} (hx : l[k]? = some x) (hf : fault S c x = 0) (ha : add S c x (words S x) l = none) : partyAns S c = [-75] := by
  unfold partyAns
  rw [h.next hx, if_neg (by rw [hf]; simp)]
  split
  · rename_i e
    split at e
    · cases e
    · rw [ha] at e; cases e
  · rename_i e
    split at e
    · cases e
    · rw [ha] at e; cases e
  · rfl
theorem FInv.step (h : FInv S c k l) {x : State} (hx : l[k]? = some x) (hf : fault S c x = 0) (hw : ¬ 16 < (words S x).length) {m : List State} (ha : AInv S c x l (words S x).length m) : FInv S c (k + 1) m := by
  have h1 := (List.getElem?_eq_some_iff.mp hx).1
  have h2 := ha.le
  refine ⟨?_, by omega, ha.len, ha.ok⟩
  rw [h.next hx, if_neg (by rw [hf]; simp), if_neg hw, ha.done]
  dsimp only
  rw [show 65 - (k + 1) = 64 - k by omega]
theorem FInv.clear (h : FInv S c k l) (hk : ¬ k < l.length) : partyAns S c = [] := by
  unfold partyAns
  rw [h.exit hk]
end
theorem party_nil {S : Script} {c : Nat} : partyAns S c = [] ↔ ∃ l, statesOf S c = .states l := by
  unfold partyAns
  constructor
  · intro h
    split at h
    · rename_i l e; exact ⟨l, e⟩
    · cases h
    · cases h
  · rintro ⟨l, e⟩
    rw [e]
def okF : Nat × Found → Bool := fun x => match x.2 with
  | .states _ => false
  | _ => true
theorem okF_iff {S : Script} {c : Nat} : okF (c, statesOf S c) = true ↔ partyAns S c ≠ [] := by
  unfold okF
  rw [Ne, party_nil]
  constructor
  · rintro h ⟨l, e⟩
    dsimp only at h
    rw [e] at h; cases h
  · intro h
    dsimp only
    cases e : statesOf S c with
    | states l => exact absurd ⟨l, e⟩ h
    | unclear w => rfl
    | many => rfl
theorem check_def (S : Script) : Kh292.check S = ((List.range S.p).map fun c => (c, statesOf S c)).find? okF := rfl
theorem check_none {S : Script} (h : ∀ c, c < S.p → partyAns S c = []) : Kh292.check S = none := by
  rw [check_def, List.find?_eq_none]
  intro x hx hb
  obtain ⟨c, hc, rfl⟩ := List.mem_map.mp hx
  exact okF_iff.mp hb (h c (List.mem_range.mp hc))
theorem find_first {α : Type} {P : α → Bool} : ∀ {l : List α} {i : Nat} {x : α}, l[i]? = some x → P x = true → (∀ (j : Nat) (y : α), j < i → l[j]? = some y → P y = false) → l.find? P = some x
  | [], i, x, h, _, _ => by simp at h
  | a :: l, 0, x, h, hp, _ => by
    have e : a = x := by simpa using h
    subst e
    rw [List.find?_cons, hp]
  | a :: l, i + 1, x, h, hp, hb => by
    rw [List.find?_cons, hb 0 a (by omega) rfl]
    exact find_first (i := i) (by simpa using h) hp fun j y hj hy => hb (j + 1) y (by omega) (by simpa using hy)
theorem check_some {S : Script} {c : Nat} (hc : c < S.p) (h : ∀ c', c' < c → partyAns S c' = []) (h1 : partyAns S c ≠ []) : Kh292.check S = some (c, statesOf S c) := by
  rw [check_def]
  refine find_first (i := c) (by rw [List.getElem?_map, List.getElem?_range hc]; rfl) (okF_iff.mpr h1) fun j y hj hy => ?_
  rw [List.getElem?_map, List.getElem?_range (by omega)] at hy
  cases hy
  cases e : okF (j, statesOf S j) with
  | false => rfl
  | true => exact absurd (h j hj) (okF_iff.mp e)
theorem check_eq (p : Int) (s : List (List Int)) : PyKh292.check p s = (doing (.check (some (scr p s)))).value :: ((doing (.check (some (scr p s)))).nums.map Int.ofNat ++ (doing (.check (some (scr p s)))).part.flatMap rowInts) := rfl
theorem ans_bad {p : Int} {s : List (List Int)} (h : okScript (scr p s) = false) : PyKh292.check p s = [-22] := by
  rw [check_eq]
  have : doing (.check (some (scr p s))) = say (-22) := by rw [doing, if_pos h]
  rw [this]; rfl
theorem ans_ok {p : Int} {s : List (List Int)} (h : okScript (scr p s) = true) (hc : ∀ c, c < p.toNat → partyAns (scr p s) c = []) : PyKh292.check p s = [0] := by
  rw [check_eq]
  have : doing (.check (some (scr p s))) = say 0 := by rw [doing, if_neg (by rw [h]; simp), check_none hc]
  rw [this]; rfl
theorem ans_hit {p : Int} {s : List (List Int)} {c : Nat} (h : okScript (scr p s) = true) (hp : c < p.toNat) (hc : ∀ c', c' < c → partyAns (scr p s) c' = []) (h1 : partyAns (scr p s) c ≠ []) : PyKh292.check p s = partyAns (scr p s) c := by
  rw [check_eq]
  have hs := check_some (S := scr p s) hp hc h1
  have : doing (.check (some (scr p s))) = match (some (c, statesOf (scr p s) c)) with
    | none => say 0
    | some (c, .unclear w) => ⟨1, [c, w], []⟩
    | some _ => say (-75) := by
    rw [doing, if_neg (by rw [h]; simp), hs]
    all_goals rfl
  rw [this]
  unfold partyAns at h1 ⊢
  cases e : statesOf (scr p s) c with
  | states l => rw [e] at h1; exact absurd rfl h1
  | unclear w => rfl
  | many => rfl
end Mx
set_option linter.all false
namespace Mx
open Kh292 Kh292Neutral
def add1 (l : List State) (y : State) : List State := if y ∈ l then l else l ++ [y]
def addU (S : Script) (c : Nat) (x : State) (ws : List Nat) (l : List State) : List State := ws.foldl (fun l w => add1 l (behind S c x w)) l
theorem add1_pre (l : List State) (y : State) : ∃ e, add1 l y = l ++ e := by
  unfold add1
  split
  · exact ⟨[], by simp⟩
  · exact ⟨_, rfl⟩
theorem mem_add1 (l : List State) (y : State) : y ∈ add1 l y := by
  unfold add1
  split
  · assumption
  · simp
theorem add1_len (l : List State) (y : State) : (add1 l y).length ≤ l.length + 1 := by
  unfold add1
  split <;> simp
section
variable {S : Script} {c : Nat} {x : State}
theorem addU_nil (l : List State) : addU S c x [] l = l := rfl
theorem addU_cons (w : Nat) (ws : List Nat) (l : List State) : addU S c x (w :: ws) l = addU S c x ws (add1 l (behind S c x w)) := rfl
theorem addU_snoc (w : Nat) (ws : List Nat) (l : List State) : addU S c x (ws ++ [w]) l = add1 (addU S c x ws l) (behind S c x w) := by
  unfold addU
  rw [List.foldl_append]
  rfl
theorem addU_pre : ∀ (ws : List Nat) (l : List State), ∃ e, addU S c x ws l = l ++ e
  | [], l => ⟨[], by simp [addU_nil]⟩
  | w :: ws, l => by
    obtain ⟨e1, h1⟩ := add1_pre l (behind S c x w)
    obtain ⟨e2, h2⟩ := addU_pre ws (add1 l (behind S c x w))
    exact ⟨e1 ++ e2, by rw [addU_cons, h2, h1, List.append_assoc]⟩
theorem addU_ge (ws : List Nat) (l : List State) : l.length ≤ (addU S c x ws l).length := by
  obtain ⟨e, h⟩ := addU_pre (S := S) (c := c) (x := x) ws l
  rw [h]; simp
theorem addU_len : ∀ (ws : List Nat) (l : List State), (addU S c x ws l).length ≤ l.length + ws.length
  | [], l => by simp [addU_nil]
  | w :: ws, l => by
    have h1 := addU_len ws (add1 l (behind S c x w))
    have h2 := add1_len l (behind S c x w)
    rw [addU_cons]
    simp
    omega
theorem mem_addU : ∀ {ws : List Nat} {l : List State} {w : Nat}, w ∈ ws → behind S c x w ∈ addU S c x ws l
  | w' :: ws, l, w, h => by
    rw [addU_cons]
    rcases List.mem_cons.mp h with e | e
    · subst e
      obtain ⟨e, h⟩ := addU_pre (S := S) (c := c) (x := x) ws (add1 l (behind S c x w))
      rw [h]
      exact List.mem_append_left _ (mem_add1 _ _)
    · exact mem_addU e
theorem addU_ok : ∀ (ws : List Nat) (l : List State), (∀ y ∈ l, StOk S c y) → ∀ y ∈ addU S c x ws l, StOk S c y
  | [], l, h, y, hy => h y hy
  | w :: ws, l, h, y, hy => by
    rw [addU_cons] at hy
    refine addU_ok ws _ (fun z hz => ?_) y hy
    unfold add1 at hz
    split at hz
    · exact h z hz
    · rcases List.mem_append.mp hz with e | e
      · exact h z e
      · rw [List.mem_singleton.mp e]; exact stOk_comes _ _ _
theorem add_eq : ∀ (ws : List Nat) (l : List State), l.length ≤ 64 → add S c x ws l = if (addU S c x ws l).length ≤ 64 then some (addU S c x ws l) else none
  | [], l, h => by rw [add, addU_nil, if_pos h]
  | w :: ws, l, h => by
    rw [add, addU_cons]
    by_cases hm : behind S c x w ∈ l
    · rw [if_pos (List.contains_iff_mem.mpr hm), add_eq ws l h]
      unfold add1
      rw [if_pos hm]
    · rw [if_neg (fun q => hm (List.contains_iff_mem.mp q))]
      have e1 : add1 l (behind S c x w) = l ++ [behind S c x w] := by unfold add1; rw [if_neg hm]
      rw [e1]
      split
      · rename_i h64
        have := addU_ge (S := S) (c := c) (x := x) ws (l ++ [behind S c x w])
        rw [if_neg]
        simp at this
        omega
      · exact add_eq ws _ (by simp; omega)
def headI (S : Script) (c : Nat) (x : State) : List Int := [(kind S c x : Int), (other S c x : Int), ((words S x).length : Int)]
def waysI (S : Script) (c : Nat) (x : State) (m : List State) (ws : List Nat) : List Int := ws.flatMap fun (w : Nat) => [(w : Int), (m.idxOf (behind S c x w) : Int)]
def rowL (S : Script) (c : Nat) (l : List State) (x : State) : List Int := headI S c x ++ waysI S c x l (words S x)
theorem rowL_eq (l : List State) : rowInts (rowOf S c l x) = rowL S c l x := by
  unfold rowInts rowOf rowL headI waysI
  dsimp only
  rw [List.map_append, List.flatMap_map, List.map_flatMap, List.length_map]
  rfl
theorem idxOf_pre : ∀ {l e : List State} {y : State}, y ∈ l → (l ++ e).idxOf y = l.idxOf y
  | a :: l, e, y, h => by
    rw [List.cons_append, List.idxOf_cons, List.idxOf_cons]
    by_cases q : a == y
    · simp [q]
    · have hy : y ∈ l := by
        rcases List.mem_cons.mp h with z | z
        · rw [z] at q; simp at q
        · exact z
      simp [q, idxOf_pre hy]
theorem waysI_pre {m e : List State} {ws : List Nat} (h : ∀ w ∈ ws, behind S c x w ∈ m) : waysI S c x (m ++ e) ws = waysI S c x m ws := by
  unfold waysI
  induction ws with
  | nil => rfl
  | cons w ws ih =>
    rw [List.flatMap_cons, List.flatMap_cons, ih (fun v hv => h v (List.mem_cons_of_mem _ hv)), idxOf_pre (h w (by simp))]
theorem waysI_snoc (m : List State) (ws : List Nat) (w : Nat) : waysI S c x m (ws ++ [w]) = waysI S c x m ws ++ [(w : Int), (m.idxOf (behind S c x w) : Int)] := by
  unfold waysI
  rw [List.flatMap_append]
  simp
theorem waysI_turn {l : List State} {ws : List Nat} {w : Nat} : waysI S c x (addU S c x (ws ++ [w]) l) (ws ++ [w]) = waysI S c x (addU S c x ws l) ws ++ [(w : Int), ((addU S c x (ws ++ [w]) l).idxOf (behind S c x w) : Int)] := by
  rw [waysI_snoc]
  congr 1
  rw [addU_snoc]
  obtain ⟨e, h⟩ := add1_pre (addU S c x ws l) (behind S c x w)
  rw [h]
  exact waysI_pre fun v hv => mem_addU hv
theorem waysI_len (m : List State) (ws : List Nat) : (waysI S c x m ws).length = 2 * ws.length := by
  unfold waysI
  induction ws with
  | nil => rfl
  | cons w ws ih => rw [List.flatMap_cons, List.length_append, ih]; simp; omega
theorem rowL_len (l : List State) : (rowL S c l x).length = 3 + 2 * (words S x).length := by
  unfold rowL
  rw [List.length_append, waysI_len]
  simp [headI]
end
structure PInv (S : Script) (c k : Nat) (l : List State) (R : List (List Int)) : Prop where
  f : FInv S c k l
  rows : R = (l.take k).map (rowL S c l)
  all : ∀ x ∈ l.take k, ∀ w ∈ words S x, behind S c x w ∈ l
  small : ∀ x ∈ l.take k, (words S x).length ≤ 16
section
variable {S : Script} {c k : Nat} {l : List State} {R : List (List Int)}
theorem PInv.init (S : Script) (c : Nat) : PInv S c 0 [first S c] [] := ⟨FInv.init S c, rfl, fun x hx => by simp at hx, fun x hx => by simp at hx⟩
theorem PInv.rlen (h : PInv S c k l R) : R.length = k := by
  have := h.f.le
  rw [h.rows, List.length_map, List.length_take]
  omega
theorem PInv.many (h : PInv S c k l R) {x : State} (hx : l[k]? = some x) (hf : fault S c x = 0) (hm : 64 < (addU S c x (words S x) l).length) : partyAns S c = [-75] := by
  refine h.f.many hx hf ?_
  rw [add_eq _ _ h.f.len, if_neg (by omega)]
theorem PInv.step (h : PInv S c k l R) {x : State} (hx : l[k]? = some x) (hf : fault S c x = 0) (hw : ¬ 16 < (words S x).length) (hm : ¬ 64 < (addU S c x (words S x) l).length) :
    PInv S c (k + 1) (addU S c x (words S x) l) (R ++ [rowL S c (addU S c x (words S x) l) x]) := by
  have h1 := (List.getElem?_eq_some_iff.mp hx).1
  have h2 := addU_ge (S := S) (c := c) (x := x) (words S x) l
  obtain ⟨e, he⟩ := addU_pre (S := S) (c := c) (x := x) (words S x) l
  have e1 : (addU S c x (words S x) l).take (k + 1) = l.take k ++ [x] := by
    rw [he, List.take_append_of_le_length (by omega), List.take_succ, hx]
    rfl
  refine ⟨⟨?_, by omega, by omega, addU_ok _ _ h.f.ok⟩, ?_, ?_, ?_⟩
  · rw [h.f.next hx, if_neg (by rw [hf]; simp), if_neg hw, add_eq _ _ h.f.len, if_pos (by omega)]
    dsimp only
    rw [show 65 - (k + 1) = 64 - k by omega]
  · rw [e1, List.map_append, h.rows]
    congr 1
    refine List.map_congr_left fun y hy => ?_
    unfold rowL
    rw [he, waysI_pre (h.all y hy)]
  · rw [e1]
    intro y hy w hw'
    rcases List.mem_append.mp hy with q | q
    · rw [he]; exact List.mem_append_left _ (h.all y q w hw')
    · rw [List.mem_singleton.mp q] at hw' ⊢
      exact mem_addU hw'
  · rw [e1]
    intro y hy
    rcases List.mem_append.mp hy with q | q
    · exact h.small y q
    · rw [List.mem_singleton.mp q]; omega
theorem PInv.exit (h : PInv S c k l R) (hk : ¬ k < l.length) : statesOf S c = .states l ∧ R = l.map (rowL S c l) := by
  refine ⟨h.f.exit hk, ?_⟩
  rw [h.rows, List.take_of_length_le (by omega)]
def rowsDue (S : Script) (c : Nat) : List (List Int) := match statesOf S c with
  | .states l => l.map (rowL S c l)
  | _ => []
theorem PInv.due (h : PInv S c k l R) (hk : ¬ k < l.length) : partyAns S c = [] ∧ R = rowsDue S c ∧ R.length ≤ 64 ∧ ∀ r ∈ R, r.length ≤ 35 := by
  obtain ⟨h1, h2⟩ := h.exit hk
  refine ⟨h.f.clear hk, by unfold rowsDue; rw [h1]; exact h2, by have := h.f.len; rw [h2, List.length_map]; exact this, fun r hr => ?_⟩
  rw [h2] at hr
  obtain ⟨y, hy, rfl⟩ := List.mem_map.mp hr
  rw [rowL_len]
  have := h.small y (by rw [List.take_of_length_le (by omega)]; exact hy)
  omega
end
theorem check_cases {p : Int} {s : List (List Int)} (h : okScript (scr p s) = true) :
    (PyKh292.check p s = [0] ∧ Kh292.check (scr p s) = none ∧ ∀ c, c < p.toNat → partyAns (scr p s) c = []) ∨ (∃ c w : Nat, PyKh292.check p s = [1, (c : Int), (w : Int)] ∧ Kh292.check (scr p s) = some (c, .unclear w)) ∨
      (PyKh292.check p s = [-75] ∧ ∃ c, Kh292.check (scr p s) = some (c, .many)) := by
  by_cases hc : ∀ c, c < p.toNat → partyAns (scr p s) c = []
  · exact .inl ⟨ans_ok h hc, check_none hc, hc⟩
  · right
    have hex : ∃ n, n < p.toNat ∧ partyAns (scr p s) n ≠ [] := by
      refine Classical.byContradiction fun q => hc fun c hp => Classical.byContradiction fun q2 => q ⟨c, hp, q2⟩
    have hleast : ∃ c, c < p.toNat ∧ partyAns (scr p s) c ≠ [] ∧ ∀ c', c' < c → partyAns (scr p s) c' = [] := by
      obtain ⟨n, h1, h2⟩ := hex
      induction n using Nat.strongRecOn with
      | _ n ih =>
        by_cases hb : ∀ c', c' < n → partyAns (scr p s) c' = []
        · exact ⟨n, h1, h2, hb⟩
        · obtain ⟨m, hm1, hm2⟩ : ∃ m, m < n ∧ partyAns (scr p s) m ≠ [] := Classical.byContradiction fun q => hb fun c' hp => Classical.byContradiction fun q2 => q ⟨c', hp, q2⟩
          exact ih m hm1 (by omega) hm2
    obtain ⟨c, c1, c2, c3⟩ := hleast
    have e1 := ans_hit h c1 c3 c2
    have e2 := check_some (S := scr p s) c1 c3 c2
    unfold partyAns at e1 c2
    cases e : statesOf (scr p s) c with
    | states l => rw [e] at c2; exact absurd rfl c2
    | unclear w => rw [e] at e1 e2; exact .inl ⟨c, w, e1, e2⟩
    | many => rw [e] at e1 e2; exact .inr ⟨e1, c, e2⟩
theorem part_eq (p c : Int) (s : List (List Int)) : PyKh292.part p c s = (doing (.part (some (scr p s)) c.toNat)).value :: ((doing (.part (some (scr p s)) c.toNat)).nums.map Int.ofNat ++ (doing (.part (some (scr p s)) c.toNat)).part.flatMap rowInts) := rfl
theorem part_bad {p c : Int} {s : List (List Int)} (hc : 0 ≤ c) (hp : 0 ≤ p) (h : okScript (scr p s) = false ∨ p ≤ c) : PyKh292.part p c s = [-22] := by
  rw [part_eq]
  have : doing (.part (some (scr p s)) c.toNat) = say (-22) := by
    rw [doing, if_pos]
    rcases h with h | h
    · exact .inl h
    · right; show p.toNat ≤ c.toNat; omega
  rw [this]; rfl
section
variable {p c : Int} {s : List (List Int)}
theorem part_unclear (hp : 0 ≤ c) (h : okScript (scr p s) = true) (hc : c < p) {c' w : Nat} (e : Kh292.check (scr p s) = some (c', .unclear w)) : PyKh292.part p c s = [-71] := by
  rw [part_eq]
  have : doing (.part (some (scr p s)) c.toNat) = say (-71) := by
    rw [doing, if_neg (by rw [h]; show ¬ (true = false ∨ p.toNat ≤ c.toNat); simp; omega), e]
  rw [this]; rfl
theorem part_many (hp : 0 ≤ c) (h : okScript (scr p s) = true) (hc : c < p) {c' : Nat} (e : Kh292.check (scr p s) = some (c', .many)) : PyKh292.part p c s = [-75] := by
  rw [part_eq]
  have : doing (.part (some (scr p s)) c.toNat) = say (-75) := by
    rw [doing, if_neg (by rw [h]; show ¬ (true = false ∨ p.toNat ≤ c.toNat); simp; omega), e]
  rw [this]; rfl
theorem part_ok (hp : 0 ≤ c) (h : okScript (scr p s) = true) (hc : c < p) (e : Kh292.check (scr p s) = none) (h2 : partyAns (scr p s) c.toNat = []) :
    PyKh292.part p c s = ((rowsDue (scr p s) c.toNat).length : Int) :: (rowsDue (scr p s) c.toNat).flatten := by
  obtain ⟨l, hl⟩ := party_nil.mp h2
  rw [part_eq]
  have : doing (.part (some (scr p s)) c.toNat) = ⟨l.length, [], l.map (rowOf (scr p s) c.toNat l)⟩ := by
    rw [doing, if_neg (by rw [h]; show ¬ (true = false ∨ p.toNat ≤ c.toNat); simp; omega), e]
    dsimp only
    rw [hl]
  rw [this]
  unfold rowsDue
  rw [hl]
  dsimp only
  rw [List.length_map, List.flatMap_map, List.map_nil, List.nil_append]
  congr 1
  rw [List.flatMap_def]
  congr 1
  exact List.map_congr_left fun y hy => rowL_eq l
end
def kindI (c : Int) (rows : List (List Int)) : List Int := match rows with
  | [] => [0, 0]
  | r :: _ => if r0 r = c then [1, r1 r] else [2, r0 r]
theorem kind_eq {p : Int} {s : List (List Int)} (ok : ScOk p s) {c : Nat} {x : State} (hx : StOk (scr p s) c x) : kindI c (rowsOf s x) = [(kind (scr p s) c x : Int), (other (scr p s) c x : Int)] := by
  obtain ⟨places, over⟩ := x
  cases places with
  | nil => rfl
  | cons q rest =>
    have hq : s[q]? = some (s.getD q []) := ok.getD (ok.ltOf hx (by simp))
    have h0 := from_row ok hq
    have h1 := to_row ok hq
    show (if r0 (s.getD q []) = c then [1, r1 (s.getD q [])] else [2, r0 (s.getD q [])]) = [((if (at_ (scr p s) q).from_ = c then 1 else 2 : Nat) : Int), ((if (at_ (scr p s) q).from_ = c then (at_ (scr p s) q).to_ else (at_ (scr p s) q).from_ : Nat) : Int)]
    by_cases e : r0 (s.getD q []) = c
    · rw [if_pos e, if_pos (by omega), if_pos (by omega), h1]
      rfl
    · rw [if_neg e, if_neg (by omega), if_neg (by omega), h0]
      rfl
theorem mem_enc {S : Script} {c : Nat} (hn : S.places.length ≤ 32) {l : List State} (hl : ∀ z ∈ l, StOk S c z) {y : State} (hy : StOk S c y) : encS y ∈ l.map encS ↔ y ∈ l := by
  rw [List.mem_map]
  constructor
  · rintro ⟨z, hz, e⟩
    rw [← encS_inj (hl z hz) hy hn e]
    exact hz
  · exact fun h => ⟨y, h, rfl⟩
theorem idx_enc {S : Script} {c : Nat} (hn : S.places.length ≤ 32) : ∀ {l : List State}, (∀ z ∈ l, StOk S c z) → ∀ {y : State}, StOk S c y → (l.map encS).idxOf (encS y) = l.idxOf y
  | [], _, y, _ => rfl
  | a :: l, hl, y, hy => by
    have ih := idx_enc hn (l := l) (fun z hz => hl z (List.mem_cons_of_mem _ hz)) hy
    rw [List.map_cons, List.idxOf_cons, List.idxOf_cons, ih]
    by_cases q : a = y
    · subst q
      rw [beq_self_eq_true, beq_self_eq_true]
    · have h1 : ¬ encS a = encS y := fun e => q (encS_inj (hl a (by simp)) hy hn e)
      rw [beq_false_of_ne q, beq_false_of_ne h1]
end Mx
set_option Elab.async false
set_option linter.all false
set_option maxRecDepth 100000
set_option maxHeartbeats 4000000
namespace Pt
open PySem PySem.Spec PyProof.Rows L2
theorem same_rfl {H : Hp} : Same H H := fun _ _ h => h
theorem same_new {H H' : Hp} {p : Addr} {o : HO} (s : Same H H') (h : H p = none) : Same H (upd H' p o) := fun b u e => by
  rw [upd_ne (ne_of_none e h)]
  exact s b u e
theorem same_upd {H : Hp} {p : Addr} {o : HO} (h : H p = none) : Same H (upd H p o) := same_new same_rfl h
theorem same_ne {H H' : Hp} (s : Same H H') {p q : Addr} {o : HO} (h : H p = some o) (h' : H' q = none) : p ≠ q := ne_of_none (s _ _ h) h'
theorem inv_draw {X : Cx} {pins : List (Addr × Obj)} {σ : L2.St} {H : Hp} {s : Shared} (I : Inv X pins σ H s) (d : Drawn) : Inv X pins σ H { s with drawn := d } :=
  ⟨I.ok, I.os, I.bare, I.base, I.loc, I.cell, I.free, I.freeC, I.pin, I.hok, I.len⟩
def dI (ns : List Int) : PyData := .list (ns.map PyData.int)
def dR (rs : List (List Int)) : PyData := .list (rs.map dI)
theorem eqvAll_ints : ∀ ns ms : List Int, PyData.eqvAll (ns.map PyData.int) (ms.map PyData.int) = decide (ns = ms)
  | [], [] => by simp [PyData.eqvAll]
  | [], m :: ms => by simp [PyData.eqvAll]
  | n :: ns, [] => by simp [PyData.eqvAll]
  | n :: ns, m :: ms => by
    rw [List.map_cons, List.map_cons, PyData.eqvAll, eqvAll_ints ns ms, PyData.eqv]
    by_cases h1 : n = m
    · subst h1
      by_cases h2 : ns = ms
      · subst h2; simp
      · simp [h2]
    · simp [h1]
theorem eqv_ints (ns ms : List Int) : PyData.eqv (dI ns) (dI ms) = decide (ns = ms) := by
  unfold dI
  rw [PyData.eqv]
  exact eqvAll_ints ns ms
theorem eqv_rows_nil (rs : List (List Int)) : PyData.eqv (dR rs) (dI []) = decide (rs = []) := by
  unfold dR dI
  rw [PyData.eqv]
  cases rs with
  | nil => simp [PyData.eqvAll]
  | cons r rs => simp [PyData.eqvAll]
theorem lay_ints : ∀ ns : List Int, PyData.canLayAll0 (ns.map PyData.int) = true
  | [] => by simp [PyData.canLayAll0]
  | n :: ns => by rw [List.map_cons, PyData.canLayAll0, lay_ints ns, PyData.canLay0]; rfl
theorem lay_dI (ns : List Int) : (dI ns).canLay0 = true := by unfold dI; rw [PyData.canLay0]; exact lay_ints ns
theorem lay_rows : ∀ rs : List (List Int), PyData.canLayAll0 (rs.map dI) = true
  | [] => by simp [PyData.canLayAll0]
  | r :: rs => by rw [List.map_cons, PyData.canLayAll0, lay_rows rs, lay_dI]; rfl
theorem depth_ints : ∀ ns : List Int, PyData.depthAll (ns.map PyData.int) = 0
  | [] => by simp [PyData.depthAll]
  | n :: ns => by rw [List.map_cons, PyData.depthAll, depth_ints ns, PyData.depth]; rfl
theorem depth_dI (ns : List Int) : (dI ns).depth = 1 := by unfold dI; rw [PyData.depth, depth_ints]
theorem depth_rows : ∀ rs : List (List Int), PyData.depthAll (rs.map dI) ≤ 1
  | [] => by simp [PyData.depthAll]
  | r :: rs => by
    rw [List.map_cons, PyData.depthAll, depth_dI]
    have := depth_rows rs
    omega
theorem shaped_dI (ns : List Int) : SeqAt.shaped (dI ns) = true := by
  unfold SeqAt.shaped
  rw [lay_dI, depth_dI]
  decide
theorem shaped_dR (rs : List (List Int)) : SeqAt.shaped (dR rs) = true := by
  unfold SeqAt.shaped dR
  rw [PyData.canLay0, lay_rows, PyData.depth]
  have := depth_rows rs
  rw [decide_eq_true (by omega)]
  rfl
structure RowsAt (K : PySem.W.Frag) (H : Hp) (a : Addr) (as : List Addr) (rs : List (List Int)) : Prop where
  lst : SqL K H a (as.map V.ref)
  len : as.length = rs.length
  at_ : ∀ (j : Nat) (b : Addr) (r : List Int), as[j]? = some b → rs[j]? = some r → SqL K H b (r.map V.int)
section
variable {K : PySem.W.Frag} {H H' : Hp} {a : Addr} {as : List Addr} {rs : List (List Int)}
theorem RowsAt.same (h : RowsAt K H a as rs) (s : Same H H') : RowsAt K H' a as rs := ⟨s.seq h.lst, h.len, fun j b r e1 e2 => s.seq (h.at_ j b r e1 e2)⟩
theorem RowsAt.get (h : RowsAt K H a as rs) {j : Nat} {r : List Int} (hr : rs[j]? = some r) : ∃ b, as[j]? = some b ∧ (as.map V.ref)[j]? = some (.ref b) ∧ SqL K H b (r.map V.int) := by
  have hj := (List.getElem?_eq_some_iff.mp hr).1
  have hj' : j < as.length := by rw [h.len]; exact hj
  refine ⟨as[j], List.getElem?_eq_getElem hj', ?_, h.at_ j _ r (List.getElem?_eq_getElem hj') hr⟩
  rw [List.getElem?_map, List.getElem?_eq_getElem hj']
  rfl
theorem RowsAt.row (h : RowsAt K H a as rs) {j : Nat} {b : Addr} (hb : as[j]? = some b) : ∃ r, rs[j]? = some r ∧ SqL K H b (r.map V.int) := by
  have hj := (List.getElem?_eq_some_iff.mp hb).1
  have hj' : j < rs.length := by rw [← h.len]; exact hj
  exact ⟨rs[j], List.getElem?_eq_getElem hj', h.at_ j b _ hb (List.getElem?_eq_getElem hj')⟩
theorem dp_ints : ∀ ns : List Int, DpAll K H (ns.map V.int) (ns.map PyData.int)
  | [] => .nil
  | n :: ns => .cons (.int n) (dp_ints ns)
theorem dpI {b : Addr} {ns : List Int} (h : SqL K H b (ns.map V.int)) : Dp K H (.ref b) (dI ns) := .lst h (dp_ints ns)
theorem dp_rows : ∀ (as : List Addr) (rs : List (List Int)), as.length = rs.length → (∀ (j : Nat) (b : Addr) (r : List Int), as[j]? = some b → rs[j]? = some r → SqL K H b (r.map V.int)) → DpAll K H (as.map V.ref) (rs.map dI)
  | [], [], _, _ => .nil
  | [], _ :: _, h, _ => by simp at h
  | _ :: _, [], h, _ => by simp at h
  | b :: as, r :: rs, h, at_ => .cons (dpI (at_ 0 b r rfl rfl)) (dp_rows as rs (by simpa using h) fun j b' r' e1 e2 => at_ (j + 1) b' r' (by simpa using e1) (by simpa using e2))
theorem dpR (h : RowsAt K H a as rs) : Dp K H (.ref a) (dR rs) := .lst h.lst (dp_rows as rs h.len h.at_)
end
section
variable {X : Cx}
def rEqL (K : PySem.W.Frag) : R2 := fun x y H Q => ∃ a b ns ms, x = .ref a ∧ y = .ref b ∧ SqL K H a (List.map V.int ns) ∧ SqL K H b (List.map V.int ms) ∧ Q (.bl (decide (ns = ms))) H
def rNeL (K : PySem.W.Frag) : R2 := fun x y H Q => ∃ a b ns ms, x = .ref a ∧ y = .ref b ∧ SqL K H a (List.map V.int ns) ∧ SqL K H b (List.map V.int ms) ∧ Q (.bl (!decide (ns = ms))) H
theorem op_eqL (hu : X.A.units + 64 < cLine) : OpR X (compareOp .Eq) (rEqL X.K) := by
  intro pins s σ H x y v u Q I rx ry h
  obtain ⟨a, b, ns, ms, rfl, rfl, h1, h2, q⟩ := h
  exact op_eqD hu pins s σ H _ _ v u Q I rx ry ⟨dI ns, dI ms, dpI h1, dpI h2, shaped_dI _, shaped_dI _, by rw [eqv_ints]; exact q⟩
theorem op_neL (hu : X.A.units + 64 < cLine) : OpR X (compareOp .NotEq) (rNeL X.K) := by
  intro pins s σ H x y v u Q I rx ry h
  obtain ⟨a, b, ns, ms, rfl, rfl, h1, h2, q⟩ := h
  exact op_neD hu pins s σ H _ _ v u Q I rx ry ⟨dI ns, dI ms, dpI h1, dpI h2, shaped_dI _, shaped_dI _, by rw [eqv_ints]; exact q⟩
def rEqR (K : PySem.W.Frag) : R2 := fun x y H Q => ∃ a as rs b, x = .ref a ∧ y = .ref b ∧ RowsAt K H a as rs ∧ SqL K H b [] ∧ Q (.bl (decide (rs = []))) H
theorem op_eqR (hu : X.A.units + 64 < cLine) : OpR X (compareOp .Eq) (rEqR X.K) := by
  intro pins s σ H x y v u Q I rx ry h
  obtain ⟨a, as, rs, b, rfl, rfl, h1, h2, q⟩ := h
  exact op_eqD hu pins s σ H _ _ v u Q I rx ry ⟨dR rs, dI [], dpR h1, dpI (ns := []) h2, shaped_dR _, shaped_dI _, by rw [eqv_rows_nil]; exact q⟩
theorem any_rows (rs : List (List Int)) (ns : List Int) : ((rs.map dI).any fun y => PyData.eqv y (dI ns)) = decide (ns ∈ rs) := by
  rw [List.any_map]
  have e : ((fun y => PyData.eqv y (dI ns)) ∘ dI) = fun r => decide (r = ns) := by
    funext r
    exact eqv_ints r ns
  rw [e]
  rw [Bool.eq_iff_iff, List.any_eq_true, decide_eq_true_eq]
  constructor
  · rintro ⟨r, hr, e⟩
    rw [← of_decide_eq_true e]
    exact hr
  · exact fun h => ⟨ns, h, by simp⟩
def rNotInR (K : PySem.W.Frag) : R2 := fun x y H Q => ∃ b ns a as rs, x = .ref b ∧ y = .ref a ∧ SqL K H b (List.map V.int ns) ∧ RowsAt K H a as rs ∧ Q (.bl (!decide (ns ∈ rs))) H
theorem op_notInR (hu : X.A.units + 64 < cLine) : OpR X (compareOp .NotIn) (rNotInR X.K) := by
  intro pins s σ H x y v u Q I rx ry h
  obtain ⟨b, ns, a, as, rs, rfl, rfl, h1, h2, q⟩ := h
  obtain ⟨_, r1⟩ := Dp.reads I (dI ns) _ v (dpI h1) rx
  obtain ⟨_, r2⟩ := Dp.reads I (dR rs) _ u (dpR h2) ry
  refine SeqAt.notIn_list_reads (xs := rs.map dI) (d := dI ns) r2 r1 (lay_rows rs) (lay_dI ns) ?_ ⟨.bl _, H, I, rfl, ?_⟩
  · have := depth_rows rs
    rw [depth_dI]
    omega
  · rw [any_rows]
    exact q
def rIndexR (K : PySem.W.Frag) : V → List V → Hp → VK → Prop := fun x xs H Q => ∃ a as rs b ns, x = .ref a ∧ xs = [.ref b] ∧ RowsAt K H a as rs ∧ SqL K H b (List.map V.int ns) ∧ ns ∈ rs ∧ Q (.int (rs.idxOf ns : Nat)) H
theorem idxOf_at {rs : List (List Int)} {ns : List Int} (h : ns ∈ rs) : rs[rs.idxOf ns]? = some ns ∧ ∀ (m : Nat) (r : List Int), m < rs.idxOf ns → rs[m]? = some r → ¬ r = ns := by
  induction rs with
  | nil => simp at h
  | cons a rs ih =>
    rw [List.idxOf_cons]
    by_cases e : a = ns
    · subst e
      rw [beq_self_eq_true]
      exact ⟨rfl, fun m r hm => by simp at hm⟩
    · rw [beq_false_of_ne e]
      have h' : ns ∈ rs := by
        rcases List.mem_cons.mp h with z | z
        · exact absurd z.symm e
        · exact z
      obtain ⟨i1, i2⟩ := ih h'
      refine ⟨by simpa using i1, fun m r hm hr => ?_⟩
      cases m with
      | zero =>
        have : a = r := by simpa using hr
        rw [← this]; exact e
      | succ m => exact i2 m r (by simpa using hm) (by simpa using hr)
theorem mt_indexR (hu : X.A.units + 64 < cLine) : MtR X "list.index" (rIndexR X.K) := by
  intro pins s σ H x xs v us Q I rx rxs h
  obtain ⟨a, as, rs, b, ns, rfl, rfl, h1, h2, hm, q⟩ := h
  obtain ⟨uy, rfl, ry⟩ := vals1 rxs
  obtain ⟨_, r1⟩ := Dp.reads I (dI ns) _ uy (dpI h2) ry
  cases rx
  obtain ⟨its, rv, ⟨⟨cls, dd, data, sl⟩, n, ho, hc, hdn, hd⟩, hlen⟩ := I.list h1.lst
  simp only at hc hd
  subst hc hd
  obtain ⟨_, r2⟩ := Dp.readsAll I (rs.map dI) _ its (dp_rows as rs h1.len h1.at_) rv
  have hvl := rv.length
  rw [List.length_map, h1.len] at hvl
  have hsl := sizeLine_eq
  rw [List.length_map, h1.len] at hlen
  obtain ⟨i1, i2⟩ := idxOf_at hm
  have hj := (List.getElem?_eq_some_iff.mp i1).1
  have hmap := SeqAt.readsAll_map (rs.map dI) its _ (lay_rows rs) r2
  have rd : ∀ (m : Nat) (hm : m < its.length) (r : List Int), rs[m]? = some r → SeqAt.readOf s.heap its[m] = dI r := fun m hm r hr => by
    have e1 : (its.map (SeqAt.readOf s.heap))[m]? = some (dI r) := by
      rw [hmap, List.getElem?_map, hr]
      rfl
    rw [List.getElem?_map, List.getElem?_eq_getElem hm] at e1
    exact Option.some.inj e1
  refine call_meets PySem.F.slot_list_index ⟨_, ho, rfl⟩ PySem.F.entry_list_index (PySem.F.args_list_index_2 _ _)
    (SeqAt.list_indexAt a its.toArray n dd sl uy (fun y => PyData.eqv (SeqAt.readOf s.heap y) (dI ns)) (rs.idxOf ns) (by simp; omega) (by omega) ?_ ?_) ⟨ho, SeqAt.items_eqAt (xs := rs.map dI) (by simpa using r2) r1 (lay_rows rs) (lay_dI ns) ?_, ?_⟩
  · have hj' : rs.idxOf ns < its.length := by omega
    have e := rd _ hj' ns i1
    show PyData.eqv (SeqAt.readOf s.heap its.toArray[rs.idxOf ns]) (dI ns) = true
    rw [show its.toArray[rs.idxOf ns] = its[rs.idxOf ns] by simp, e, eqv_ints]
    simp
  · intro m hm' hmj
    have hml : m < its.length := by simpa using hm'
    have hmr : m < rs.length := by omega
    have e := rd m hml _ (List.getElem?_eq_getElem hmr)
    show PyData.eqv (SeqAt.readOf s.heap its.toArray[m]) (dI ns) = false
    rw [show its.toArray[m] = its[m] by simp, e, eqv_ints]
    exact decide_eq_false (i2 m _ hmj (List.getElem?_eq_getElem hmr))
  · have := depth_rows rs
    rw [depth_dI]
    omega
  · exact ⟨.int _, H, I.tok _, ⟨_, rfl⟩, q⟩
end
def dist (ns : List Int) : List Int := firstMet (fun i => ns.getD i 0) ns.length
theorem dist_aux (ns : List Int) : ∀ i, i ≤ ns.length → firstMet (fun i => ns.getD i 0) i = (ns.take i).foldl (fun f t => if t ∈ f then f else f ++ [t]) []
  | 0, _ => rfl
  | i + 1, h => by
    rw [firstMet_succ, dist_aux ns i (by omega), List.take_succ, List.getElem?_eq_getElem (by omega)]
    rw [Option.toList_some, List.foldl_append]
    unfold step_dedup
    simp only [List.foldl_cons, List.foldl_nil]
    rw [List.getD_eq_getElem?_getD, List.getElem?_eq_getElem (by omega), Option.getD_some]
    generalize List.foldl (fun f t => if t ∈ f then f else f ++ [t]) [] (List.take i ns) = F
    by_cases e : ns[i] ∈ F
    · rw [if_pos e, if_pos]
      exact List.any_eq_true.mpr ⟨_, e, by simp⟩
    · rw [if_neg e, if_neg]
      intro q
      obtain ⟨z, hz, e'⟩ := List.any_eq_true.mp q
      exact e ((by simpa using e') ▸ hz)
theorem fold_mem {z : Int} : ∀ (l f : List Int), z ∈ l.foldl (fun f t => if t ∈ f then f else f ++ [t]) f ↔ z ∈ f ∨ z ∈ l
  | [], f => by simp
  | t :: l, f => by
    rw [List.foldl_cons, fold_mem l]
    split
    · rename_i h
      constructor
      · rintro (a | a)
        · exact .inl a
        · exact .inr (List.mem_cons_of_mem _ a)
      · rintro (a | a)
        · exact .inl a
        · rcases List.mem_cons.mp a with e | e
          · exact .inl (e ▸ h)
          · exact .inr e
    · rw [List.mem_append, List.mem_singleton, List.mem_cons]
      constructor
      · rintro ((a | a) | a)
        · exact .inl a
        · exact .inr (.inl a)
        · exact .inr (.inr a)
      · rintro (a | a | a)
        · exact .inl (.inl a)
        · exact .inl (.inr a)
        · exact .inr a
theorem fold_nodup : ∀ (l f : List Int), f.Nodup → (l.foldl (fun f t => if t ∈ f then f else f ++ [t]) f).Nodup
  | [], f, h => h
  | t :: l, f, h => by
    rw [List.foldl_cons]
    refine fold_nodup l _ ?_
    split
    · exact h
    · rename_i hn
      rw [List.nodup_append]
      refine ⟨h, by simp, fun a ha b hb e => ?_⟩
      rw [List.mem_singleton.mp hb] at e
      exact hn (e ▸ ha)
theorem dist_eq (ns : List Int) : dist ns = ns.foldl (fun f t => if t ∈ f then f else f ++ [t]) [] := by
  unfold dist
  rw [dist_aux ns ns.length (Nat.le_refl _), List.take_length]
theorem dist_mem {ns : List Int} {z : Int} : z ∈ dist ns ↔ z ∈ ns := by rw [dist_eq, fold_mem]; simp
theorem dist_nodup (ns : List Int) : (dist ns).Nodup := by rw [dist_eq]; exact fold_nodup _ _ (by simp)
theorem dist_len {ns : List Int} : (dist ns).length = ns.length ↔ ns.Nodup := by
  constructor
  · intro h
    have p : ns.Perm (dist ns) := Ls.perm_of_sub (dist_nodup ns) (fun z hz => dist_mem.mp hz) (by omega)
    exact p.nodup_iff.mpr (dist_nodup ns)
  · intro h
    have h1 : (dist ns).length ≤ ns.length := firstMet_length_le _ _
    have h2 : ns.length ≤ (dist ns).length := List.Nodup.length_le_of_subset h fun z hz => dist_mem.mpr hz
    omega
def setO (P : Program) (w : World) (l : Addr) (ns : List Int) : HO := .ext fun h => Ls.SetUp P w h l (fun i => ns.getD i 0) ns.length
section
variable {X : Cx}
theorem call_setI (hc : X.calm = true) : CallR X (.type "set") (fun vs H Q => ∃ a ns, vs = [V.ref a] ∧ SqL X.K H a (List.map V.int ns) ∧ ns.length ≤ 1000 ∧ ∀ l, H l = none → Q (.ref l) (upd H l (setO X.prog X.w l ns))) := by
  intro pins s σ H vs us Q I r h
  obtain ⟨a, ns, rfl, hs, hb, q⟩ := h
  obtain ⟨its, rv, hl, _⟩ := I.list hs
  rw [Vals.ref1 r]
  have hi := rv.ints
  have hlen : its.length = ns.length := hi.length
  refine Ls.set_list (I.ok.hd hc) hl.isList (by simpa using hi) (by unfold scanBound; simp; omega) fun h' tk x kp => ?_
  have e : its.toArray.size = ns.length := by simpa using hlen
  rw [e] at x
  refine ⟨.ref s.heap.objs.size, _, I.laid (t' := tk) (fun b o e => kp b o (Heap.lt_size e) e) (Nat.le_refl _) (o := setO X.prog X.w s.heap.objs.size ns) ?_, rfl, q _ (I.hok.fresh (Nat.le_refl _))⟩
  refine ⟨x, ?_, fun h1 h2 x1 k => x1.keep k⟩
  obtain ⟨o, _, _, _, ⟨ho, _⟩, _⟩ := x
  exact ⟨o, ho⟩
theorem call_lenSet : CallR X (.builtin "len") (fun vs H Q => ∃ a ns, vs = [V.ref a] ∧ H a = some (setO X.prog X.w a ns) ∧ Q (.int (dist ns).length) H) := by
  intro pins s σ H vs us Q I r h
  obtain ⟨a, ns, rfl, hs, q⟩ := h
  rw [Vals.ref1 r]
  have x : Ls.SetUp X.prog X.w s.heap a (fun i => ns.getD i 0) ns.length := (I.hok a _ hs).1
  exact Ls.set_len x ⟨.int _, H, I.tok _, ⟨_, rfl⟩, q⟩
theorem call_sortedSet (hc : X.calm = true) : CallR X (.builtin "sorted") (fun vs H Q => ∃ a ns, vs = [V.ref a] ∧ H a = some (setO X.prog X.w a ns) ∧ ns.length ≤ 1000 ∧
    ∀ p ns', H p = none → List.Pairwise (· < ·) ns' → (∀ z : Int, z ∈ ns' ↔ z ∈ ns) → Q (.ref p) (upd H p (.lst (List.map V.int ns')))) := by
  intro pins s σ H vs us Q I r h
  obtain ⟨a, ns, rfl, hs, hb, q⟩ := h
  rw [Vals.ref1 r]
  have x : Ls.SetUp X.prog X.w s.heap a (fun i => ns.getD i 0) ns.length := (I.hok a _ hs).1
  refine Ls.sorted_set (ks := dist ns) (I.ok.hd hc) x (dist_nodup ns) rfl (fun k => ?_) fun h1 D h' tk d vs ns' c kp lt0 kp2 e hi pm up => ?_
  · rw [List.any_eq_true]
    exact ⟨fun ⟨z, hz, e⟩ => (by simpa using e) ▸ hz, fun hk => ⟨k, hk, by simp⟩⟩
  · have I1 : Inv X pins σ H { s with heap := h1, toks := tk } := I.kept (t' := tk) kp
    have len1 : (dist ns).length ≤ ns.length := firstMet_length_le _ _
    have hlen : (ns'.map V.int).length ≤ sizeLine := by rw [List.length_map, pm.length_eq, sizeLine_eq]; omega
    refine ⟨.ref D, _, inv_draw (I1.laid (t' := tk) (h' := h') (o := .lst (ns'.map V.int)) kp2 lt0 ⟨hlen, vs, c, vals_of_ints hi, e⟩) d, rfl, q D ns' (I1.hok.fresh lt0) (Mx.rising_of up (pm.nodup_iff.mpr (dist_nodup ns))) fun z => ?_⟩
    rw [pm.mem_iff, dist_mem]
end
def viewO (v d : Addr) : HO := .ext fun h => PySem.W.KdlKeysView h v d
section
variable {X : Cx}
theorem mt_keys : MtR X "dict.keys" (fun x xs H Q => ∃ d kvs, x = .ref d ∧ xs = [] ∧ H d = some (.dK kvs) ∧ ∀ v, H v = none → Q (.ref v) (upd H v (viewO v d))) := by
  intro pins s σ H x xs v us Q I rx rxs h
  obtain ⟨d, kvs, rfl, rfl, hd, q⟩ := h
  cases rx
  cases rxs
  obtain ⟨hz, hS, vs, kv, m⟩ := dk_of I.hok hd
  refine call_meetsIn PySem.F.slot_dict_keys m.typeIs PySem.F.entry_dict_keys (PySem.F.args_dict_keys_1 _) (PySem.W.kdl_meets_keys (mixKind X.prog X.w) d hS) ⟨⟨vs, m⟩, ?_⟩
  refine ⟨.ref s.heap.objs.size, _, I.laid (t' := s.toks) (o := viewO s.heap.objs.size d) (fun b o e => Heap.get?_push_of_some _ e) (Nat.le_refl _) ?_, rfl, q _ (I.hok.fresh (Nat.le_refl _))⟩
  refine ⟨⟨_, Heap.get?_push_size _ rfl, rfl, rfl⟩, ⟨_, Heap.get?_push_size _ rfl⟩, fun h1 h2 x k => ?_⟩
  obtain ⟨o, ho, r⟩ := x
  exact ⟨o, k o ho, r⟩
end
section
variable {prog : Program} {w : World} {A : Around} {E : Value → Shared → Prop} {s : Shared} {T : String} {r d : Addr} {n : Nat} {P : Nat → Value → Prop} {OK : Heap → Prop}
theorem collect_src {Q : List Value → Shared → Prop} (K : PySem.W.KdlSrc prog w T r d n P OK) (hh : A.handled = none) (hok : OK s.heap) (hn : n ≤ sizeLine)
    (hQ : ∀ h' tk acc, (∀ b o, s.heap.get? b = some o → h'.get? b = some o) → ItemsOf P acc n → Q acc.toList { s with heap := h', toks := tk }) : wpAny (model prog w) A (collect (.ref r)) Q E s := by
  have hlt := K.there _ hok
  have key : ∀ (R : Result → Shared → Prop), (∀ h' tk acc' c', (∀ b o, s.heap.get? b = some o → h'.get? b = some o) → h'.get? s.heap.objs.size = some { cls := .type "list", dict := none, data := .seq acc' c', slots := #[] } → ItemsOf P acc' n → R (.ok (.ret (.ref s.heap.objs.size))) { s with heap := h', toks := tk }) →
      codeAny (model prog w) A (.builtin "proto.collect" ⟨[.ref r], []⟩) R s := by
    intro R hR
    refine codeAny_builtin PySem.F.entry_proto_collect ?_
    rw [Around.under_plainId PySem.F.plain_proto_collect _]
    show wpAny _ A.in1 (newList [] >>= fun l => again (.builtin "list.__iadd__" ⟨[l, .ref r], []⟩)) _ _ s
    refine wpAny_bind (wpAny_newObj_type ?_)
    refine wpAny_pure ⟨plainId_quiet PySem.F.plain_list_iadd _, codeAny_builtin PySem.F.entry_list_iadd ?_⟩
    rw [Around.under_plainId PySem.F.plain_list_iadd _]
    show wpAny _ A.in1 (Builtin.List.listExtendWith (.ref s.heap.objs.size) (.ref r) (.ref s.heap.objs.size)) _ _ _
    have hS : (s.heap.push { cls := .type "list", data := .seq ([] : List Value).toArray }).get? s.heap.objs.size = some { cls := .type "list", data := .seq #[] } := Heap.get?_push_size _ rfl
    refine PySem.W.kdl_extend (R := R) (A := A) (s := { s with heap := s.heap.push { cls := .type "list", data := .seq ([] : List Value).toArray } }) K hh (K.keep _ _ hok fun b _ o e => Heap.get?_push_of_some _ e) s.heap.objs.size (Nat.ne_of_gt hlt.1) (Nat.ne_of_gt hlt.2) _ _ hS (fun h' tk acc' c' hk hS' hacc => ?_) hn
    exact hR h' tk acc' c' (fun b o e => hk b o (Nat.ne_of_lt (Heap.lt_size e)) (Heap.get?_push_of_some _ e)) hS' hacc
  unfold collect
  refine wpAny_bind (wpAny_runValue (key _ fun h' tk acc' c' kp hS' hacc => ?_))
  show wpAny _ A (load s.heap.objs.size >>= _) _ _ _
  refine wpAny_bind (wpAny_load hS' ?_)
  exact wpAny_pure (hQ h' tk acc' kp hacc)
end
section
variable {X : Cx}
theorem keys_ints {P : Program} {w : World} : ∀ {ks : List Int} {vs : List (Key × Value)} {us : List Value}, vs.map (·.1) = ks.map Sum.inl → us.length = vs.length → (∀ (j : Nat) (v : Value), us[j]? = some v → ∃ k x, vs[j]? = some (k, x) ∧ (mixKind P w).is k v = true) → IntsAre us ks
  | [], [], us, _, hl, _ => by
    have : us = [] := List.eq_nil_of_length_eq_zero hl
    rw [this]
    exact .nil
  | [], _ :: _, _, h, _, _ => by simp at h
  | _ :: _, [], _, h, _, _ => by simp at h
  | k :: ks, (k', x) :: vs, [], _, hl, _ => by simp at hl
  | k :: ks, (k', x) :: vs, u :: us, h, hl, hu => by
    rw [List.map_cons, List.map_cons] at h
    injection h with e1 e2
    have e1' : k' = Sum.inl k := e1
    obtain ⟨k2, x2, q1, q2⟩ := hu 0 u rfl
    have q1' : (k', x) = (k2, x2) := Option.some.inj q1
    injection q1' with q3 q4
    rw [← q3, e1'] at q2
    obtain ⟨t, ht⟩ := Value.isInt_shape (show Value.isInt k u = true from q2)
    rw [ht]
    exact .cons k t (keys_ints e2 (by simpa using hl) fun j v hv => by simpa using hu (j + 1) v (by simpa using hv))
theorem call_sortedKeys (hc : X.calm = true) : CallR X (.builtin "sorted") (fun vs H Q => ∃ v d kvs ks, vs = [V.ref v] ∧ H v = some (viewO v d) ∧ H d = some (.dK kvs) ∧ List.map (·.1) kvs = List.map Sum.inl ks ∧
    ∀ p ns', H p = none → List.Pairwise (· ≤ ·) ns' → List.Perm (α := Int) ns' ks → Q (.ref p) (upd H p (.lst (List.map V.int ns')))) := by
  intro pins s σ H vs us Q I r h
  obtain ⟨v, d, kvs, ks, rfl, hv, hd, hk, q⟩ := h
  rw [Vals.ref1 r]
  have x : PySem.W.KdlKeysView s.heap v d := (I.hok v _ hv).1
  obtain ⟨hz, hS, vs, kv, m⟩ := dk_of I.hok hd
  obtain ⟨ep, mAt⟩ := m.dictAt
  have hl : kvs.length = vs.length := Paired.length kv
  have hk2 : vs.map (·.1) = ks.map Sum.inl := by
    rw [← hk]
    have : ∀ {l : List (Key × V)} {m : List (Key × Value)}, KV l m → m.map (·.1) = l.map (·.1) := by
      intro l m h
      induction h with
      | nil => rfl
      | cons r t ih => rw [List.map_cons, List.map_cons, ih, r.1]
    exact this kv
  have hkl : ks.length = vs.length := by
    have := congrArg List.length hk2
    simpa using this.symm
  refine Ls.sorted_of (ms := ks) (fun R hR => collect_src (A := X.A.in1) (PySem.W.kdl_keys (knd := mixKind X.prog X.w) (kvs := vs) (ep := ep)) (by simpa using I.ok.hd hc) ⟨x, mAt⟩ (by omega) fun h' tk acc kp hi => ?_) (by omega) fun h1 D h' tk dr us ns' c kp lt0 kp2 e hi pm up => ?_
  · exact hR h' tk s.drawn acc.toList ks kp (keys_ints (P := X.prog) (w := X.w) hk2 (by simpa using hi.1) fun j u hu => hi.2 j u (by rw [← Array.getElem?_toList]; exact hu)) (List.Perm.refl _)
  · have I1 : Inv X pins σ H { s with heap := h1, toks := tk } := I.kept (t' := tk) kp
    have hlen : (ns'.map V.int).length ≤ sizeLine := by rw [List.length_map, pm.length_eq]; omega
    exact ⟨.ref D, _, inv_draw (I1.laid (t' := tk) (h' := h') (o := .lst (ns'.map V.int)) kp2 lt0 ⟨hlen, us, c, vals_of_ints hi, e⟩) dr, rfl, q D ns' (I1.hok.fresh lt0) up pm⟩
end
end Pt
set_option Elab.async false
set_option linter.all false
set_option maxRecDepth 100000
set_option maxHeartbeats 4000000
namespace Pt
open PySem PySem.Spec PyProof.Rows L2 Mx
def top (i : Nat) : Stmt := PySem.Challenge.pw_partscript_s01_check.main.body.getD (20 + i) (.Pass ⟨0, 0, 0, 0⟩)
abbrev sWordsAt : Stmt := top 0
abbrev sNextsAt : Stmt := top 1
abbrev sIsAt : Stmt := top 2
abbrev sIsPlace : Stmt := top 3
abbrev sIsScript : Stmt := top 4
abbrev sWalk : Stmt := top 5
abbrev sStopsOf : Stmt := top 6
abbrev sAllComings : Stmt := top 7
abbrev sComingFrom : Stmt := top 8
abbrev sPlacesIn : Stmt := top 9
abbrev sWordsIn : Stmt := top 10
abbrev sStateBehind : Stmt := top 11
abbrev sSpeaksAlike : Stmt := top 12
abbrev sFaultSpeaker : Stmt := top 13
abbrev sFaultListener : Stmt := top 14
abbrev sFaultState : Stmt := top 15
abbrev sTrouble : Stmt := top 16
abbrev sKind : Stmt := top 17
abbrev sRowOf : Stmt := top 18
abbrev sWalkParty : Stmt := top 19
abbrev sCheck : Stmt := top 20
structure Txt (K : PySem.W.Frag) (mg : Str → Option Value) : Prop where
  len : mg "len" = none
  range : mg "range" = none
  set : mg "set" = none
  all : mg "all" = none
  any : mg "any" = none
  sorted : mg "sorted" = none
  zip : mg "zip" = none
  OVER : ∃ t, mg "OVER" = some (.int 255 t)
  KEPT : ∃ t, mg "KEPT" = some (.int 0 t)
  NOT_CLEAR : ∃ t, mg "NOT_CLEAR" = some (.int 1 t)
  NO_SCRIPT : ∃ t, mg "NO_SCRIPT" = some (.int (-22) t)
  TOO_MUCH : ∃ t, mg "TOO_MUCH" = some (.int (-75) t)
  LEAST_PARTIES : ∃ t, mg "LEAST_PARTIES" = some (.int 2 t)
  MOST_PARTIES : ∃ t, mg "MOST_PARTIES" = some (.int 8 t)
  MOST_PLACES : ∃ t, mg "MOST_PLACES" = some (.int 32 t)
  MOST_WORDS : ∃ t, mg "MOST_WORDS" = some (.int 16 t)
  MOST_STATES : ∃ t, mg "MOST_STATES" = some (.int 64 t)
  CLEAR : ∃ t, mg "CLEAR" = some (.int 0 t)
  OVER_AMONG_PLACES : ∃ t, mg "OVER_AMONG_PLACES" = some (.int 1 t)
  SPEAKS_AND_LISTENS : ∃ t, mg "SPEAKS_AND_LISTENS" = some (.int 2 t)
  SPEAKS_UNLIKE : ∃ t, mg "SPEAKS_UNLIKE" = some (.int 3 t)
  LISTENS_TO_SEVERAL : ∃ t, mg "LISTENS_TO_SEVERAL" = some (.int 4 t)
  NOTHING_MORE : ∃ t, mg "NOTHING_MORE" = some (.int 0 t)
  SPEAKS : ∃ t, mg "SPEAKS" = some (.int 1 t)
  LISTENS : ∃ t, mg "LISTENS" = some (.int 2 t)
  lens : ∃ a, mg "PLACE_LENGTHS" = some (.ref a) ∧ ∀ H, SqT K H a [.int 4, .int 6, .int 8, .int 10]
structure Has (K : PySem.W.Frag) (mg : Str → Option Value) (x : Str) (st : Stmt) : Prop where
  ex : ∃ f fd, Fun K x x st f fd ∧ mg x = some (.ref f)
structure Def (P : Program) (w : World) (K : PySem.W.Frag) (mg : Str → Option Value) (base : Heap) (x : Str) (k : Nat) (ps : List Str) (sp : Sp) : Prop where
  ex : ∃ f fd, mg x = some (.ref f) ∧ PySem.W.keepIn K (.ref f) = true ∧ Binds K fd ps [] ∧ (∃ o, K.lookup f = some o ∧ o.data = .func fd) ∧ FnOk P w K mg base CX0 k f fd ps sp
section
variable {P : Program} {w : World} {K : PySem.W.Frag} {mg : Str → Option Value} {base : Heap}
theorem Def.mono {x : Str} {j k : Nat} {ps : List Str} {sp : Sp} (D : Def P w K mg base x j ps sp) (h : j ≤ k) : Def P w K mg base x k ps sp :=
  let ⟨f, fd, h1, h2, h3, h5, h4⟩ := D.ex
  ⟨f, fd, h1, h2, h3, h5, h4.mono h⟩
theorem def_of {x : Str} {st : Stmt} {N ps : List Str} {k : Nat} {sp : Sp} (h : Has K mg x st)
    (hb : ∀ (kV doc pm : Value) (an : Option Addr) (cdv ct : Value) (us : List Value), us.length = ps.length → bindArgs (PySem.W.fnOf x x (defArgs st) (defBody st) (defScope st) .none kV doc pm an cdv ct) ⟨us, []⟩ = pure (ps.zip us))
    (S : FnScope N ps (defScope st)) (len : ∀ vs H Q E, sp vs H Q E → vs.length = ps.length)
    (hbody : ∀ (f : Addr) (cdv : Value) (A : Around) (outer : List Env) (s : Shared) (H : Hp) (vs : List V) (Q : VK) (E : XK), Room k (A.deeper (envOfC x (defScope st) s.heap.objs.size f cdv)) → sp vs H Q E →
      ∃ t, PSs (cxOf CX0 P w K mg base N x (defScope st) f cdv A outer s H E).nox (defBody st) t ∧ t { nx := fun _ H' => Q .non H', rt := Q } (start N vs) H) : Def P w K mg base x (k + 1) ps sp := by
  obtain ⟨f, fd, F, hm⟩ := h.ex
  exact ⟨f, fd, hm, F.kp, F.binds hb, let ⟨_, _, _, _, _, _, _, _, _, _, lk, _⟩ := F.ex; ⟨_, lk, rfl⟩, F.ok S len fun cdv A outer s H vs Q E hr hs => hbody f cdv A outer s H vs Q E hr hs⟩
end
section
variable {X : Cx}
theorem pe_def {x : Str} {k : Nat} {ps : List Str} {sp : Sp} {p pos : Pos} {e : Expr} {es : List Expr} {t : TA} (D : Def X.prog X.w X.K X.mg X.base x k ps sp) (hr : Room k X.A) (hg : Gl X x) (ha : PA X (e :: es) t)
    (hdb : (x == ("__debug__" : Str)) = false := by decide) (he : starEach (e :: es) X.env = (false, eval e X.env) :: starEach es X.env := by rfl) (hpl : (backTo pos (starEach es X.env)).any (·.1) = false := by rfl) :
    PE X (.Call (.Name x p) (e :: es) [] pos) (tCall sp [] E0 t) := by
  obtain ⟨f, fd, hm, hk, hb, _, F⟩ := D.ex
  exact pe_call F hr hg hm hk hb .nil pass0 ha hdb he hpl
theorem ixl (K : PySem.W.Frag) (e : X.K = K := by rfl) : IxR X (rIxL K) := by
  subst e
  exact ix_list
theorem lenK (K : PySem.W.Frag) (e : X.K = K := by rfl) : CallR X (.builtin "len") (fun xs H Q => ∃ p ys, xs = [.ref p] ∧ (SqL K H p ys ∨ SqT K H p ys) ∧ Q (.int ys.length) H) := by
  subst e
  exact call_len_seq
theorem eqLK (K : PySem.W.Frag) (hu : X.A.units + 64 < cLine) (e : X.K = K := by rfl) : OpR X (compareOp .Eq) (rEqL K) := by
  subst e
  exact op_eqL hu
theorem pe_gi {x : Str} {i : Int} {pos : Pos} (h : ∃ t, X.mg x = some (.int i t)) (hg : Gl X x) (hd : (x == ("__debug__" : Str)) = false := by decide) : PE X (.Name x pos) (tC (.int i)) := by
  obtain ⟨t, h⟩ := h
  exact pe_glob hg h ⟨t, rfl⟩ hd
end
theorem iteB {b : Bool} {A B : Prop} (h1 : b = true → A) (h2 : b = false → B) : if b = true then A else B := by
  cases b with
  | true => exact iteT (h1 rfl)
  | false => exact iteF (h2 rfl)
theorem yesT {σ : L2.St} {H : Hp} {A B : Hp → Prop} (h : A H) : tYes σ H fun b H3 => if b = true then A H3 else B H3 := by
  show if true = true then A H else B H
  rw [if_pos rfl]
  exact h
theorem dV (a b : Int) : decide (V.int a = V.int b) = decide (a = b) := by
  by_cases h : a = b
  · subst h; simp
  · rw [decide_eq_false h, decide_eq_false (fun e => h (V.int.inj e))]
theorem take_map {α β : Type} (f : α → β) : ∀ {l : List α} {i : Nat} {x : α}, l[i]? = some x → (l.take (i + 1)).map f = (l.take i).map f ++ [f x]
  | [], i, x, h => by simp at h
  | a :: l, 0, x, h => by
    have e : a = x := Option.some.inj h
    subst e
    rfl
  | a :: l, i + 1, x, h => by
    have ih := take_map f (l := l) (i := i) (x := x) h
    show f a :: (l.take (i + 1)).map f = f a :: (l.take i).map f ++ [f x]
    rw [ih]
    rfl
theorem take_snoc {α : Type} {l : List α} {i : Nat} {x : α} (h : l[i]? = some x) : l.take (i + 1) = l.take i ++ [x] := by
  have := take_map id h
  simpa using this
theorem map_at {α β : Type} {f : α → β} {l : List α} {i : Nat} {y : β} (h : (l.map f)[i]? = some y) : ∃ x, l[i]? = some x ∧ y = f x := by
  rw [List.getElem?_map] at h
  cases e : l[i]? with
  | none => rw [e] at h; cases h
  | some x => rw [e] at h; exact ⟨x, rfl, (Option.some.inj h).symm⟩
theorem at_map {α β : Type} {f : α → β} {l : List α} {i : Nat} {x : α} (h : l[i]? = some x) : (l.map f)[i]? = some (f x) := by rw [List.getElem?_map, h]; rfl
theorem row0 {r : List Int} (ok : RowOk r) : atI (r.map V.int) 0 = some (.int (r0 r)) := at_of (j := 0) rfl (at_map ok.at0)
theorem row1 {r : List Int} (ok : RowOk r) : atI (r.map V.int) 1 = some (.int (r1 r)) := at_of (j := 1) rfl (at_map ok.at1)
structure Src (J : It) (H1 : Hp) (n : Nat) (val : Nat → V → Prop) : Prop where
  go : ∀ i H, Same H1 H → i < n → J.go i H
  stop : ∀ i H, Same H1 H → n ≤ i → J.stop i H
  yld : ∀ i H x H', Same H1 H → i < n → J.yld i H x H' → H' = H ∧ val i x
theorem src_list {K : PySem.W.Frag} {H1 : Hp} {a : Addr} {xs : List V} (h : SqL K H1 a xs) : Src (Itl K a) H1 xs.length (fun i x => xs[i]? = some x) :=
  ⟨fun i H s hi => ⟨xs, xs[i], s.seq h, List.getElem?_eq_getElem hi⟩, fun i H s hi => ⟨xs, s.seq h, hi⟩, fun i H x H' s hi y => ⟨y.1, y.2 xs (s.seq h)⟩⟩
theorem src_rng {H1 : Hp} (lo : Int) (n : Nat) : Src (Itr lo n) H1 n (fun i x => x = .int (lo + i)) :=
  ⟨fun i H s hi => hi, fun i H s hi => hi, fun i H x H' s hi y => ⟨y.1, y.2⟩⟩
theorem src_rngC {H1 : Hp} (lo c : Int) (n : Nat) : Src (Itc lo c n) H1 n (fun i x => x = .int (lo + (i : Nat) * c)) :=
  ⟨fun i H s hi => hi, fun i H s hi => hi, fun i H x H' s hi y => ⟨y.1, y.2⟩⟩
theorem lc_by {J : It} {n : Nat} {val : Nat → V → Prop} {g : TG} {tt : TT} {te : TE} {vs : List Nat} {σ : L2.St} {H1 : Hp} {D : Addr} {Qd : Hp → Prop} (S : Src J H1 n val) (Pv : Nat → Hp → Prop) (h0 : Pv 0 (upd H1 D (.lst [])))
    (hS : ∀ i H, Pv i H → Same H1 H)
    (hs : ∀ i x H, i < n → val i x → Pv i H → g x (wipe σ vs) H fun σ2 H2 => wipe σ2 vs = wipe σ vs ∧ tt σ2 H2 fun b H3 =>
      if b = true then te σ2 H3 fun y H4 => ∃ acc, H4 D = some (.lst acc) ∧ acc.length < sizeLine ∧ Pv (i + 1) (upd H4 D (.lst (acc ++ [y]))) else Pv (i + 1) H3) (hd : ∀ H, Pv n H → Qd H) :
    ∃ W : Nat → Nat → Hp → Prop, (∃ m, W 0 m (upd H1 D (.lst []))) ∧ ∀ i m H, W i m H →
      (J.stop i H ∧ Qd H) ∨ (J.go i H ∧ ∃ Nx : Hp → Prop, (∀ H', Nx H' → ∃ m', m' < m ∧ W (i + 1) m' H') ∧ ∀ x H', J.yld i H x H' → g x (wipe σ vs) H' fun σ2 H2 => wipe σ2 vs = wipe σ vs ∧ tt σ2 H2 fun b H3 =>
        if b = true then te σ2 H3 fun y H4 => ∃ acc, H4 D = some (.lst acc) ∧ acc.length < sizeLine ∧ Nx (upd H4 D (.lst (acc ++ [y]))) else Nx H3) := by
  refine ⟨fun i m H => m = n - i ∧ i ≤ n ∧ Pv i H, ⟨n, by simp, Nat.zero_le _, h0⟩, ?_⟩
  rintro i m H ⟨rfl, hi, p⟩
  have s := hS i H p
  by_cases hlt : i < n
  · refine .inr ⟨S.go i H s hlt, Pv (i + 1), fun H' p' => ⟨n - (i + 1), by omega, rfl, hlt, p'⟩, fun x H' y => ?_⟩
    obtain ⟨e, y'⟩ := S.yld i H x H' s hlt y
    subst e
    exact hs i x _ hlt y' p
  · have e : i = n := by omega
    subst e
    exact .inl ⟨S.stop _ H s (Nat.le_refl _), hd H p⟩
def Lc (H1 : Hp) (D : Addr) (F : Nat → List V) (i : Nat) (H : Hp) : Prop := Same H1 H ∧ H D = some (.lst (F i))
theorem lc0 {H1 : Hp} {D : Addr} {F : Nat → List V} (hD : H1 D = none) (h : F 0 = []) : Lc H1 D F 0 (upd H1 D (.lst [])) := ⟨same_upd hD, by rw [upd_same, h]⟩
theorem lc_put {H1 H H4 : Hp} {D : Addr} {F : Nat → List V} {i : Nat} {y : V} (hD : H1 D = none) (h : Lc H1 D F i H) (s : Same H H4) (e : F (i + 1) = F i ++ [y]) (hl : (F i).length ≤ 1000) :
    ∃ acc, H4 D = some (.lst acc) ∧ acc.length < sizeLine ∧ Lc H1 D F (i + 1) (upd H4 D (.lst (acc ++ [y]))) :=
  ⟨F i, s _ _ h.2, small1000 hl, same_new (h.1.trans s) hD, by rw [upd_same, e]⟩
theorem lc_skip {H1 H H4 : Hp} {D : Addr} {F : Nat → List V} {i : Nat} (h : Lc H1 D F i H) (s : Same H H4) (e : F (i + 1) = F i) : Lc H1 D F (i + 1) H4 := ⟨h.1.trans s, by rw [e]; exact s _ _ h.2⟩
theorem for_by {J : It} {n : Nat} {val : Nat → V → Prop} {g : TG} {tb : TS} {D : Ends} {σ : L2.St} {H1 : Hp} (S : Src J H1 n val) (Pv : Nat → L2.St → Hp → Prop) (h0 : Pv 0 σ H1) (hS : ∀ i σ H, Pv i σ H → Same H1 H)
    (hs : ∀ i x σ H, i < n → val i x → Pv i σ H → g x σ H fun σ2 H2 => tb { D with nx := Pv (i + 1), ct := Pv (i + 1), bk := D.nx } σ2 H2) (hd : ∀ σ H, Pv n σ H → D.nx σ H) :
    ∃ W : Nat → Nat → L2.St → Hp → Prop, (∃ m, W 0 m σ H1) ∧ ∀ i m σ H, W i m σ H →
      (J.stop i H ∧ D.nx σ H) ∨ (J.go i H ∧ ∃ N : L2.St → Hp → Prop, (∀ σ' H', N σ' H' → ∃ m', m' < m ∧ W (i + 1) m' σ' H') ∧ ∀ x H', J.yld i H x H' → g x σ H' fun σ2 H2 => tb { D with nx := N, ct := N, bk := D.nx } σ2 H2) := by
  refine ⟨fun i m σ H => m = n - i ∧ i ≤ n ∧ Pv i σ H, ⟨n, by simp, Nat.zero_le _, h0⟩, ?_⟩
  rintro i m σ H ⟨rfl, hi, p⟩
  have s := hS i σ H p
  by_cases hlt : i < n
  · refine .inr ⟨S.go i H s hlt, Pv (i + 1), fun σ' H' p' => ⟨n - (i + 1), by omega, rfl, hlt, p'⟩, fun x H' y => ?_⟩
    obtain ⟨e, y'⟩ := S.yld i H x H' s hlt y
    subst e
    exact hs i x σ _ hlt y' p
  · have e : i = n := by omega
    subst e
    exact .inl ⟨S.stop _ H s (Nat.le_refl _), hd σ H p⟩
theorem for_zip {K : PySem.W.Frag} {a b : Addr} {xs ys : List V} {g : TG} {tb : TS} {D : Ends} {σ : L2.St} {H1 : Hp} (hl : xs.length = ys.length) (Pv : Nat → L2.St → Hp → Prop) (h0 : Pv 0 σ H1) (hS : ∀ i σ H, Pv i σ H → SqL K H a xs ∧ SqL K H b ys)
    (hs : ∀ i x y T σ H, xs[i]? = some x → ys[i]? = some y → H T = none → Pv i σ H → g (.ref T) σ (upd H T (.tup [x, y])) fun σ2 H2 => tb { D with nx := Pv (i + 1), ct := Pv (i + 1), bk := D.nx } σ2 H2) (hd : ∀ σ H, Pv xs.length σ H → D.nx σ H) :
    ∃ W : Nat → Nat → L2.St → Hp → Prop, (∃ m, W 0 m σ H1) ∧ ∀ i m σ H, W i m σ H →
      ((Itz K a b).stop i H ∧ D.nx σ H) ∨ ((Itz K a b).go i H ∧ ∃ N : L2.St → Hp → Prop, (∀ σ' H', N σ' H' → ∃ m', m' < m ∧ W (i + 1) m' σ' H') ∧ ∀ x H', (Itz K a b).yld i H x H' → g x σ H' fun σ2 H2 => tb { D with nx := N, ct := N, bk := D.nx } σ2 H2) := by
  refine ⟨fun i m σ H => m = xs.length - i ∧ i ≤ xs.length ∧ Pv i σ H, ⟨xs.length, by simp, Nat.zero_le _, h0⟩, ?_⟩
  rintro i m σ H ⟨rfl, hi, p⟩
  obtain ⟨ha, hb⟩ := hS i σ H p
  by_cases hlt : i < xs.length
  · refine .inr ⟨⟨xs, ys, xs[i], ys[i]'(by omega), ha, hb, List.getElem?_eq_getElem hlt, List.getElem?_eq_getElem (by omega)⟩, Pv (i + 1), fun σ' H' p' => ⟨xs.length - (i + 1), by omega, rfl, hlt, p'⟩, fun x H' y => ?_⟩
    obtain ⟨T, x1, y1, e, hT, e2, hx, hy⟩ := y
    subst e e2
    exact hs i x1 y1 T σ H (hx xs ha) (hy ys hb) hT p
  · have e : i = xs.length := by omega
    subst e
    exact .inl ⟨⟨xs, ys, ha, hb, .inl (Nat.le_refl _)⟩, hd σ H p⟩
def Ln (H1 : Hp) (D : Addr) (G : Nat → List Int → Prop) (i : Nat) (H : Hp) : Prop := Same H1 H ∧ ∃ (ws : List Addr) (Ws : List (List Int)), H D = some (.lst (List.map V.ref ws)) ∧ ws.length = i ∧ Ws.length = i ∧
  ∀ (j : Nat) (b : Addr) (W : List Int), ws[j]? = some b → Ws[j]? = some W → b ≠ D ∧ H b = some (.lst (List.map V.int W)) ∧ G j W
theorem ln0 {H1 : Hp} {D : Addr} {G : Nat → List Int → Prop} (hD : H1 D = none) : Ln H1 D G 0 (upd H1 D (.lst [])) := ⟨same_upd hD, [], [], upd_same, rfl, rfl, fun j b W e => by simp at e⟩
theorem get_snoc {α : Type} {l : List α} {x y : α} {j : Nat} (h : (l ++ [x])[j]? = some y) : l[j]? = some y ∨ (j = l.length ∧ y = x) := by
  by_cases hj : j < l.length
  · rw [List.getElem?_append_left hj] at h
    exact .inl h
  · rw [List.getElem?_append_right (by omega)] at h
    have e : j = l.length := by
      have := (List.getElem?_eq_some_iff.mp h).1
      simp at this
      omega
    subst e
    simp at h
    exact .inr ⟨rfl, h.symm⟩
theorem ln_put {H1 H H4 : Hp} {D b : Addr} {G : Nat → List Int → Prop} {i : Nat} {W : List Int} (hD : H1 D = none) (h : Ln H1 D G i H) (s : Same H H4) (fb : H b = none) (hb : H4 b = some (.lst (W.map V.int))) (g : G i W) (hl : i ≤ 1000) :
    ∃ acc, H4 D = some (.lst acc) ∧ acc.length < sizeLine ∧ Ln H1 D G (i + 1) (upd H4 D (.lst (acc ++ [.ref b]))) := by
  obtain ⟨s1, ws, Ws, hd, l1, l2, at_⟩ := h
  have nb : b ≠ D := fun e => by rw [e, hd] at fb; cases fb
  refine ⟨ws.map V.ref, s _ _ hd, small1000 (by rw [List.length_map]; omega), same_new (s1.trans s) hD, ws ++ [b], Ws ++ [W], by rw [upd_same, List.map_append]; rfl, by simp [l1], by simp [l2], fun j b' W' e1 e2 => ?_⟩
  rcases get_snoc e1 with f1 | ⟨f1, f3⟩
  · rcases get_snoc e2 with f2 | ⟨f2, _⟩
    · obtain ⟨n, hb', g'⟩ := at_ j b' W' f1 f2
      exact ⟨n, by rw [upd_ne n]; exact s _ _ hb', g'⟩
    · have := (List.getElem?_eq_some_iff.mp f1).1
      omega
  · rcases get_snoc e2 with f2 | ⟨_, f4⟩
    · have := (List.getElem?_eq_some_iff.mp f2).1
      omega
    · rw [f3, f4]
      exact ⟨nb, by rw [upd_ne nb]; exact hb, by rw [f1, l1]; exact g⟩
theorem ln_rows {K : PySem.W.Frag} {H1 H : Hp} {D : Addr} {G : Nat → List Int → Prop} {n : Nat} (h : Ln H1 D G n H) : ∃ ws Ws, RowsAt K H D ws Ws ∧ Ws.length = n ∧ ∀ (j : Nat) (W : List Int), Ws[j]? = some W → G j W := by
  obtain ⟨s1, ws, Ws, hd, l1, l2, at_⟩ := h
  refine ⟨ws, Ws, ⟨SqL.of hd, by omega, fun j b W e1 e2 => SqL.of (at_ j b W e1 e2).2.1⟩, l2, fun j W e => ?_⟩
  have hj := (List.getElem?_eq_some_iff.mp e).1
  exact (at_ j (ws[j]'(by omega)) W (List.getElem?_eq_getElem (by omega)) e).2.2
structure RowsL (H : Hp) (a : Addr) (as : List Addr) (rs : List (List Int)) : Prop where
  lst : H a = some (.lst (as.map V.ref))
  len : as.length = rs.length
  at_ : ∀ (j : Nat) (b : Addr) (r : List Int), as[j]? = some b → rs[j]? = some r → H b = some (.lst (r.map V.int))
theorem RowsL.rowsAt {K : PySem.W.Frag} {H : Hp} {a : Addr} {as : List Addr} {rs : List (List Int)} (h : RowsL H a as rs) : RowsAt K H a as rs := ⟨SqL.of h.lst, h.len, fun j b r e1 e2 => SqL.of (h.at_ j b r e1 e2)⟩
theorem RowsL.same {H H' : Hp} {a : Addr} {as : List Addr} {rs : List (List Int)} (h : RowsL H a as rs) (s : Same H H') : RowsL H' a as rs := ⟨s _ _ h.lst, h.len, fun j b r e1 e2 => s _ _ (h.at_ j b r e1 e2)⟩
theorem RowsL.get {H : Hp} {a : Addr} {as : List Addr} {rs : List (List Int)} (h : RowsL H a as rs) {j : Nat} {r : List Int} (hr : rs[j]? = some r) : ∃ b, as[j]? = some b ∧ (as.map V.ref)[j]? = some (.ref b) ∧ H b = some (.lst (r.map V.int)) := by
  have hj := (List.getElem?_eq_some_iff.mp hr).1
  have hj' : j < as.length := by rw [h.len]; exact hj
  exact ⟨as[j], List.getElem?_eq_getElem hj', at_map (List.getElem?_eq_getElem hj'), h.at_ j _ r (List.getElem?_eq_getElem hj') hr⟩
theorem RowsL.row {H : Hp} {a : Addr} {as : List Addr} {rs : List (List Int)} (h : RowsL H a as rs) {j : Nat} {b : Addr} (hb : as[j]? = some b) : ∃ r, rs[j]? = some r ∧ H b = some (.lst (r.map V.int)) := by
  have hj := (List.getElem?_eq_some_iff.mp hb).1
  have hj' : j < rs.length := by rw [← h.len]; exact hj
  exact ⟨rs[j], List.getElem?_eq_getElem hj', h.at_ j b _ hb (List.getElem?_eq_getElem hj')⟩
theorem ln_rowsL {H1 H : Hp} {D : Addr} {G : Nat → List Int → Prop} {n : Nat} (h : Ln H1 D G n H) : ∃ ws Ws, RowsL H D ws Ws ∧ Ws.length = n ∧ ∀ (j : Nat) (W : List Int), Ws[j]? = some W → G j W := by
  obtain ⟨s1, ws, Ws, hd, l1, l2, at_⟩ := h
  refine ⟨ws, Ws, ⟨hd, by omega, fun j b W e1 e2 => (at_ j b W e1 e2).2.1⟩, l2, fun j W e => ?_⟩
  have hj := (List.getElem?_eq_some_iff.mp e).1
  exact (at_ j (ws[j]'(by omega)) W (List.getElem?_eq_getElem (by omega)) e).2.2
section
variable {P : Program} {w : World} {K : PySem.W.Frag} {mg : Str → Option Value} {base : Heap}
def spPick (K : PySem.W.Frag) (g : List Int → List Int) : Sp := fun vs H Q _ => ∃ a r, vs = [.ref a] ∧ SqL K H a (List.map V.int r) ∧ RowOk r ∧ ∀ H' p, Same H H' → H p = none → H' p = some (.lst ((g r).map V.int)) → Q (.ref p) H'
theorem row_lens {r : List Int} (h : RowOk r) : r.length = 4 ∨ r.length = 6 ∨ r.length = 8 ∨ r.length = 10 := by
  have h1 := h.lo
  have h2 := h.hi
  have h3 := h.ev
  omega
theorem rgW {r : List Int} (h : RowOk r) : RgC 2 ((r.map V.int).length : Nat) 2 (wordsI r).length := by
  rw [h.wlen, List.length_map]
  rcases row_lens h with e | e | e | e <;> (rw [e]; exact ⟨by decide, by decide, by decide +kernel, by decide +kernel⟩)
theorem rgN {r : List Int} (h : RowOk r) : RgC 3 ((r.map V.int).length : Nat) 2 (nextsI r).length := by
  rw [h.nlen, List.length_map]
  rcases row_lens h with e | e | e | e <;> (rw [e]; exact ⟨by decide, by decide, by decide +kernel, by decide +kernel⟩)
theorem scWordsAt : FnScope ["place", "k"] ["place"] (defScope sWordsAt) := ⟨rfl, rfl, rfl, by decide +kernel, rfl, by decide +kernel, by decide +kernel⟩
theorem d_words_at (h : Has K mg "words_at" sWordsAt) (T : Txt K mg) : Def P w K mg base "words_at" 1 ["place"] (spPick K wordsI) := by
  refine def_of h (fun _ _ _ _ _ _ us hl => match us, hl with | [_], _ => rfl) scWordsAt (fun vs H Q E h => ?_) (fun f cdv A outer s H vs Q E hr h => ?_)
  · obtain ⟨a, r, rfl, _⟩ := h
    rfl
  · obtain ⟨a, r, rfl, hS, ok, k⟩ := h
    refine ⟨_, pss_one (ps_ret (pe_lc rfl scWordsAt.nd (pi_range3 rfl T.range (pa_cons pe_int (pa_cons (pe_callB call_len_seq rfl T.len PySem.boot_len (pa_cons (pv 0) pa_nil)) (pa_cons pe_int pa_nil))))
      (blkOk_by (N := ["place", "k"]) (sc := defScope sWordsAt) (own := [("k", 1)]) (by decide +kernel)) (fun _ _ _ _ _ => pg_name (i := 1) scWordsAt.nd rfl (Or.inl rfl)) (fun _ _ _ _ _ => pts_nil) (fun _ _ _ _ _ => pe_ix (ixl K) (pv 0) (pv 1) (fun _ _ => rfl)))), ?_⟩
    refine ⟨_, rfl, a, _, rfl, .inl hS, 2, _, 2, (wordsI r).length, rfl, rgW ok, fun D hD => lc_by (src_rngC 2 2 _) (Lc H D fun i => ((wordsI r).take i).map V.int) (lc0 hD rfl) (fun _ _ h => h.1) ?_ ?_⟩
    · rintro i x H' hi rfl h1
      obtain ⟨z, hz⟩ : ∃ z, (wordsI r)[i]? = some z := ⟨_, List.getElem?_eq_getElem hi⟩
      have h4 := ok.wlen4
      refine ⟨rfl, yesT ⟨_, rfl, _, rfl, a, _, _, .int z, rfl, rfl, h1.1.seq hS, at_of (j := 2 + 2 * i) (by omega) (at_map (by rw [← ok.wget hi]; exact hz)), lc_put hD h1 (Same.refl _) (take_map _ hz) ?_⟩⟩
      rw [List.length_map, List.length_take]
      omega
    · intro H' h1
      rw [Lc, List.take_length] at h1
      exact k H' D h1.1 hD h1.2
theorem scNextsAt : FnScope ["place", "k"] ["place"] (defScope sNextsAt) := ⟨rfl, rfl, rfl, by decide +kernel, rfl, by decide +kernel, by decide +kernel⟩
theorem d_nexts_at (h : Has K mg "nexts_at" sNextsAt) (T : Txt K mg) : Def P w K mg base "nexts_at" 1 ["place"] (spPick K nextsI) := by
  refine def_of h (fun _ _ _ _ _ _ us hl => match us, hl with | [_], _ => rfl) scNextsAt (fun vs H Q E h => ?_) (fun f cdv A outer s H vs Q E hr h => ?_)
  · obtain ⟨a, r, rfl, _⟩ := h
    rfl
  · obtain ⟨a, r, rfl, hS, ok, k⟩ := h
    refine ⟨_, pss_one (ps_ret (pe_lc rfl scNextsAt.nd (pi_range3 rfl T.range (pa_cons pe_int (pa_cons (pe_callB call_len_seq rfl T.len PySem.boot_len (pa_cons (pv 0) pa_nil)) (pa_cons pe_int pa_nil))))
      (blkOk_by (N := ["place", "k"]) (sc := defScope sNextsAt) (own := [("k", 1)]) (by decide +kernel)) (fun _ _ _ _ _ => pg_name (i := 1) scNextsAt.nd rfl (Or.inl rfl)) (fun _ _ _ _ _ => pts_nil) (fun _ _ _ _ _ => pe_ix (ixl K) (pv 0) (pv 1) (fun _ _ => rfl)))), ?_⟩
    refine ⟨_, rfl, a, _, rfl, .inl hS, 3, _, 2, (nextsI r).length, rfl, rgN ok, fun D hD => lc_by (src_rngC 3 2 _) (Lc H D fun i => ((nextsI r).take i).map V.int) (lc0 hD rfl) (fun _ _ h => h.1) ?_ ?_⟩
    · rintro i x H' hi rfl h1
      obtain ⟨z, hz⟩ : ∃ z, (nextsI r)[i]? = some z := ⟨_, List.getElem?_eq_getElem hi⟩
      have h4 := ok.nlen4
      refine ⟨rfl, yesT ⟨_, rfl, _, rfl, a, _, _, .int z, rfl, rfl, h1.1.seq hS, at_of (j := 3 + 2 * i) (by omega) (at_map (by rw [← ok.nget hi]; exact hz)), lc_put hD h1 (Same.refl _) (take_map _ hz) ?_⟩⟩
      rw [List.length_map, List.length_take]
      omega
    · intro H' h1
      rw [Lc, List.take_length] at h1
      exact k H' D h1.1 hD h1.2
def spIsAt (K : PySem.W.Frag) : Sp := fun vs H Q _ => ∃ c a r, vs = [.int c, .ref a] ∧ SqL K H a (List.map V.int r) ∧ RowOk r ∧ Q (.bl (isAtI c r)) H
theorem scIsAt : FnScope ["c", "place"] ["c", "place"] (defScope sIsAt) := ⟨rfl, rfl, rfl, by decide +kernel, rfl, by decide +kernel, by decide +kernel⟩
theorem d_is_at (h : Has K mg "is_at" sIsAt) : Def P w K mg base "is_at" 1 ["c", "place"] (spIsAt K) := by
  refine def_of h (fun _ _ _ _ _ _ us hl => match us, hl with | [_, _], _ => rfl) scIsAt (fun vs H Q E h => ?_) (fun f cdv A outer s H vs Q E hr h => ?_)
  · obtain ⟨c, a, r, rfl, _⟩ := h
    rfl
  · obtain ⟨c, a, r, rfl, hS, ok, k⟩ := h
    refine ⟨_, pss_one (ps_ret (pe_or (pe_cmpR op_eq (pe_ix ix_list (pv 1) pe_int (fun _ _ => rfl)) (pv 0) (nomark _)) (pe_one (pe_cmpR op_eq (pe_ix ix_list (pv 1) pe_int (fun _ _ => rfl)) (pv 0) (nomark _))))), ?_⟩
    refine ⟨_, rfl, a, _, 0, _, rfl, rfl, hS, row0 ok, _, rfl, rfl, _, rfl, iteB (fun h1 => ?_) (fun h1 => ⟨_, rfl, a, _, 1, _, rfl, rfl, hS, row1 ok, _, rfl, rfl, ?_⟩)⟩
    · rw [dV] at h1
      unfold isAtI at k
      rw [h1, Bool.true_or] at k
      exact k
    · rw [dV] at h1 ⊢
      unfold isAtI at k
      rw [h1, Bool.false_or] at k
      exact k
def comI (cs : List (List Int)) (t : Int) : List Int := if t = 255 then [255] else cs.getD t.toNat []
def spComing (K : PySem.W.Frag) : Sp := fun vs H Q _ => ∃ a as cs t, vs = [.ref a, .int t] ∧ RowsAt K H a as cs ∧ NumOk cs t ∧ cs.length ≤ 32 ∧ ∀ H' p, Same H H' → SqL K H' p ((comI cs t).map V.int) → Q (.ref p) H'
theorem scComingFrom : FnScope ["comings", "target"] ["comings", "target"] (defScope sComingFrom) := ⟨rfl, rfl, rfl, by decide +kernel, rfl, by decide +kernel, by decide +kernel⟩
theorem d_coming_from (h : Has K mg "coming_from" sComingFrom) (T : Txt K mg) : Def P w K mg base "coming_from" 1 ["comings", "target"] (spComing K) := by
  refine def_of h (fun _ _ _ _ _ _ us hl => match us, hl with | [_, _], _ => rfl) scComingFrom (fun vs H Q E h => ?_) (fun f cdv A outer s H vs Q E hr h => ?_)
  · obtain ⟨a, as, cs, t, rfl, _⟩ := h
    rfl
  · obtain ⟨a, as, cs, t, rfl, R, hn, hl, k⟩ := h
    refine ⟨_, pss_one (ps_ret (pe_ifExp (pt_cmpR op_eq (pv 1) (pe_gi T.OVER rfl) (nomark _)) (pe_lst (pa_cons (pe_gi T.OVER rfl) pa_nil)) (pe_ix ix_list (pv 0) (pv 1) (fun _ _ => rfl)))), ?_⟩
    refine ⟨_, rfl, rfl, _, rfl, iteB (fun h1 => ?_) (fun h1 => ?_)⟩
    · rw [dV] at h1
      have e : t = 255 := of_decide_eq_true h1
      refine ⟨(by show 1 ≤ sizeLine; decide), fun p hp => k _ p (same_upd hp) (SqL.of ?_)⟩
      rw [upd_same, comI, if_pos e]
      rfl
    · rw [dV] at h1
      have e : ¬ t = 255 := of_decide_eq_false h1
      rcases hn with z | ⟨q, rfl, hq⟩
      · exact absurd z e
      · obtain ⟨b, hb, hb2, hb3⟩ := R.get (List.getElem?_eq_getElem hq)
        refine ⟨_, rfl, _, rfl, a, _, _, .ref b, rfl, rfl, R.lst, atI_nat hb2, k H b (Same.refl _) ?_⟩
        rw [comI, if_neg e]
        have e2 : cs.getD (q : Int).toNat [] = cs[q] := by
          rw [Int.toNat_natCast, List.getD_eq_getElem?_getD, List.getElem?_eq_getElem hq]
          rfl
        rw [e2]
        exact hb3
end
end Pt
set_option Elab.async false
set_option linter.all false
set_option maxRecDepth 100000
set_option maxHeartbeats 4000000
namespace Pt
open PySem PySem.Spec PyProof.Rows L2 Mx
section
variable {P : Program} {w : World} {K : PySem.W.Frag} {mg : Str → Option Value} {base : Heap}
def keepZ (z : Int) : Bool := !decide (z = 255)
def placesI (rs : List (List Int)) (ns : List Int) : List (List Int) := (ns.filter keepZ).map fun z => rs.getD z.toNat []
def placesA (as : List Addr) (ns : List Int) : List Addr := (ns.filter keepZ).map fun z => as.getD z.toNat 0
def spPlaces (K : PySem.W.Frag) : Sp := fun vs H Q _ => ∃ (a : Addr) (as : List Addr) (rs : List (List Int)) (b : Addr) (ns : List Int), vs = [.ref a, .ref b] ∧ RowsAt K H a as rs ∧ SqL K H b (ns.map V.int) ∧ (∀ z ∈ ns, NumOk rs z) ∧ ns.length ≤ 100 ∧
  ∀ (H' : Hp) (pp : Addr), Same H H' → H pp = none → H' pp = some (.lst ((placesA as ns).map V.ref)) → Q (.ref pp) H'
theorem places_at {H : Hp} {a : Addr} {as : List Addr} {rs : List (List Int)} {ns : List Int} (R : RowsAt K H a as rs) (hn : ∀ z ∈ ns, NumOk rs z) {j : Nat} {b : Addr} (h : (placesA as ns)[j]? = some b) : ∃ r, (placesI rs ns)[j]? = some r ∧ r ∈ rs ∧ SqL K H b (r.map V.int) := by
  unfold placesA at h
  obtain ⟨z, hz, rfl⟩ := map_at h
  unfold placesI
  have hm := List.mem_filter.mp (List.mem_of_getElem? hz)
  rcases hn z hm.1 with e | ⟨q, rfl, hq⟩
  · have := hm.2
    unfold keepZ at this
    rw [decide_eq_true e] at this
    cases this
  · obtain ⟨c, hc, _, hc3⟩ := R.get (List.getElem?_eq_getElem hq)
    refine ⟨rs[q], ?_, List.getElem_mem hq, ?_⟩
    · rw [at_map hz, Int.toNat_natCast, List.getD_eq_getElem?_getD, List.getElem?_eq_getElem hq]
      rfl
    · rw [Int.toNat_natCast, List.getD_eq_getElem?_getD, hc]
      exact hc3
theorem places_len (as : List Addr) (rs : List (List Int)) (ns : List Int) : (placesA as ns).length = (placesI rs ns).length := by unfold placesA placesI; simp
theorem places_rows {H H' : Hp} {a p : Addr} {as : List Addr} {rs : List (List Int)} {ns : List Int} (R : RowsAt K H a as rs) (hn : ∀ z ∈ ns, NumOk rs z) (s : Same H H') (h : SqL K H' p ((placesA as ns).map V.ref)) : RowsAt K H' p (placesA as ns) (placesI rs ns) := by
  refine ⟨h, places_len _ _ _, fun j b r e1 e2 => ?_⟩
  obtain ⟨r', h1, _, h3⟩ := places_at R hn e1
  have e : r' = r := Option.some.inj (h1.symm.trans e2)
  rw [← e]
  exact s.seq h3
theorem places_mem {rs : List (List Int)} {ns : List Int} (hn : ∀ z ∈ ns, NumOk rs z) {r : List Int} (h : r ∈ placesI rs ns) : r ∈ rs := by
  unfold placesI at h
  obtain ⟨z, hz, rfl⟩ := List.mem_map.mp h
  have hm := List.mem_filter.mp hz
  rcases hn z hm.1 with e | ⟨q, rfl, hq⟩
  · have := hm.2
    unfold keepZ at this
    rw [decide_eq_true e] at this
    cases this
  · rw [Int.toNat_natCast, List.getD_eq_getElem?_getD, List.getElem?_eq_getElem hq]
    exact List.getElem_mem hq
theorem places_le (rs : List (List Int)) (ns : List Int) : (placesI rs ns).length ≤ ns.length := by unfold placesI; rw [List.length_map]; exact List.length_filter_le _ _
theorem filter_take {α : Type} {f : α → Bool} {l : List α} {i : Nat} {x : α} (h : l[i]? = some x) (hf : f x = true) : (l.take (i + 1)).filter f = (l.take i).filter f ++ [x] := by
  rw [take_snoc h, List.filter_append, List.filter_cons, if_pos hf, List.filter_nil]
theorem filter_take_no {α : Type} {f : α → Bool} {l : List α} {i : Nat} {x : α} (h : l[i]? = some x) (hf : f x = false) : (l.take (i + 1)).filter f = (l.take i).filter f := by
  rw [take_snoc h, List.filter_append, List.filter_cons, if_neg (by rw [hf]; exact Bool.false_ne_true), List.filter_nil, List.append_nil]
theorem len_filter_take {α : Type} (f : α → Bool) (l : List α) (i : Nat) : ((l.take i).filter f).length ≤ l.length := by
  have h1 := List.length_filter_le f (l.take i)
  rw [List.length_take] at h1
  omega
theorem scPlacesIn : FnScope ["s", "state", "q"] ["s", "state"] (defScope sPlacesIn) := ⟨rfl, rfl, rfl, by decide +kernel, rfl, by decide +kernel, by decide +kernel⟩
theorem d_places_in (h : Has K mg "places_in" sPlacesIn) (T : Txt K mg) : Def P w K mg base "places_in" 1 ["s", "state"] (spPlaces K) := by
  refine def_of h (fun _ _ _ _ _ _ us hl => match us, hl with | [_, _], _ => rfl) scPlacesIn (fun vs H Q E h => ?_) (fun f cdv A outer s H vs Q E hr h => ?_)
  · obtain ⟨a, as, rs, b, ns, rfl, _⟩ := h
    rfl
  · obtain ⟨a, as, rs, b, ns, rfl, R, hS, hn, hl, k⟩ := h
    refine ⟨_, pss_one (ps_ret (pe_lc rfl scPlacesIn.nd (pi_list (pv 1)) (blkOk_by (N := ["s", "state", "q"]) (sc := defScope sPlacesIn) (own := [("q", 2)]) (by decide +kernel)) (fun _ _ _ _ _ => pg_name (i := 2) scPlacesIn.nd rfl (Or.inl rfl))
      (fun _ _ _ _ _ => pts_one (pt_cmpR op_ne (pv 2) (pe_gi T.OVER rfl) (nomark _))) (fun _ _ _ _ _ => pe_ix (ixl K) (pv 0) (pv 2) (fun _ _ => rfl)))), ?_⟩
    refine ⟨_, rfl, b, rfl, ⟨_, hS⟩, fun D hD => lc_by (src_list hS) (Lc H D fun i => ((ns.take i).filter keepZ).map fun z => V.ref (as.getD z.toNat 0)) (lc0 hD rfl) (fun _ _ h => h.1) ?_ ?_⟩
    · intro i x H' hi hx h1
      obtain ⟨z, hz, rfl⟩ := map_at hx
      have hlen := len_filter_take keepZ ns i
      refine ⟨rfl, _, rfl, rfl, _, rfl, iteB (fun h2 => ?_) (fun h2 => ?_)⟩
      · rw [dV] at h2
        have ne : ¬ z = 255 := by simpa using h2
        rcases hn z (List.mem_of_getElem? hz) with e | ⟨q, rfl, hq⟩
        · exact absurd e ne
        · obtain ⟨c, hc, hc2, hc3⟩ := R.get (List.getElem?_eq_getElem hq)
          refine ⟨_, rfl, _, rfl, a, _, _, .ref c, rfl, rfl, h1.1.seq R.lst, atI_nat hc2, lc_put hD h1 (Same.refl _) ?_ (by rw [List.length_map]; omega)⟩
          rw [filter_take hz (by unfold keepZ; rw [decide_eq_false ne]; rfl), List.map_append]
          congr 1
          show [V.ref (as.getD (q : Int).toNat 0)] = _
          rw [Int.toNat_natCast, List.getD_eq_getElem?_getD, hc]
          rfl
      · rw [dV] at h2
        have e : z = 255 := by simpa using h2
        refine lc_skip h1 (Same.refl _) ?_
        rw [filter_take_no hz (by unfold keepZ; rw [decide_eq_true e]; rfl)]
    · intro H' h1
      rw [List.length_map, Lc, List.take_length] at h1
      refine k H' D h1.1 hD (h1.2.trans ?_)
      unfold placesA
      rw [List.map_map]
      rfl
def spIsPlace (K : PySem.W.Frag) : Sp := fun vs H Q _ => ∃ p n a r, vs = [.int p, .int (Int.ofNat n), .ref a] ∧ SqL K H a (List.map V.int r) ∧ RowOk r ∧ ∀ H', Same H H' → Q (.bl (placeB p n r)) H'
theorem scIsPlace : FnScope ["p", "n", "place", "words", "target"] ["p", "n", "place"] (defScope sIsPlace) := ⟨rfl, rfl, rfl, by decide +kernel, rfl, by decide +kernel, by decide +kernel⟩
theorem in_lens {r : List Int} (ok : RowOk r) : inV (.int ((r.map V.int).length : Nat)) [.int 4, .int 6, .int 8, .int 10] = true := by
  rw [List.length_map]
  rcases row_lens ok with e | e | e | e <;> (rw [e]; decide)
theorem d_is_place (h : Has K mg "is_place" sIsPlace) (T : Txt K mg) (dW : Def P w K mg base "words_at" 1 ["place"] (spPick K wordsI)) (dN : Def P w K mg base "nexts_at" 1 ["place"] (spPick K nextsI)) :
    Def P w K mg base "is_place" 2 ["p", "n", "place"] (spIsPlace K) := by
  obtain ⟨aL, hL, hT⟩ := T.lens
  refine def_of h (fun _ _ _ _ _ _ us hl => match us, hl with | [_, _, _], _ => rfl) scIsPlace (fun vs H Q E h => ?_) (fun f cdv A outer s H vs Q E hr h => ?_)
  · obtain ⟨p, n, a, r, rfl, _⟩ := h
    rfl
  · obtain ⟨p, n, a, r, rfl, hS, ok, k⟩ := h
    refine ⟨_, pss_cons (ps_if (pt_cmpR op_notIn_seq (pe_callB call_len_seq rfl T.len PySem.boot_len (pa_cons (pv 2) pa_nil)) (pe_glob (v := .ref aL) rfl hL rfl) (by with_unfolding_all rfl)) (pss_one (ps_ret pe_bl)) pss_nil)
      (pss_cons (ps_if (PW.pt (pw_or (pt_cmpR op_ge (pe_ix ix_list (pv 2) pe_int (fun _ _ => rfl)) (pv 0) (nomark _)) (pw_or (pt_cmpR op_ge (pe_ix ix_list (pv 2) pe_int (fun _ _ => rfl)) (pv 0) (nomark _))
        (pw_or1 (pt_cmpR op_eq (pe_ix ix_list (pv 2) pe_int (fun _ _ => rfl)) (pe_ix ix_list (pv 2) pe_int (fun _ _ => rfl)) (nomark _)))))) (pss_one (ps_ret pe_bl)) pss_nil)
      (pss_cons (ps_set (i := 3) scIsPlace.nd rfl (Or.inl rfl) (pe_def dW hr rfl (pa_cons (pv 2) pa_nil)))
      (pss_cons (ps_if (pt_cmpR op_ne (pe_callB call_lenSet rfl T.len PySem.boot_len (pa_cons (pe_callTy (call_setI rfl) rfl T.set PyProof.Rows.boot_set (pa_cons (pv 3) pa_nil)) pa_nil)) (pe_callB call_len_seq rfl T.len PySem.boot_len (pa_cons (pv 3) pa_nil)) (nomark _)) (pss_one (ps_ret pe_bl)) pss_nil)
      (pss_one (ps_ret (pe_callB (cr_all rfl) rfl T.all PyProof.Rows.boot_all (pa_cons (pe_lc rfl scIsPlace.nd (pi_list (pe_def dN hr rfl (pa_cons (pv 2) pa_nil))) (blkOk_by (N := ["p", "n", "place", "words", "target"]) (sc := defScope sIsPlace) (own := [("target", 4)]) (by decide +kernel)) (fun _ _ _ _ _ => pg_name (i := 4) scIsPlace.nd rfl (Or.inl rfl)) (fun _ _ _ _ _ => pts_nil)
        (fun _ _ _ _ _ => pe_or (pe_cmpR op_lt (pv 4) (pv 1) (nomark _)) (pe_one (pe_cmpR op_eq (pv 4) (pe_gi T.OVER rfl) (nomark _))))) pa_nil))))))), ?_⟩
    refine ⟨_, rfl, a, _, rfl, .inl hS, aL, _, rfl, .inr (hT _), rfl, rfl, _, rfl, ?_⟩
    rw [if_pos rfl, in_lens ok]
    refine iteF ⟨_, rfl, a, _, 0, _, rfl, rfl, hS, row0 ok, _, rfl, _, _, rfl, rfl, _, rfl, iteB (fun h1 => iteT ?_) (fun h1 => ⟨_, rfl, a, _, 1, _, rfl, rfl, hS, row1 ok, _, rfl, _, _, rfl, rfl, _, rfl, iteB (fun h2 => iteT ?_) (fun h2 => ⟨_, rfl, a, _, 0, _, rfl, rfl, hS, row0 ok, _, rfl, a, _, 1, _, rfl, rfl, hS, row1 ok, rfl, _, rfl, iteB (fun h3 => ?_) (fun h3 => ?_)⟩)⟩)⟩
    · have := of_decide_eq_true h1
      have e : placeB p n r = false := by unfold placeB; rw [decide_eq_false (by omega)]; rfl
      have q := k H (Same.refl _)
      rw [e] at q
      exact q
    · have := of_decide_eq_true h2
      have e : placeB p n r = false := by unfold placeB; rw [decide_eq_false (p := r1 r < p) (by omega)]; simp
      have q := k H (Same.refl _)
      rw [e] at q
      exact q
    · rw [dV] at h3
      have e : placeB p n r = false := by unfold placeB; rw [h3]; simp
      have q := k H (Same.refl _)
      rw [e] at q
      exact q
    · rw [dV] at h3
      have g1 := of_decide_eq_false h1
      have g2 := of_decide_eq_false h2
      have e : placeB p n r = (decide (wordsI r).Nodup && (nextsI r).all fun t : Int => decide (t < (n : Int)) || decide (t = 255)) := by
        unfold placeB
        rw [decide_eq_true (show r0 r < p by omega), decide_eq_true (show r1 r < p by omega), h3]
        rfl
      have w4 := ok.wlen4
      have n4 := ok.nlen4
      refine ⟨_, rfl, a, r, rfl, hS, ok, fun H1 pw s1 fw ew => ?_⟩
      refine ⟨_, rfl, pw, wordsI r, rfl, SqL.of ew, by omega, fun l hl => ⟨l, wordsI r, rfl, upd_same, _, rfl, pw, _, rfl, .inl ((same_upd hl).seq (SqL.of ew)), rfl, _, rfl, iteB (fun h4 => ?_) (fun h4 => ?_)⟩⟩
      · rw [dV] at h4
        have nd : ¬ (wordsI r).Nodup := fun nd => by
          have := dist_len.mpr nd
          rw [List.length_map, this] at h4
          simp at h4
        have q := k (upd H1 l (setO P w l (wordsI r))) (s1.trans (same_upd hl))
        rw [e, decide_eq_false nd] at q
        exact q
      · rw [dV] at h4
        have nd : (wordsI r).Nodup := by
          refine dist_len.mp ?_
          rw [List.length_map] at h4
          have h5 : ((dist (wordsI r)).length : Int) = ((wordsI r).length : Int) := by simpa using h4
          omega
        rw [decide_eq_true nd, Bool.true_and] at e
        have s2 : Same H (upd H1 l (setO P w l (wordsI r))) := s1.trans (same_upd hl)
        refine ⟨_, rfl, a, r, rfl, s2.seq hS, ok, fun H2 pn s3 fn en => ⟨pn, rfl, ⟨_, SqL.of en⟩, fun D hD => lc_by (src_list (SqL.of en)) (Lc H2 D fun i => ((nextsI r).take i).map fun t : Int => V.bl (decide (t < (n : Int)) || decide (t = 255))) (lc0 hD rfl) (fun _ _ h => h.1) ?_ ?_⟩⟩
        · intro i x H' hi hx h6
          obtain ⟨z, hz, rfl⟩ := map_at hx
          have hlen : (((nextsI r).take i).map fun t : Int => V.bl (decide (t < (n : Int)) || decide (t = 255))).length ≤ 1000 := by rw [List.length_map, List.length_take]; omega
          refine ⟨rfl, yesT ⟨_, rfl, _, rfl, _, _, rfl, rfl, _, rfl, iteB (fun h7 => ?_) (fun h7 => ⟨_, rfl, rfl, ?_⟩)⟩⟩
          · refine lc_put hD h6 (Same.refl _) ?_ hlen
            rw [take_map _ hz]
            have h7' : decide (z < (n : Int)) = true := h7
            rw [h7', Bool.true_or]
          · refine lc_put hD h6 (Same.refl _) ?_ hlen
            rw [take_map _ hz, dV]
            have h7' : decide (z < (n : Int)) = false := h7
            rw [h7', Bool.false_or]
        · intro H' h6
          rw [List.length_map, Lc, List.take_length] at h6
          refine ⟨D, (nextsI r).map fun t : Int => decide (t < (n : Int)) || decide (t = 255), rfl, SqL.of (by rw [h6.2, List.map_map]; rfl), ?_⟩
          have q := k H' ((s2.trans s3).trans h6.1)
          rw [e] at q
          rw [List.all_map]
          exact q
def spIsScript (K : PySem.W.Frag) : Sp := fun vs H Q _ => ∃ p a as rs, vs = [.int p, .ref a] ∧ RowsAt K H a as rs ∧ (∀ r ∈ rs, RowOk r) ∧ 1 ≤ rs.length ∧ rs.length ≤ 32 ∧ ∀ H', Same H H' → Q (.bl (scriptB p rs)) H'
theorem scIsScript : FnScope ["p", "s", "place"] ["p", "s"] (defScope sIsScript) := ⟨rfl, rfl, rfl, by decide +kernel, rfl, by decide +kernel, by decide +kernel⟩
theorem d_is_script (h : Has K mg "is_script" sIsScript) (T : Txt K mg) (dP : Def P w K mg base "is_place" 2 ["p", "n", "place"] (spIsPlace K)) : Def P w K mg base "is_script" 3 ["p", "s"] (spIsScript K) := by
  refine def_of h (fun _ _ _ _ _ _ us hl => match us, hl with | [_, _], _ => rfl) scIsScript (fun vs H Q E h => ?_) (fun f cdv A outer s H vs Q E hr h => ?_)
  · obtain ⟨p, a, as, rs, rfl, _⟩ := h
    rfl
  · obtain ⟨p, a, as, rs, rfl, R, ok, l1, l2, k⟩ := h
    have hR := hr
    refine ⟨_, pss_cons (ps_if (PW.pt (pw_or (pt_cmpR op_lt (pv 0) (pe_gi T.LEAST_PARTIES rfl) (nomark _)) (pw_or1 (pt_cmpR op_gt (pv 0) (pe_gi T.MOST_PARTIES rfl) (nomark _))))) (pss_one (ps_ret pe_bl)) pss_nil)
      (pss_cons (ps_if (PW.pt (pw_or (pt_cmpR op_lt (pe_callB call_len_seq rfl T.len PySem.boot_len (pa_cons (pv 1) pa_nil)) pe_int (nomark _)) (pw_or1 (pt_cmpR op_gt (pe_callB call_len_seq rfl T.len PySem.boot_len (pa_cons (pv 1) pa_nil)) (pe_gi T.MOST_PLACES rfl) (nomark _))))) (pss_one (ps_ret pe_bl)) pss_nil)
      (pss_one (ps_ret (pe_callB (cr_all rfl) rfl T.all PyProof.Rows.boot_all (pa_cons (pe_lc rfl scIsScript.nd (pi_list (pv 1)) (blkOk_by (N := ["p", "s", "place"]) (sc := defScope sIsScript) (own := [("place", 2)]) (by decide +kernel)) (fun _ _ _ _ _ => pg_name (i := 2) scIsScript.nd rfl (Or.inl rfl)) (fun _ _ _ _ _ => pts_nil)
        (fun _ _ _ _ _ => pe_def dP hR rfl (pa_cons (pv 0) (pa_cons (pe_callB (lenK K) rfl T.len PySem.boot_len (pa_cons (pv 1) pa_nil)) (pa_cons (pv 2) pa_nil))))) pa_nil))))), ?_⟩
    have la : (as.map V.ref).length = rs.length := by rw [List.length_map, R.len]
    refine ⟨_, rfl, _, _, rfl, rfl, _, rfl, iteB (fun h1 => iteT ?_) (fun h1 => ⟨_, rfl, _, _, rfl, rfl, _, rfl, iteB (fun h2 => ?_) (fun h2 => ?_)⟩)⟩
    · have := of_decide_eq_true h1
      have e : scriptB p rs = false := by unfold scriptB; rw [decide_eq_false (by omega)]; rfl
      have q := k H (Same.refl _)
      rw [e] at q
      exact q
    · have := of_decide_eq_true h2
      have e : scriptB p rs = false := by unfold scriptB; rw [decide_eq_false (p := p ≤ 8) (by omega)]; simp
      have q := k H (Same.refl _)
      rw [e] at q
      exact q
    · have g1 := of_decide_eq_false h1
      have g2 := of_decide_eq_false h2
      have e : scriptB p rs = rs.all (placeB p rs.length) := by
        unfold scriptB
        rw [decide_eq_true (show 2 ≤ p by omega), decide_eq_true (show p ≤ 8 by omega)]
        rfl
      refine ⟨_, rfl, a, _, rfl, .inl R.lst, _, _, rfl, rfl, _, rfl, ?_⟩
      rw [la, decide_eq_false (show ¬ ((rs.length : Int) < 1) by omega)]
      refine iteF ⟨_, rfl, a, _, rfl, .inl R.lst, _, _, rfl, rfl, _, rfl, ?_⟩
      rw [la, decide_eq_false (show ¬ ((32 : Int) < (rs.length : Int)) by omega)]
      refine iteF ⟨_, rfl, a, rfl, ⟨_, R.lst⟩, fun D hD => lc_by (src_list R.lst) (Lc H D fun i => (rs.take i).map fun r => V.bl (placeB p rs.length r)) (lc0 hD rfl) (fun _ _ h => h.1) ?_ ?_⟩
      · intro i x H' hi hx h6
        obtain ⟨b, hb, rfl⟩ := map_at hx
        obtain ⟨r, hrr, hrb⟩ := R.row hb
        refine ⟨rfl, yesT ⟨_, rfl, _, rfl, a, _, rfl, .inl (h6.1.seq R.lst), _, rfl, p, rs.length, b, r, by rw [la]; rfl, h6.1.seq hrb, ok r (List.mem_of_getElem? hrr), fun H4 s4 => lc_put hD h6 s4 (take_map _ hrr) ?_⟩⟩
        rw [List.length_map, List.length_take]
        omega
      · intro H' h6
        rw [la, Lc, List.take_length] at h6
        refine ⟨D, rs.map (placeB p rs.length), rfl, SqL.of (by rw [h6.2, List.map_map]; rfl), ?_⟩
        have q := k H' h6.1
        rw [e] at q
        rw [List.all_map]
        exact q
end
end Pt
set_option Elab.async false
set_option linter.all false
set_option maxRecDepth 100000
set_option maxHeartbeats 4000000
namespace Pt
open PySem PySem.Spec PyProof.Rows L2 Mx
section
variable {P : Program} {w : World} {K : PySem.W.Frag} {mg : Str → Option Value} {base : Heap}
theorem inV_ints (z : Int) (W : List Int) : inV (.int z) (W.map V.int) = decide (z ∈ W) := by
  unfold inV
  rw [List.any_map, Bool.eq_iff_iff, List.any_eq_true, decide_eq_true_eq]
  constructor
  · rintro ⟨y, hy, e⟩
    have e' : (y == z) = true := e
    rw [← eq_of_beq e']
    exact hy
  · exact fun h => ⟨z, h, show (z == z) = true from beq_self_eq_true z⟩
theorem flat_ints (W : List Int) : (W.map V.int).all flatV = true := by
  rw [List.all_map]
  exact List.all_eq_true.mpr fun _ _ => rfl
theorem addAll_len : ∀ (W l : List Int), (addAll W l).length ≤ W.length + l.length
  | W, [] => by rw [addAll_nil]; simp
  | W, t :: l => by
    have h := addAll_len (if t ∈ W then W else W ++ [t]) l
    rw [addAll_cons]
    rw [List.length_cons]
    split at h
    · rename_i e; rw [if_pos e]; omega
    · rename_i e; rw [if_neg e]; rw [List.length_append, List.length_singleton] at h; omega
def spWalk (K : PySem.W.Frag) : Sp := fun vs H Q _ => ∃ (p : Int) (c q : Nat) (a : Addr) (as : List Addr) (rs : List (List Int)), vs = [.int c, .ref a, .int q] ∧ RowsAt K H a as rs ∧ ScOk p rs ∧ q < rs.length ∧
  ∀ (H' : Hp) (pw : Addr) (W : List Int), Same H H' → H pw = none → H' pw = some (.lst (W.map V.int)) → IsWalk p rs c q W → W.length ≤ 33 → (∀ z ∈ W, NumOk rs z) → Q (.ref pw) H'
theorem scWalk : FnScope ["c", "s", "q", "found", "k", "here", "target"] ["c", "s", "q"] (defScope sWalk) := ⟨rfl, rfl, rfl, by decide +kernel, rfl, by decide +kernel, by decide +kernel⟩
theorem d_walk (h : Has K mg "walk_past_others" sWalk) (T : Txt K mg) (dA : Def P w K mg base "is_at" 1 ["c", "place"] (spIsAt K)) (dN : Def P w K mg base "nexts_at" 1 ["place"] (spPick K nextsI)) :
    Def P w K mg base "walk_past_others" 2 ["c", "s", "q"] (spWalk K) := by
  refine def_of h (fun _ _ _ _ _ _ us hl => match us, hl with | [_, _, _], _ => rfl) scWalk (fun vs H Q E h => ?_) (fun f cdv A outer s H vs Q E hr h => ?_)
  · obtain ⟨p, c, q, a, as, rs, rfl, _⟩ := h
    rfl
  · obtain ⟨p, c, q, a, as, rs, rfl, R, ok, hq, k⟩ := h
    refine ⟨_, pss_cons (ps_set (i := 3) scWalk.nd rfl (Or.inl rfl) (pe_lst (pa_cons (pv 2) pa_nil)))
      (pss_cons (ps_set (i := 4) scWalk.nd rfl (Or.inl rfl) pe_int)
      (pss_cons (ps_while PassesOwn.never (pt_cmpR op_lt (pv 4) (pe_callB call_len_seq rfl T.len PySem.boot_len (pa_cons (pv 3) pa_nil)) (nomark _))
        (pss_cons (ps_set (i := 5) scWalk.nd rfl (Or.inl rfl) (pe_ix ix_list (pv 3) (pv 4) (fun _ _ => rfl)))
        (pss_cons (ps_if (PW.pt (pw_and (pt_cmpR op_ne (pv 5) (pe_gi T.OVER rfl) (nomark _)) (pw_and1 (pt_not (pt_val (pe_def dA hr rfl (pa_cons (pv 0) (pa_cons (pe_ix ix_list (pv 1) (pv 5) (fun _ _ => rfl)) pa_nil))))))))
          (pss_one (ps_for PassesOwn.never rfl (pi_list (pe_def dN hr rfl (pa_cons (pe_ix ix_list (pv 1) (pv 5) (fun _ _ => rfl)) pa_nil))) (pg_name (i := 6) scWalk.nd rfl (Or.inl rfl))
            (pss_one (ps_if (pt_cmpR op_notIn_seq (pv 6) (pv 3) (by with_unfolding_all rfl)) (pss_one (ps_expr (pe_bm PySem.F.plainAttrs_list PySem.F.slot_list_append PySem.F.type_list_append mt_append (pv 3) (pa_cons (pv 6) pa_nil)))) pss_nil))))
          pss_nil)
        (pss_one (ps_aug (i := 4) scWalk.nd rfl (Or.inl rfl) pe_int ip_add)))))
      (pss_one (ps_ret (pv 3))))), ?_⟩
    refine ⟨_, rfl, (by show 1 ≤ sizeLine; decide), fun l hl => ?_⟩
    have l32 := ok.len
    refine ⟨fun m σ H' => ∃ (k : Nat) (W : List Int) (v5 v6 : Option V), m = 34 - k ∧ k ≤ W.length ∧ σ = [some (.int c), some (.ref a), some (.int q), some (.ref l), some (.int k), v5, v6] ∧ Same H H' ∧ H' l = some (.lst (W.map V.int)) ∧ WInv p rs c q k W,
      ⟨34, 0, [(q : Int)], none, none, rfl, Nat.zero_le _, rfl, same_upd hl, upd_same, WInv.init hq⟩, ?_⟩
    rintro m σ H1 ⟨kk, W, v5, v6, rfl, hk, rfl, s1, e1, wi⟩
    have wl := wi.len ok hq
    refine ⟨_, rfl, _, rfl, l, _, rfl, .inl (SqL.of e1), _, _, rfl, rfl, _, rfl, iteB (fun h1 => ?_) (fun h1 => ?_)⟩
    · have h1 := of_decide_eq_true h1
      rw [List.length_map] at h1
      have hkl : kk < W.length := by omega
      obtain ⟨z, hz⟩ : ∃ z, W[kk]? = some z := ⟨_, List.getElem?_eq_getElem hkl⟩
      refine ⟨fun σ' H' => ∃ m', m' < 34 - kk ∧ _, fun _ _ h => h, _, rfl, _, rfl, l, _, _, .int z, rfl, rfl, SqL.of e1, atI_nat (at_map hz), ?_⟩
      have fin : ∀ (W' : List Int) (v6' : Option V) (H' : Hp), kk + 1 ≤ W'.length → Same H H' → H' l = some (.lst (W'.map V.int)) → WInv p rs c q (kk + 1) W' →
          ∃ m', m' < 34 - kk ∧ ∃ (k : Nat) (W : List Int) (v5 v6 : Option V), m' = 34 - k ∧ k ≤ W.length ∧ [some (V.int c), some (.ref a), some (.int q), some (.ref l), some (.int ((kk : Int) + 1)), some (.int z), v6'] = [some (.int c), some (.ref a), some (.int q), some (.ref l), some (.int k), v5, v6] ∧ Same H H' ∧ H' l = some (.lst (W.map V.int)) ∧ WInv p rs c q k W :=
        fun W' v6' H' g1 g2 g3 g4 => ⟨34 - (kk + 1), by omega, kk + 1, W', some (.int z), v6', rfl, g1, rfl, g2, g3, g4⟩
      refine ⟨_, rfl, rfl, _, rfl, iteB (fun h2 => ?_) (fun h2 => ?_)⟩
      · rw [dV] at h2
        have nz : ¬ z = 255 := by simpa using h2
        rcases wi.num ok hq (List.mem_of_getElem? hz) with e | ⟨q', rfl, hq'⟩
        · exact absurd e nz
        · have hr' := List.getElem?_eq_getElem hq'
          generalize rs[q'] = r at hr'
          obtain ⟨b, hb, hb2, hb3⟩ := R.get hr'
          refine ⟨_, rfl, _, rfl, _, rfl, a, _, _, .ref b, rfl, rfl, s1.seq R.lst, atI_nat hb2, c, b, r, rfl, s1.seq hb3, ok.row hr', _, rfl, iteB (fun h3 => ?_) (fun h3 => ?_)⟩
          · have h3 : isAtI c r = false := by simpa using h3
            refine ⟨_, rfl, _, rfl, a, _, _, .ref b, rfl, rfl, s1.seq R.lst, atI_nat hb2, b, r, rfl, s1.seq hb3, ok.row hr', fun H2 pn s2 fn en => ⟨pn, rfl, ⟨_, SqL.of en⟩, ?_⟩⟩
            have npl : pn ≠ l := fun e => by rw [e, e1] at fn; cases fn
            have n4 := (ok.row hr').nlen4
            refine for_list (K := K) (a := pn) (xs := (nextsI r).map V.int) (fun i σ H' => ∃ v6, σ = [some (.int c), some (.ref a), some (.int q), some (.ref l), some (.int kk), some (.int q'), v6] ∧ Same H H' ∧ H' pn = some (.lst ((nextsI r).map V.int)) ∧ H' l = some (.lst ((addAll W ((nextsI r).take i)).map V.int)))
              ⟨v6, rfl, s1.trans s2, en, s2 _ _ e1⟩ (fun i σ H' _ ⟨_, _, _, g, _⟩ => SqL.of g) ?_ ?_
            · rintro i y σ H' hi ⟨v6', rfl, g1, g2, g3⟩
              obtain ⟨t, ht, rfl⟩ := map_at hi
              refine ⟨_, rfl, _, rfl, l, _, rfl, .inl (SqL.of g3), rfl, flat_ints _, _, rfl, ?_⟩
              rw [if_pos rfl, inV_ints]
              have e4 := addAll_snoc W t ((nextsI r).take i)
              rw [← take_snoc ht] at e4
              refine iteB (fun h4 => ?_) (fun h4 => ?_)
              · have h4 : ¬ t ∈ addAll W ((nextsI r).take i) := by simpa using h4
                rw [if_neg h4] at e4
                refine ⟨_, rfl, .inl ⟨rfl, _, SqL.of g3⟩, _, rfl, l, _, _, rfl, rfl, g3, small1000 ?_, ?_⟩
                · rw [List.length_map]
                  have := addAll_len W ((nextsI r).take i)
                  rw [List.length_take] at this
                  omega
                · refine ⟨_, rfl, same_new g1 hl, by rw [upd_ne npl]; exact g2, ?_⟩
                  rw [upd_same, e4, List.map_append]
                  rfl
              · have h4 : t ∈ addAll W ((nextsI r).take i) := by simpa using h4
                rw [if_pos h4] at e4
                exact ⟨_, rfl, g1, g2, by rw [e4]; exact g3⟩
            · rintro σ H' ⟨v6', rfl, g1, g2, g3⟩
              rw [List.length_map, List.take_length] at g3
              obtain ⟨ee, hee⟩ := prefix_addAll W (nextsI r)
              exact ⟨_, rfl, _, _, rfl, rfl, fin _ _ _ (by rw [hee, List.length_append]; omega) g1 g3 (wi.turn ok hz hr' h3)⟩
          · have h3 : isAtI c r = true := by simpa using h3
            exact ⟨_, rfl, _, _, rfl, rfl, fin _ _ _ (by omega) s1 e1 (wi.own ok hz hr' h3)⟩
      · rw [dV] at h2
        have e : z = 255 := by simpa using h2
        refine iteF ⟨_, rfl, _, _, rfl, rfl, fin _ _ _ (by omega) s1 e1 (wi.over ok (by rw [hz, e]))⟩
    · have h1 := of_decide_eq_false h1
      rw [List.length_map] at h1
      refine ⟨_, rfl, k H1 l W s1 hl e1 (wi.done_all ok hq (by omega)) (by omega) fun z hz => wi.num ok hq hz⟩
end
end Pt
set_option Elab.async false
set_option linter.all false
set_option maxRecDepth 100000
set_option maxHeartbeats 4000000
namespace Pt
open PySem PySem.Spec PyProof.Rows L2 Mx
section
variable {P : Program} {w : World} {K : PySem.W.Frag} {mg : Str → Option Value} {base : Heap}
def spStops (K : PySem.W.Frag) : Sp := fun vs H Q _ => ∃ (c : Nat) (a : Addr) (as : List Addr) (rs : List (List Int)) (b : Addr) (W : List Int), vs = [.int c, .ref a, .ref b] ∧ RowsAt K H a as rs ∧ (∀ r ∈ rs, RowOk r) ∧ SqL K H b (W.map V.int) ∧ (∀ z ∈ W, NumOk rs z) ∧ W.length ≤ 100 ∧
  ∀ (H' : Hp) (pp : Addr), Same H H' → H pp = none → H' pp = some (.lst ((stopsI c rs W).map V.int)) → Q (.ref pp) H'
theorem scStopsOf : FnScope ["c", "s", "walk", "q"] ["c", "s", "walk"] (defScope sStopsOf) := ⟨rfl, rfl, rfl, by decide +kernel, rfl, by decide +kernel, by decide +kernel⟩
theorem getD_at {α : Type} {l : List α} {q : Nat} {r d : α} (h : l[q]? = some r) : l.getD q d = r := by rw [List.getD_eq_getElem?_getD, h]; rfl
theorem d_stops_of (h : Has K mg "stops_of" sStopsOf) (T : Txt K mg) (dA : Def P w K mg base "is_at" 1 ["c", "place"] (spIsAt K)) : Def P w K mg base "stops_of" 2 ["c", "s", "walk"] (spStops K) := by
  refine def_of h (fun _ _ _ _ _ _ us hl => match us, hl with | [_, _, _], _ => rfl) scStopsOf (fun vs H Q E h => ?_) (fun f cdv A outer s H vs Q E hr h => ?_)
  · obtain ⟨c, a, as, rs, b, W, rfl, _⟩ := h
    rfl
  · obtain ⟨c, a, as, rs, b, W, rfl, R, ok, hS, hn, hl, k⟩ := h
    have hR := hr
    refine ⟨_, pss_one (ps_ret (pe_lc rfl scStopsOf.nd (pi_list (pv 2)) (blkOk_by (N := ["c", "s", "walk", "q"]) (sc := defScope sStopsOf) (own := [("q", 3)]) (by decide +kernel)) (fun _ _ _ _ _ => pg_name (i := 3) scStopsOf.nd rfl (Or.inl rfl))
      (fun _ _ _ _ _ => pts_one (PW.pt (pw_or (pt_cmpR op_eq (pv 3) (pe_gi T.OVER rfl) (nomark _)) (pw_or1 (pt_val (pe_def dA hR rfl (pa_cons (pv 0) (pa_cons (pe_ix (ixl K) (pv 1) (pv 3) (fun _ _ => rfl)) pa_nil)))))))) (fun _ _ _ _ _ => pv 3))), ?_⟩
    refine ⟨_, rfl, b, rfl, ⟨_, hS⟩, fun D hD => lc_by (src_list hS) (Lc H D fun i => ((W.take i).filter (stopB c rs)).map V.int) (lc0 hD rfl) (fun _ _ h => h.1) ?_ ?_⟩
    · intro i x H' hi hx h1
      obtain ⟨z, hz, rfl⟩ := map_at hx
      have hlen := len_filter_take (stopB c rs) W i
      have yes : stopB c rs z = true → ∃ acc, H' D = some (.lst acc) ∧ acc.length < sizeLine ∧ Lc H D (fun i => ((W.take i).filter (stopB c rs)).map V.int) (i + 1) (upd H' D (.lst (acc ++ [.int z]))) := fun g =>
        lc_put hD h1 (Same.refl _) (by rw [filter_take hz g, List.map_append]; rfl) (by rw [List.length_map]; omega)
      refine ⟨rfl, _, rfl, rfl, _, rfl, iteB (fun h2 => ?_) (fun h2 => ?_)⟩
      · rw [dV] at h2
        exact iteT ⟨_, rfl, yes (by unfold stopB; rw [h2]; rfl)⟩
      · rw [dV] at h2
        have nz : ¬ z = 255 := of_decide_eq_false h2
        rcases hn z (List.mem_of_getElem? hz) with e | ⟨q, rfl, hq⟩
        · exact absurd e nz
        · have hr' := List.getElem?_eq_getElem hq
          generalize rs[q] = r at hr'
          obtain ⟨d, hd, hd2, hd3⟩ := R.get hr'
          have e1 : stopB c rs (q : Int) = isAtI c r := by
            unfold stopB
            rw [h2, Bool.false_or, Int.toNat_natCast, getD_at hr']
          refine ⟨_, rfl, _, rfl, _, rfl, a, _, _, .ref d, rfl, rfl, h1.1.seq R.lst, atI_nat hd2, c, d, r, rfl, h1.1.seq hd3, ok r (List.mem_of_getElem? hr'), _, rfl, iteB (fun h3 => ⟨_, rfl, yes (by rw [e1]; exact h3)⟩) (fun h3 => ?_)⟩
          exact lc_skip h1 (Same.refl _) (by rw [filter_take_no hz (by rw [e1]; exact h3)])
    · intro H' h1
      rw [List.length_map, Lc, List.take_length] at h1
      exact k H' D h1.1 hD h1.2
def comingsOf (p : Int) (rs : List (List Int)) (c : Nat) : List (List Int) := (List.range rs.length).map fun q => encS (Kh292.comesTo (scr p rs) c [some q])
def spComings (K : PySem.W.Frag) : Sp := fun vs H Q _ => ∃ (p : Int) (c : Nat) (a : Addr) (as : List Addr) (rs : List (List Int)), vs = [.int c, .ref a] ∧ RowsAt K H a as rs ∧ ScOk p rs ∧
  ∀ (H' : Hp) (pc : Addr) (cs : List Addr), Same H H' → RowsL H' pc cs (comingsOf p rs c) → Q (.ref pc) H'
theorem scAllComings : FnScope ["c", "s", "walks", "stops", "comings", "walk", "own", "state", "q"] ["c", "s"] (defScope sAllComings) := ⟨rfl, rfl, rfl, by decide +kernel, rfl, by decide +kernel, by decide +kernel⟩
theorem comings_by {p : Int} {rs : List (List Int)} {c : Nat} {Cs : List (List Int)} (hl : Cs.length = rs.length) (h : ∀ (j : Nat) (W : List Int), Cs[j]? = some W → W = encS (Kh292.comesTo (scr p rs) c [some j])) : Cs = comingsOf p rs c := by
  refine List.ext_getElem? fun j => ?_
  unfold comingsOf
  rw [List.getElem?_map]
  by_cases hj : j < rs.length
  · rw [List.getElem?_range hj, List.getElem?_eq_getElem (by omega)]
    exact congrArg some (h j _ (List.getElem?_eq_getElem (by omega)))
  · rw [List.getElem?_eq_none_iff.mpr (by omega), List.getElem?_eq_none_iff.mpr (by rw [List.length_range]; omega)]
    rfl
set_option maxHeartbeats 8000000 in
theorem d_all_comings (h : Has K mg "all_comings" sAllComings) (T : Txt K mg) (dW : Def P w K mg base "walk_past_others" 2 ["c", "s", "q"] (spWalk K)) (dS : Def P w K mg base "stops_of" 2 ["c", "s", "walk"] (spStops K)) :
    Def P w K mg base "all_comings" 3 ["c", "s"] (spComings K) := by
  refine def_of h (fun _ _ _ _ _ _ us hl => match us, hl with | [_, _], _ => rfl) scAllComings (fun vs H Q E h => ?_) (fun f cdv A outer s H vs Q E hr h => ?_)
  · obtain ⟨p, c, a, as, rs, rfl, _⟩ := h
    rfl
  · obtain ⟨p, c, a, as, rs, rfl, R, ok, k⟩ := h
    have hR := hr
    have hu := hr.units
    refine ⟨_, pss_cons (ps_setLc (i := 2) rfl scAllComings.nd rfl rfl (sw_true rfl rfl rfl (by decide +kernel)) (pi_range1 rfl T.range (pa_cons (pe_callB call_len_seq rfl T.len PySem.boot_len (pa_cons (pv 1) pa_nil)) pa_nil)) (blkOk_by (N := ["c", "s", "walks", "stops", "comings", "walk", "own", "state", "q"]) (sc := defScope sAllComings) (own := [("q", 8)]) (by decide +kernel)) (fun _ _ _ _ _ => pg_name (i := 8) scAllComings.nd rfl (Or.inl rfl)) (fun _ _ _ _ _ => pts_nil)
        (fun _ _ _ _ _ => pe_def dW hR rfl (pa_cons (pv 0) (pa_cons (pv 1) (pa_cons (pv 8) pa_nil)))))
      (pss_cons (ps_set (i := 3) scAllComings.nd rfl (Or.inr rfl) (pe_lc rfl scAllComings.nd (pi_list (pv 2)) (blkOk_by (N := ["c", "s", "walks", "stops", "comings", "walk", "own", "state", "q"]) (sc := defScope sAllComings) (own := [("walk", 5)]) (by decide +kernel)) (fun _ _ _ _ _ => pg_name (i := 5) scAllComings.nd rfl (Or.inl rfl)) (fun _ _ _ _ _ => pts_nil)
        (fun _ _ _ _ _ => pe_def dS hR rfl (pa_cons (pv 0) (pa_cons (pv 1) (pa_cons (pv 5) pa_nil))))))
      (pss_cons (ps_set (i := 4) scAllComings.nd rfl (Or.inl rfl) (pe_lst pa_nil))
      (pss_cons (ps_for PassesOwn.never rfl (pi_zip rfl T.zip (pa_cons (pv 2) (pa_cons (pv 3) pa_nil))) (pg_tup rfl (pgs_cons (pg_name (i := 5) scAllComings.nd rfl (Or.inl rfl)) (pgs_cons (pg_name (i := 6) scAllComings.nd rfl (Or.inl rfl)) pgs_nil)))
        (pss_cons (ps_set (i := 7) scAllComings.nd rfl (Or.inl rfl) (pe_callB cr_sorted rfl T.sorted PyProof.Rows.boot_sorted (pa_cons (pv 6) pa_nil)))
        (pss_cons (ps_if (PW.pt (pw_and (pt_cmpR op_notIn_seq (pe_gi T.OVER rfl) (pv 5) (by with_unfolding_all rfl)) (pw_and1 (pt_val (pe_callB (cr_any rfl) rfl T.any PyProof.Rows.boot_any (pa_cons (pe_lc rfl scAllComings.nd (pi_list (pv 5)) (blkOk_by (N := ["c", "s", "walks", "stops", "comings", "walk", "own", "state", "q"]) (sc := defScope sAllComings) (own := [("q", 8)]) (by decide +kernel)) (fun _ _ _ _ _ => pg_name (i := 8) scAllComings.nd rfl (Or.inl rfl)) (fun _ _ _ _ _ => pts_nil)
            (fun _ _ _ _ _ => pe_cmpR (eqLK K hu) (pe_ix (ixl K) (pv 3) (pv 8) (fun _ _ => rfl)) (pe_lst pa_nil) (nomark _))) pa_nil))))))
          (pss_one (ps_expr (pe_bm PySem.F.plainAttrs_list PySem.F.slot_list_append PySem.F.type_list_append mt_append (pv 7) (pa_cons (pe_gi T.OVER rfl) pa_nil)))) pss_nil)
        (pss_one (ps_expr (pe_bm PySem.F.plainAttrs_list PySem.F.slot_list_append PySem.F.type_list_append mt_append (pv 4) (pa_cons (pv 7) pa_nil)))))))
      (pss_one (ps_ret (pv 4)))))), ?_⟩
    have la : (as.map V.ref).length = rs.length := by rw [List.length_map, R.len]
    have l32 := ok.len
    have l1 := ok.len1
    refine ⟨_, rfl, a, _, rfl, .inl R.lst, rs.length, by rw [la], by omega, by omega, fun D hD => lc_by (src_rng 0 _) (Ln H D fun j W => IsWalk p rs c j W ∧ W.length ≤ 33 ∧ ∀ z ∈ W, NumOk rs z) (ln0 hD) (fun _ _ h => h.1) ?_ ?_⟩
    · rintro i x H' hi rfl h1
      refine ⟨rfl, yesT ⟨_, rfl, _, rfl, _, rfl, p, c, i, a, as, rs, by rw [Int.zero_add]; rfl, R.same h1.1, ok, hi, fun H4 pw W s4 fw ew iw lw nw => ln_put hD h1 s4 fw ew ⟨iw, lw, nw⟩ (by omega)⟩⟩
    · intro H1 h1
      have s1 := h1.1
      obtain ⟨ws, Ws, RW, lW, gW⟩ := ln_rows (K := K) h1
      refine ⟨_, rfl, D, rfl, ⟨_, RW.lst⟩, fun D2 hD2 => lc_by (src_list RW.lst) (Ln H1 D2 fun j W' => ∃ W, Ws[j]? = some W ∧ W' = stopsI c rs W) (ln0 hD2) (fun _ _ h => h.1) ?_ ?_⟩
      · intro i x H' hi hx h2
        obtain ⟨b, hb, rfl⟩ := map_at hx
        obtain ⟨W, hW, hWb⟩ := RW.row hb
        obtain ⟨iw, lw, nw⟩ := gW i W hW
        have hiw := (List.getElem?_eq_some_iff.mp hW).1
        refine ⟨rfl, yesT ⟨_, rfl, _, rfl, _, rfl, c, a, as, rs, b, W, rfl, R.same (s1.trans h2.1), ok.rows, h2.1.seq hWb, nw, by omega, fun H4 pp s4 fp ep => ln_put hD2 h2 s4 fp ep ⟨W, hW, rfl⟩ (by omega)⟩⟩
      · intro H2 h2
        rw [List.length_map, RW.len] at h2
        have s2 := s1.trans h2.1
        obtain ⟨ss, Ss, RS, lS, gS⟩ := ln_rows (K := K) h2
        have RW2 := RW.same h2.1
        refine ⟨Nat.zero_le _, fun cm hcm => ?_⟩
        have lz : (ws.map V.ref).length = (ss.map V.ref).length := by rw [List.length_map, List.length_map, RW.len, RS.len]; omega
        have s3 : Same H2 (upd H2 cm (.lst [])) := same_upd hcm
        refine ⟨_, rfl, _, rfl, D, D2, _, _, rfl, s3.seq RW2.lst, s3.seq RS.lst, for_zip (K := K) lz (fun i σ H' => ∃ v5 v6 v7, σ = [some (.int c), some (.ref a), some (.ref D), some (.ref D2), some (.ref cm), v5, v6, v7, none] ∧ Ln H2 cm (fun j W => W = encS (Kh292.comesTo (scr p rs) c [some j])) i H')
          ⟨none, none, none, rfl, ln0 hcm⟩ (fun i σ H' ⟨_, _, _, _, h⟩ => ⟨h.1.seq RW2.lst, h.1.seq RS.lst⟩) ?_ ?_⟩
        · rintro i x y TT σ H3 hx hy hTT ⟨v5, v6, v7, rfl, h3⟩
          obtain ⟨bw, hbw, rfl⟩ := map_at hx
          obtain ⟨bs, hbs, rfl⟩ := map_at hy
          obtain ⟨W, hW, hWb⟩ := RW2.row hbw
          obtain ⟨S, hS, hSb⟩ := RS.row hbs
          obtain ⟨iw, lw, nw⟩ := gW i W hW
          have hiW := (List.getElem?_eq_some_iff.mp hW).1
          have hirs : i < rs.length := by omega
          obtain ⟨W', hW', eS⟩ := gS i S hS
          have eW : W' = W := Option.some.inj (hW'.symm.trans hW)
          subst eW
          subst eS
          refine ⟨TT, _, rfl, SqT.of upd_same, rfl, _, _, rfl, _, _, rfl, rfl, ?_⟩
          have t3 : Same H3 (upd H3 TT (.tup [.ref bw, .ref bs])) := same_upd hTT
          have sl : (stopsI c rs W').length ≤ 33 := by
            have := List.length_filter_le (stopB c rs) W'
            unfold stopsI
            omega
          refine ⟨_, rfl, bs, stopsI c rs W', rfl, (h3.1.trans t3).seq hSb, by omega, fun ns' pst pm up fst => ?_⟩
          have ens : ns' = sortI (stopsI c rs W') := sortI_unique pm up
          subst ens
          have t4 : Same H3 (upd (upd H3 TT (.tup [.ref bw, .ref bs])) pst (.lst ((sortI (stopsI c rs W')).map V.int))) := t3.trans (same_upd fst)
          have fst3 : H3 pst = none := t3.free fst
          have e4 : upd (upd H3 TT (.tup [.ref bw, .ref bs])) pst (.lst ((sortI (stopsI c rs W')).map V.int)) pst = some (.lst ((sortI (stopsI c rs W')).map V.int)) := upd_same
          generalize upd (upd H3 TT (.tup [.ref bw, .ref bs])) pst (.lst ((sortI (stopsI c rs W')).map V.int)) = H4 at t4 e4 ⊢
          have fin : ∀ (cond : Bool) (H5 : Hp), Same H3 H5 → H5 pst = some (.lst ((sortI (stopsI c rs W') ++ (if cond then [255] else [])).map V.int)) → (cond = true ↔ (255 : Int) ∉ W' ∧ ∃ q' : Nat, q' < rs.length ∧ (q' : Int) ∈ W' ∧ Never (scr p rs) c q') →
              ∃ acc, H5 cm = some (.lst acc) ∧ acc.length < sizeLine ∧ Ln H2 cm (fun j W => W = encS (Kh292.comesTo (scr p rs) c [some j])) (i + 1) (upd H5 cm (.lst (acc ++ [.ref pst]))) := fun cond H5 g1 g2 g3 =>
            ln_put hcm h3 g1 fst3 g2 (coming_eq ok hirs iw cond g3) (by omega)
          have s34 := h3.1.trans t4
          refine ⟨_, rfl, bw, _, rfl, .inl (s34.seq hWb), rfl, flat_ints _, _, rfl, ?_⟩
          rw [if_pos rfl, inV_ints]
          refine iteB (fun g1 => ?_) (fun g1 => ?_)
          · have no : (255 : Int) ∉ W' := by simpa using g1
            have row : ∀ z ∈ W', ∃ (q' : Nat) (b' : Addr) (Wq : List Int), z = (q' : Int) ∧ q' < rs.length ∧ ss[q']? = some b' ∧ (ss.map V.ref)[q']? = some (.ref b') ∧ Ss[q']? = some (stopsI c rs Wq) ∧ SqL K H2 b' ((stopsI c rs Wq).map V.int) ∧ IsWalk p rs c q' Wq := fun z hz => by
              rcases nw z hz with e | ⟨q', rfl, hq'⟩
              · exact absurd (e ▸ hz) no
              · have hS' : Ss[q']? = some (Ss[q']'(by omega)) := List.getElem?_eq_getElem (by omega)
                obtain ⟨b', hb1, hb2, hb3⟩ := RS.get hS'
                obtain ⟨Wq, hWq, eq⟩ := gS q' _ hS'
                rw [eq] at hS' hb3
                exact ⟨q', b', Wq, rfl, hq', hb1, hb2, hS', hb3, (gW q' Wq hWq).1⟩
            refine ⟨_, rfl, bw, rfl, ⟨_, s34.seq hWb⟩, fun D3 hD3 => lc_by (src_list (s34.seq hWb)) (Lc H4 D3 fun i => (W'.take i).map fun z => V.bl (decide (Ss.getD z.toNat [] = []))) (lc0 hD3 rfl) (fun _ _ h => h.1) ?_ ?_⟩
            · intro i' x' H' hi' hx' h6
              obtain ⟨z, hz, rfl⟩ := map_at hx'
              obtain ⟨q', b', Wq, rfl, hq', hb1, hb2, hb3, hb4, hb5⟩ := row z (List.mem_of_getElem? hz)
              refine ⟨rfl, yesT ⟨_, rfl, _, rfl, D2, _, _, .ref b', rfl, rfl, (s34.trans h6.1).seq RS.lst, atI_nat hb2, Nat.zero_le _, fun e he => ⟨b', e, stopsI c rs Wq, [], rfl, rfl, (same_upd he).seq ((s34.trans h6.1).seq hb4), SqL.of upd_same, lc_put hD3 h6 (same_upd he) ?_ ?_⟩⟩⟩
              · rw [take_map _ hz, Int.toNat_natCast, getD_at hb3]
              · rw [List.length_map, List.length_take]
                omega
            · intro H5 h6
              rw [List.length_map, Lc, List.take_length] at h6
              have t5 := t4.trans h6.1
              refine ⟨D3, W'.map fun z => decide (Ss.getD z.toNat [] = []), rfl, SqL.of (by rw [h6.2, List.map_map]; rfl), _, rfl, ?_⟩
              rw [List.any_map]
              have hc : (W'.any (id ∘ fun z => decide (Ss.getD z.toNat [] = [])) = true ↔ (255 : Int) ∉ W' ∧ ∃ q' : Nat, q' < rs.length ∧ (q' : Int) ∈ W' ∧ Never (scr p rs) c q') := by
                rw [List.any_eq_true]
                constructor
                · rintro ⟨z, hz, e⟩
                  obtain ⟨q', b', Wq, rfl, hq', hb1, hb2, hb3, hb4, hb5⟩ := row z hz
                  have e' : Ss.getD (q' : Int).toNat [] = [] := of_decide_eq_true e
                  rw [Int.toNat_natCast, getD_at hb3] at e'
                  exact ⟨no, q', hq', hz, (stops_never ok hq' hb5).mp e'⟩
                · rintro ⟨_, q', hq', hz, nv⟩
                  refine ⟨(q' : Int), hz, ?_⟩
                  obtain ⟨q2, b', Wq, e2, hq2, hb1, hb2, hb3, hb4, hb5⟩ := row _ hz
                  have e3 : q2 = q' := by omega
                  subst e3
                  show decide (Ss.getD (q2 : Int).toNat [] = []) = true
                  rw [Int.toNat_natCast, getD_at hb3, (stops_never ok hq2 hb5).mpr nv]
                  rfl
              generalize W'.any (id ∘ fun z => decide (Ss.getD z.toNat [] = [])) = cond at hc
              refine iteB (fun g2 => ?_) (fun g2 => ?_)
              · rw [g2] at hc
                have e5 := h6.1 _ _ e4
                refine ⟨_, rfl, .inl ⟨rfl, _, SqL.of e5⟩, pst, _, _, rfl, rfl, e5, small1000 (by rw [List.length_map, sortI_len]; omega), ?_⟩
                obtain ⟨acc, g3, g4, g5⟩ := fin true (upd H5 pst (.lst ((sortI (stopsI c rs W')).map V.int ++ [.int 255]))) (same_new t5 fst3) (by rw [upd_same, if_pos rfl, List.map_append]; rfl) hc
                exact ⟨_, rfl, .inl ⟨rfl, _, SqL.of g3⟩, _, rfl, cm, acc, _, rfl, rfl, g3, g4, _, _, _, rfl, g5⟩
              · rw [g2] at hc
                obtain ⟨acc, g3, g4, g5⟩ := fin false H5 t5 (by rw [if_neg Bool.false_ne_true, List.append_nil]; exact h6.1 _ _ e4) hc
                exact ⟨_, rfl, .inl ⟨rfl, _, SqL.of g3⟩, _, rfl, cm, acc, _, rfl, rfl, g3, g4, _, _, _, rfl, g5⟩
          · have yes : (255 : Int) ∈ W' := by simpa using g1
            obtain ⟨acc, g3, g4, g5⟩ := fin false H4 t4 (by rw [if_neg Bool.false_ne_true, List.append_nil]; exact e4) ⟨fun q => absurd q Bool.false_ne_true, fun q => absurd yes q.1⟩
            exact iteF ⟨_, rfl, .inl ⟨rfl, _, SqL.of g3⟩, _, rfl, cm, acc, _, rfl, rfl, g3, g4, _, _, _, rfl, g5⟩
        · rintro σ H3 ⟨v5, v6, v7, rfl, h3⟩
          rw [List.length_map, RW.len] at h3
          obtain ⟨cs, Cs, RC, lC, gC⟩ := ln_rowsL h3
          have e : Cs = comingsOf p rs c := comings_by (by omega) gC
          subst e
          exact ⟨_, rfl, k H3 cm cs (s2.trans h3.1) RC⟩
end
end Pt
set_option Elab.async false
set_option linter.all false
set_option maxRecDepth 100000
set_option maxHeartbeats 4000000
namespace Pt
open PySem PySem.Spec PyProof.Rows L2 Mx
section
variable {P : Program} {w : World} {K : PySem.W.Frag} {mg : Str → Option Value} {base : Heap}
structure StAt (K : PySem.W.Frag) (H : Hp) (a : Addr) (as : List Addr) (rs : List (List Int)) (b : Addr) (ns : List Int) : Prop where
  R : RowsAt K H a as rs
  ok : ∀ r ∈ rs, RowOk r
  S : SqL K H b (ns.map V.int)
  num : ∀ z ∈ ns, NumOk rs z
  len : ns.length ≤ 100
theorem StAt.same {H H' : Hp} {a : Addr} {as : List Addr} {rs : List (List Int)} {b : Addr} {ns : List Int} (h : StAt K H a as rs b ns) (s : Same H H') : StAt K H' a as rs b ns := ⟨h.R.same s, h.ok, s.seq h.S, h.num, h.len⟩
def spWordsIn (K : PySem.W.Frag) : Sp := fun vs H Q _ => ∃ (a : Addr) (as : List Addr) (rs : List (List Int)) (b : Addr) (ns : List Int), vs = [.ref a, .ref b] ∧ StAt K H a as rs b ns ∧
  ∀ (H' : Hp) (pp : Addr) (ws : List Int), Same H H' → H pp = none → H' pp = some (.lst (ws.map V.int)) → ws.Pairwise (· < ·) → (∀ z, z ∈ ws ↔ ∃ r ∈ placesI rs ns, z ∈ wordsI r) → Q (.ref pp) H'
theorem scWordsIn : FnScope ["s", "state", "words", "place"] ["s", "state"] (defScope sWordsIn) := ⟨rfl, rfl, rfl, by decide +kernel, rfl, by decide +kernel, by decide +kernel⟩
theorem flat_take {α : Type} (g : α → List Int) {l : List α} {i : Nat} {x : α} (h : l[i]? = some x) : (l.take (i + 1)).flatMap g = (l.take i).flatMap g ++ g x := by
  rw [take_snoc h, List.flatMap_append]
  simp
theorem flat_len {α : Type} (g : α → List Int) (m : Nat) : ∀ {l : List α}, (∀ x ∈ l, (g x).length ≤ m) → (l.flatMap g).length ≤ l.length * m
  | [], _ => by simp
  | x :: l, h => by
    have h1 := h x (by simp)
    have h2 := flat_len g m (l := l) fun y hy => h y (List.mem_cons_of_mem _ hy)
    rw [List.flatMap_cons, List.length_append, List.length_cons, Nat.succ_mul]
    omega
theorem d_words_in (h : Has K mg "words_in" sWordsIn) (T : Txt K mg) (dP : Def P w K mg base "places_in" 1 ["s", "state"] (spPlaces K)) (dW : Def P w K mg base "words_at" 1 ["place"] (spPick K wordsI)) :
    Def P w K mg base "words_in" 2 ["s", "state"] (spWordsIn K) := by
  refine def_of h (fun _ _ _ _ _ _ us hl => match us, hl with | [_, _], _ => rfl) scWordsIn (fun vs H Q E h => ?_) (fun f cdv A outer s H vs Q E hr h => ?_)
  · obtain ⟨a, as, rs, b, ns, rfl, _⟩ := h
    rfl
  · obtain ⟨a, as, rs, b, ns, rfl, st, k⟩ := h
    refine ⟨_, pss_cons (ps_set (i := 2) scWordsIn.nd rfl (Or.inl rfl) (pe_lst pa_nil))
      (pss_cons (ps_for PassesOwn.never rfl (pi_list (pe_def dP hr rfl (pa_cons (pv 0) (pa_cons (pv 1) pa_nil)))) (pg_name (i := 3) scWordsIn.nd rfl (Or.inl rfl))
        (pss_one (ps_expr (pe_bm PySem.F.plainAttrs_list PySem.F.slot_list_extend PySem.F.type_list_extend mt_extend (pv 2) (pa_cons (pe_def dW hr rfl (pa_cons (pv 3) pa_nil)) pa_nil)))))
      (pss_one (ps_ret (pe_callB (call_sortedSet rfl) rfl T.sorted PyProof.Rows.boot_sorted (pa_cons (pe_callTy (call_setI rfl) rfl T.set PyProof.Rows.boot_set (pa_cons (pv 2) pa_nil)) pa_nil))))), ?_⟩
    refine ⟨Nat.zero_le _, fun l hl => ?_⟩
    have s0 : Same H (upd H l (.lst [])) := same_upd hl
    have st0 := st.same s0
    refine ⟨_, rfl, _, rfl, a, as, rs, b, ns, rfl, st0.R, st0.S, st.num, st.len, fun H1 pl s1 fl el => ⟨pl, rfl, ⟨_, SqL.of el⟩, ?_⟩⟩
    have npl : pl ≠ l := fun e => by rw [e, upd_same] at fl; cases fl
    have ll : ((placesA as ns).map V.ref).length = (placesI rs ns).length := by rw [List.length_map, places_len as rs ns]
    have wl4 : ∀ r ∈ placesI rs ns, (wordsI r).length ≤ 4 := fun r hr => (st.ok r (places_mem st.num hr)).wlen4
    have plen := places_le rs ns
    have slen := st.len
    refine for_list (K := K) (a := pl) (xs := (placesA as ns).map V.ref) (fun i σ H' => ∃ v3, σ = [some (.ref a), some (.ref b), some (.ref l), v3] ∧ Same H H' ∧ H' pl = some (.lst ((placesA as ns).map V.ref)) ∧ H' l = some (.lst ((((placesI rs ns).take i).flatMap wordsI).map V.int)))
      ⟨none, rfl, s0.trans s1, el, s1 _ _ upd_same⟩ (fun i σ H' _ ⟨_, _, _, g, _⟩ => SqL.of g) ?_ ?_
    · rintro i y σ H' hi ⟨v3, rfl, g1, g2, g3⟩
      obtain ⟨pb, hpb, rfl⟩ := map_at hi
      obtain ⟨r, hr1, hr2, hr3⟩ := places_at st.R st.num hpb
      refine ⟨_, rfl, .inl ⟨rfl, _, SqL.of g3⟩, _, rfl, pb, r, rfl, g1.seq hr3, st.ok r hr2, fun H2 pw s2 fw ew => ⟨l, pw, _, _, rfl, rfl, s2 _ _ g3, ew, ?_, ?_⟩⟩
      · have h1 := flat_len wordsI 4 (l := (placesI rs ns).take i) fun r hr => wl4 r (List.mem_of_mem_take hr)
        have h2 : ((placesI rs ns).take i).length ≤ 100 := by rw [List.length_take]; omega
        have h3 := wl4 r (List.mem_of_getElem? hr1)
        have h4 : sizeLine = 16777216 := sizeLine_eq
        rw [List.length_map, List.length_map]
        omega
      · have nwl : pl ≠ l := npl
        refine ⟨_, rfl, same_new (g1.trans s2) hl, by rw [upd_ne npl]; exact s2 _ _ g2, ?_⟩
        rw [upd_same, flat_take wordsI hr1, List.map_append]
    · rintro σ H' ⟨v3, rfl, g1, g2, g3⟩
      rw [ll, List.take_length] at g3
      have h1 := flat_len wordsI 4 (l := placesI rs ns) wl4
      refine ⟨_, rfl, l, _, rfl, SqL.of g3, by omega, fun ls hls => ⟨ls, _, rfl, upd_same, by omega, fun pp ws fp up mem => ?_⟩⟩
      refine k _ pp ws ((g1.trans (same_upd hls)).trans (same_upd fp)) ((g1.trans (same_upd hls)).free fp) upd_same up fun z => ?_
      rw [mem, List.mem_flatMap]
def spAlike (K : PySem.W.Frag) : Sp := fun vs H Q _ => ∃ (a : Addr) (r : List Int) (b : Addr) (o : List Int), vs = [.ref a, .ref b] ∧ SqL K H a (r.map V.int) ∧ SqL K H b (o.map V.int) ∧ RowOk r ∧ RowOk o ∧ ∀ H', Same H H' → Q (.bl (alikeB r o)) H'
theorem scSpeaksAlike : FnScope ["place", "other"] ["place", "other"] (defScope sSpeaksAlike) := ⟨rfl, rfl, rfl, by decide +kernel, rfl, by decide +kernel, by decide +kernel⟩
theorem d_speaks_alike (h : Has K mg "speaks_alike" sSpeaksAlike) (T : Txt K mg) (dW : Def P w K mg base "words_at" 1 ["place"] (spPick K wordsI)) : Def P w K mg base "speaks_alike" 2 ["place", "other"] (spAlike K) := by
  refine def_of h (fun _ _ _ _ _ _ us hl => match us, hl with | [_, _], _ => rfl) scSpeaksAlike (fun vs H Q E h => ?_) (fun f cdv A outer s H vs Q E hr h => ?_)
  · obtain ⟨a, r, b, o, rfl, _⟩ := h
    rfl
  · obtain ⟨a, r, b, o, rfl, h1, h2, ok1, ok2, k⟩ := h
    have hu := hr.units
    refine ⟨_, pss_one (ps_ret (pe_and (pe_cmpR op_eq (pe_ix ix_list (pv 0) pe_int (fun _ _ => rfl)) (pe_ix ix_list (pv 1) pe_int (fun _ _ => rfl)) (nomark _)) (pe_one (pe_cmpR (op_eqL hu)
      (pe_callB cr_sorted rfl T.sorted PyProof.Rows.boot_sorted (pa_cons (pe_def dW hr rfl (pa_cons (pv 0) pa_nil)) pa_nil)) (pe_callB cr_sorted rfl T.sorted PyProof.Rows.boot_sorted (pa_cons (pe_def dW hr rfl (pa_cons (pv 1) pa_nil)) pa_nil)) (nomark _))))), ?_⟩
    have w1 := ok1.wlen4
    have w2 := ok2.wlen4
    refine ⟨_, rfl, a, _, 1, _, rfl, rfl, h1, row1 ok1, _, rfl, b, _, 1, _, rfl, rfl, h2, row1 ok2, rfl, _, rfl, iteB (fun g1 => ?_) (fun g1 => ?_)⟩
    · rw [dV] at g1
      refine ⟨_, rfl, a, r, rfl, h1, ok1, fun H1 p1 s1 f1 e1 => ⟨p1, wordsI r, rfl, SqL.of e1, by omega, fun n1 q1 pm1 up1 fq1 => ?_⟩⟩
      have s2 := s1.trans (same_upd (o := .lst (n1.map V.int)) fq1)
      refine ⟨_, rfl, b, o, rfl, s2.seq h2, ok2, fun H2 p2 s3 f2 e2 => ⟨p2, wordsI o, rfl, SqL.of e2, by omega, fun n2 q2 pm2 up2 fq2 => ?_⟩⟩
      have s4 := s3.trans (same_upd (o := .lst (n2.map V.int)) fq2)
      refine ⟨q1, q2, n1, n2, rfl, rfl, s4.seq (SqL.of upd_same), SqL.of upd_same, ?_⟩
      have q := k _ (s2.trans s4)
      unfold alikeB at q
      rw [g1, Bool.true_and] at q
      have e : decide (n1 = n2) = decide (sortI (wordsI r) = sortI (wordsI o)) := by rw [sortI_unique pm1 up1, sortI_unique pm2 up2]
      rw [e]
      exact q
    · rw [dV] at g1
      have q := k H (Same.refl _)
      unfold alikeB at q
      rw [g1, Bool.false_and] at q
      exact q
def spFaultSp (K : PySem.W.Frag) (g : List Int → List Int → Bool) (n : Int) : Sp := fun vs H Q _ => ∃ (a : Addr) (as : List Addr) (h : List Int) (rest : List (List Int)), vs = [.ref a] ∧ RowsAt K H a as (h :: rest) ∧ (∀ r ∈ h :: rest, RowOk r) ∧ rest.length ≤ 100 ∧
  ∀ H', Same H H' → Q (.int (if (h :: rest).all (fun r => g r h) then 0 else n)) H'
theorem scFaultSpeaker : FnScope ["places", "alike", "place"] ["places"] (defScope sFaultSpeaker) := ⟨rfl, rfl, rfl, by decide +kernel, rfl, by decide +kernel, by decide +kernel⟩
theorem d_fault_of_speaker (h : Has K mg "fault_of_speaker" sFaultSpeaker) (T : Txt K mg) (dA : Def P w K mg base "speaks_alike" 2 ["place", "other"] (spAlike K)) : Def P w K mg base "fault_of_speaker" 3 ["places"] (spFaultSp K alikeB 3) := by
  refine def_of h (fun _ _ _ _ _ _ us hl => match us, hl with | [_], _ => rfl) scFaultSpeaker (fun vs H Q E h => ?_) (fun f cdv A outer s H vs Q E hr h => ?_)
  · obtain ⟨a, as, h, rest, rfl, _⟩ := h
    rfl
  · obtain ⟨a, as, h, rest, rfl, R, ok, hl, k⟩ := h
    have hR := hr
    refine ⟨_, pss_cons (ps_set (i := 1) scFaultSpeaker.nd rfl (Or.inl rfl) (pe_callB (cr_all rfl) rfl T.all PyProof.Rows.boot_all (pa_cons (pe_lc rfl scFaultSpeaker.nd (pi_list (pv 0)) (blkOk_by (N := ["places", "alike", "place"]) (sc := defScope sFaultSpeaker) (own := [("place", 2)]) (by decide +kernel)) (fun _ _ _ _ _ => pg_name (i := 2) scFaultSpeaker.nd rfl (Or.inl rfl)) (fun _ _ _ _ _ => pts_nil)
        (fun _ _ _ _ _ => pe_def dA hR rfl (pa_cons (pv 2) (pa_cons (pe_ix (ixl K) (pv 0) pe_int (fun _ _ => rfl)) pa_nil)))) pa_nil)))
      (pss_one (ps_ret (pe_ifExp (pt_val (pv 1)) (pe_gi T.CLEAR rfl) (pe_gi T.SPEAKS_UNLIKE rfl)))), ?_⟩
    obtain ⟨b0, hb0, hb1, hb2⟩ := R.get (j := 0) (r := h) rfl
    have la : (as.map V.ref).length = (h :: rest).length := by rw [List.length_map, R.len]
    refine ⟨_, rfl, a, rfl, ⟨_, R.lst⟩, fun D hD => lc_by (src_list R.lst) (Lc H D fun i => ((h :: rest).take i).map fun r => V.bl (alikeB r h)) (lc0 hD rfl) (fun _ _ h => h.1) ?_ ?_⟩
    · intro i x H' hi hx h6
      obtain ⟨b, hb, rfl⟩ := map_at hx
      obtain ⟨r, hrr, hrb⟩ := R.row hb
      refine ⟨rfl, yesT ⟨_, rfl, _, rfl, a, _, 0, .ref b0, rfl, rfl, h6.1.seq R.lst, atI_nat (j := 0) hb1, b, r, b0, h, rfl, h6.1.seq hrb, h6.1.seq hb2, ok r (List.mem_of_getElem? hrr), ok h (by simp), fun H4 s4 => lc_put hD h6 s4 (take_map _ hrr) ?_⟩⟩
      rw [List.length_map, List.length_take]
      have : (h :: rest).length ≤ 101 := by rw [List.length_cons]; omega
      omega
    · intro H' h6
      rw [la, Lc, List.take_length] at h6
      refine ⟨D, (h :: rest).map fun r => alikeB r h, rfl, SqL.of (by rw [h6.2, List.map_map]; rfl), _, rfl, _, rfl, ?_⟩
      rw [List.all_map]
      have q := k H' h6.1
      refine iteB (fun g => ?_) (fun g => ?_)
      · rw [if_pos (show (h :: rest).all (fun r => alikeB r h) = true from g)] at q
        exact q
      · rw [if_neg (show ¬ (h :: rest).all (fun r => alikeB r h) = true by rw [show (h :: rest).all (fun r => alikeB r h) = false from g]; exact Bool.false_ne_true)] at q
        exact q
theorem scFaultListener : FnScope ["places", "alike", "place"] ["places"] (defScope sFaultListener) := ⟨rfl, rfl, rfl, by decide +kernel, rfl, by decide +kernel, by decide +kernel⟩
theorem d_fault_of_listener (h : Has K mg "fault_of_listener" sFaultListener) (T : Txt K mg) : Def P w K mg base "fault_of_listener" 1 ["places"] (spFaultSp K (fun r h => decide (r0 r = r0 h)) 4) := by
  refine def_of h (fun _ _ _ _ _ _ us hl => match us, hl with | [_], _ => rfl) scFaultListener (fun vs H Q E h => ?_) (fun f cdv A outer s H vs Q E hr h => ?_)
  · obtain ⟨a, as, h, rest, rfl, _⟩ := h
    rfl
  · obtain ⟨a, as, h, rest, rfl, R, ok, hl, k⟩ := h
    refine ⟨_, pss_cons (ps_set (i := 1) scFaultListener.nd rfl (Or.inl rfl) (pe_callB (cr_all rfl) rfl T.all PyProof.Rows.boot_all (pa_cons (pe_lc rfl scFaultListener.nd (pi_list (pv 0)) (blkOk_by (N := ["places", "alike", "place"]) (sc := defScope sFaultListener) (own := [("place", 2)]) (by decide +kernel)) (fun _ _ _ _ _ => pg_name (i := 2) scFaultListener.nd rfl (Or.inl rfl)) (fun _ _ _ _ _ => pts_nil)
        (fun _ _ _ _ _ => pe_cmpR op_eq (pe_ix (ixl K) (pv 2) pe_int (fun _ _ => rfl)) (pe_ix (ixl K) (pe_ix (ixl K) (pv 0) pe_int (fun _ _ => rfl)) pe_int (fun _ _ => rfl)) (nomark _))) pa_nil)))
      (pss_one (ps_ret (pe_ifExp (pt_val (pv 1)) (pe_gi T.CLEAR rfl) (pe_gi T.LISTENS_TO_SEVERAL rfl)))), ?_⟩
    obtain ⟨b0, hb0, hb1, hb2⟩ := R.get (j := 0) (r := h) rfl
    have la : (as.map V.ref).length = (h :: rest).length := by rw [List.length_map, R.len]
    refine ⟨_, rfl, a, rfl, ⟨_, R.lst⟩, fun D hD => lc_by (src_list R.lst) (Lc H D fun i => ((h :: rest).take i).map fun r => V.bl (decide (r0 r = r0 h))) (lc0 hD rfl) (fun _ _ h => h.1) ?_ ?_⟩
    · intro i x H' hi hx h6
      obtain ⟨b, hb, rfl⟩ := map_at hx
      obtain ⟨r, hrr, hrb⟩ := R.row hb
      refine ⟨rfl, yesT ⟨_, rfl, b, _, 0, _, rfl, rfl, h6.1.seq hrb, row0 (ok r (List.mem_of_getElem? hrr)), _, rfl, a, _, 0, .ref b0, rfl, rfl, h6.1.seq R.lst, atI_nat (j := 0) hb1, b0, _, 0, _, rfl, rfl, h6.1.seq hb2, row0 (ok h (by simp)), rfl, lc_put hD h6 (Same.refl _) ?_ ?_⟩⟩
      · rw [take_map _ hrr, dV]
      · rw [List.length_map, List.length_take]
        have : (h :: rest).length ≤ 101 := by rw [List.length_cons]; omega
        omega
    · intro H' h6
      rw [la, Lc, List.take_length] at h6
      refine ⟨D, (h :: rest).map fun r => decide (r0 r = r0 h), rfl, SqL.of (by rw [h6.2, List.map_map]; rfl), _, rfl, _, rfl, ?_⟩
      rw [List.all_map]
      have q := k H' h6.1
      refine iteB (fun g => ?_) (fun g => ?_)
      · rw [if_pos (show (h :: rest).all (fun r => decide (r0 r = r0 h)) = true from g)] at q
        exact q
      · rw [if_neg (show ¬ (h :: rest).all (fun r => decide (r0 r = r0 h)) = true by rw [show (h :: rest).all (fun r => decide (r0 r = r0 h)) = false from g]; exact Bool.false_ne_true)] at q
        exact q
end
end Pt
set_option Elab.async false
set_option linter.all false
set_option maxRecDepth 100000
set_option maxHeartbeats 4000000
namespace Pt
open PySem PySem.Spec PyProof.Rows L2 Mx
section
variable {P : Program} {w : World} {K : PySem.W.Frag} {mg : Str → Option Value} {base : Heap}
theorem zip_filter_snd {α β : Type} (f : β → Bool) : ∀ (l : List α) (m : List β), l.length = m.length → ((l.zip m).filter fun v => f v.2).map (·.2) = m.filter f
  | [], [], _ => rfl
  | [], _ :: _, h => by simp at h
  | _ :: _, [], h => by simp at h
  | a :: l, b :: m, h => by
    have ih := zip_filter_snd f l m (by simpa using h)
    rw [List.zip_cons_cons, List.filter_cons, List.filter_cons]
    by_cases e : f b = true
    · rw [if_pos e, if_pos e, List.map_cons, ih]
    · rw [if_neg e, if_neg e, ih]
theorem zip_get {α β : Type} {l : List α} {m : List β} {i : Nat} {a : α} {b : β} (h1 : l[i]? = some a) (h2 : m[i]? = some b) : (l.zip m)[i]? = some (a, b) := by
  rw [List.getElem?_zip_eq_some]
  exact ⟨h1, h2⟩
theorem faultI_cons (c : Int) (h : List Int) (rest : List (List Int)) (over : Bool) : faultI c (h :: rest) over = if over = true then 1 else
    if (h :: rest).filter (fun r => decide (r0 r = c)) = [] then (if (h :: rest).all (fun r => decide (r0 r = r0 h)) = true then 0 else 4)
    else if ((h :: rest).filter (fun r => decide (r0 r = c))).length < (h :: rest).length then 2
    else if (h :: rest).all (fun r => alikeB r h) = true then 0 else 3 := rfl
theorem kindI_cons (c : Int) (r : List Int) (rest : List (List Int)) : kindI c (r :: rest) = if r0 r = c then [1, r1 r] else [2, r0 r] := rfl
def spFault (K : PySem.W.Frag) : Sp := fun vs H Q _ => ∃ (c : Nat) (a : Addr) (as : List Addr) (rs : List (List Int)) (b : Addr) (ns : List Int), vs = [.int c, .ref a, .ref b] ∧ StAt K H a as rs b ns ∧
  ∀ H', Same H H' → Q (.int (faultI c (placesI rs ns) (decide ((255 : Int) ∈ ns)))) H'
theorem scFaultState : FnScope ["c", "s", "state", "places", "spoken", "place"] ["c", "s", "state"] (defScope sFaultState) := ⟨rfl, rfl, rfl, by decide +kernel, rfl, by decide +kernel, by decide +kernel⟩
set_option maxHeartbeats 8000000 in
theorem d_fault_of_state (h : Has K mg "fault_of_state" sFaultState) (T : Txt K mg) (dP : Def P w K mg base "places_in" 1 ["s", "state"] (spPlaces K)) (dS : Def P w K mg base "fault_of_speaker" 3 ["places"] (spFaultSp K alikeB 3)) (dL : Def P w K mg base "fault_of_listener" 1 ["places"] (spFaultSp K (fun r h => decide (r0 r = r0 h)) 4)) :
    Def P w K mg base "fault_of_state" 4 ["c", "s", "state"] (spFault K) := by
  refine def_of h (fun _ _ _ _ _ _ us hl => match us, hl with | [_, _, _], _ => rfl) scFaultState (fun vs H Q E h => ?_) (fun f cdv A outer s H vs Q E hr h => ?_)
  · obtain ⟨c, a, as, rs, b, ns, rfl, _⟩ := h
    rfl
  · obtain ⟨c, a, as, rs, b, ns, rfl, st, k⟩ := h
    have hu := hr.units
    have hr1 : Room 1 _ := hr.mono (by decide)
    refine ⟨_, pss_cons (ps_set (i := 3) scFaultState.nd rfl (Or.inl rfl) (pe_def dP hr1 rfl (pa_cons (pv 1) (pa_cons (pv 2) pa_nil))))
      (pss_cons (ps_if (pt_cmpR (op_eqR hu) (pv 3) (pe_lst pa_nil) (nomark _)) (pss_one (ps_ret (pe_gi T.CLEAR rfl))) pss_nil)
      (pss_cons (ps_if (pt_cmpR op_in_seq (pe_gi T.OVER rfl) (pv 2) (by with_unfolding_all rfl)) (pss_one (ps_ret (pe_gi T.OVER_AMONG_PLACES rfl))) pss_nil)
      (pss_cons (ps_setLc (i := 4) rfl scFaultState.nd rfl rfl (sw_true rfl rfl rfl (by decide +kernel)) (pi_list (pv 3)) (blkOk_by (N := ["c", "s", "state", "places", "spoken", "place"]) (sc := defScope sFaultState) (own := [("place", 5)]) (by decide +kernel)) (fun _ _ _ _ _ => pg_name (i := 5) scFaultState.nd rfl (Or.inl rfl))
        (fun _ _ _ _ _ => pts_one (pt_cmpR op_eq (pe_ix (ixl K) (pv 5) pe_int (fun _ _ => rfl)) (pv 0) (nomark _))) (fun _ _ _ _ _ => pv 5))
      (pss_cons (ps_if (pt_cmpR (op_eqR hu) (pv 4) (pe_lst pa_nil) (nomark _)) (pss_one (ps_ret (pe_def dL hr1 rfl (pa_cons (pv 3) pa_nil)))) pss_nil)
      (pss_cons (ps_if (pt_cmpR op_lt (pe_callB call_len_seq rfl T.len PySem.boot_len (pa_cons (pv 4) pa_nil)) (pe_callB call_len_seq rfl T.len PySem.boot_len (pa_cons (pv 3) pa_nil)) (nomark _)) (pss_one (ps_ret (pe_gi T.SPEAKS_AND_LISTENS rfl))) pss_nil)
      (pss_one (ps_ret (pe_def dS hr rfl (pa_cons (pv 3) pa_nil))))))))), ?_⟩
    refine ⟨_, rfl, _, rfl, a, as, rs, b, ns, rfl, st.R, st.S, st.num, st.len, fun H1 pl s1 fl el => ?_⟩
    have PR : RowsAt K H1 pl (placesA as ns) (placesI rs ns) := places_rows st.R st.num s1 (SqL.of el)
    have pok : ∀ r ∈ placesI rs ns, RowOk r := fun r hr => st.ok r (places_mem st.num hr)
    have plen := Nat.le_trans (places_le rs ns) st.len
    have k1 : ∀ H', Same H1 H' → Q (.int (faultI c (placesI rs ns) (decide ((255 : Int) ∈ ns)))) H' := fun H' s' => k H' (s1.trans s')
    have S1 := s1.seq st.S
    clear el s1 k
    generalize placesA as ns = ps at PR
    generalize placesI rs ns = Rs at PR pok plen k1
    refine ⟨_, rfl, Nat.zero_le _, fun e1 he1 => ⟨pl, ps, Rs, e1, rfl, rfl, PR.same (same_upd he1), SqL.of upd_same, _, rfl, iteB (fun g1 => ?_) (fun g1 => ?_)⟩⟩
    · have e : Rs = [] := of_decide_eq_true g1
      have q := k1 _ (same_upd (o := .lst []) he1)
      rw [e] at q
      exact q
    · have ne : ¬ Rs = [] := of_decide_eq_false g1
      obtain ⟨h, rest, rfl⟩ : ∃ h rest, Rs = h :: rest := by
        cases Rs with
        | nil => exact absurd rfl ne
        | cons h rest => exact ⟨h, rest, rfl⟩
      have t1 : Same H1 (upd H1 e1 (.lst [])) := same_upd he1
      refine ⟨_, rfl, b, _, rfl, .inl (t1.seq S1), rfl, flat_ints _, _, rfl, ?_⟩
      rw [if_neg Bool.false_ne_true, inV_ints]
      refine iteB (fun g2 => ?_) (fun g2 => ?_)
      · have q := k1 _ t1
        rw [faultI_cons, if_pos g2] at q
        exact q
      · have k2 : ∀ H', Same H1 H' → Q (.int (if (h :: rest).filter (fun r => decide (r0 r = (c : Int))) = [] then (if (h :: rest).all (fun r => decide (r0 r = r0 h)) then 0 else 4)
            else if ((h :: rest).filter (fun r => decide (r0 r = (c : Int)))).length < (h :: rest).length then 2 else if (h :: rest).all (fun r => alikeB r h) then 0 else 3)) H' := fun H' s' => by
          have q := k1 H' s'
          rw [faultI_cons, if_neg (by rw [g2]; exact Bool.false_ne_true)] at q
          exact q
        have PR1 := PR.same t1
        generalize upd H1 e1 (.lst []) = H2 at t1 PR1
        have hz : ps.length = (h :: rest).length := PR.len
        refine ⟨_, rfl, pl, rfl, ⟨_, PR1.lst⟩, fun D hD => lc_by (src_list PR1.lst) (Lc H2 D fun i => (((ps.zip (h :: rest)).take i).filter fun v => decide (r0 v.2 = (c : Int))).map fun v => V.ref v.1) (lc0 hD rfl) (fun _ _ h => h.1) ?_ ?_⟩
        · intro i x H' hi hx h6
          obtain ⟨b', hb', rfl⟩ := map_at hx
          obtain ⟨r, hrr, hrb⟩ := PR1.row hb'
          have hzz := zip_get hb' hrr
          have hlen := len_filter_take (fun v : Addr × List Int => decide (r0 v.2 = (c : Int))) (ps.zip (h :: rest)) i
          have hzl : (ps.zip (h :: rest)).length ≤ 100 := by rw [List.length_zip]; omega
          refine ⟨rfl, _, rfl, b', _, 0, _, rfl, rfl, h6.1.seq hrb, row0 (pok r (List.mem_of_getElem? hrr)), _, rfl, rfl, _, rfl, iteB (fun g3 => ⟨_, rfl, ?_⟩) (fun g3 => ?_)⟩
          · rw [dV] at g3
            refine lc_put hD h6 (Same.refl _) ?_ (by rw [List.length_map]; omega)
            rw [filter_take hzz g3, List.map_append]
            rfl
          · rw [dV] at g3
            exact lc_skip h6 (Same.refl _) (by rw [filter_take_no hzz g3])
        · intro H3 h6
          have t2 := t1.trans h6.1
          have PR3 := PR1.same h6.1
          have hzz : (ps.zip (h :: rest)).length = (ps.map V.ref).length := by rw [List.length_zip, List.length_map]; omega
          rw [Lc, ← hzz, List.take_length] at h6
          have eF := zip_filter_snd (fun r => decide (r0 r = (c : Int))) ps (h :: rest) hz
          have zat : ∀ v ∈ ps.zip (h :: rest), SqL K H2 v.1 (v.2.map V.int) := fun v hv => by
            obtain ⟨j, hj⟩ := List.getElem?_of_mem hv
            obtain ⟨q1, q2⟩ := List.getElem?_zip_eq_some.mp hj
            exact PR1.at_ j v.1 v.2 q1 q2
          generalize hF : (ps.zip (h :: rest)).filter (fun v => decide (r0 v.2 = (c : Int))) = F at h6 eF
          have e3 : H3 D = some (.lst ((F.map (·.1)).map V.ref)) := by rw [h6.2, List.map_map]; rfl
          have SR : RowsAt K H3 D (F.map (·.1)) ((h :: rest).filter fun r => decide (r0 r = (c : Int))) := by
            rw [← eF]
            refine ⟨SqL.of e3, by simp, fun j b' r q1 q2 => ?_⟩
            obtain ⟨v, hv, rfl⟩ := map_at q1
            rw [List.getElem?_map, hv] at q2
            have e5 : v.2 = r := Option.some.inj q2
            subst e5
            have hm := List.mem_of_getElem? hv
            rw [← hF] at hm
            exact h6.1.seq (zat v (List.mem_filter.mp hm).1)
          have SL : ((F.map (·.1)).map V.ref).length = ((h :: rest).filter fun r => decide (r0 r = (c : Int))).length := by rw [List.length_map, SR.len]
          refine ⟨_, rfl, Nat.zero_le _, fun e4 he4 => ⟨D, _, _, e4, rfl, rfl, SR.same (same_upd he4), SqL.of upd_same, _, rfl, iteB (fun g4 => ?_) (fun g4 => ?_)⟩⟩
          · have e : (h :: rest).filter (fun r => decide (r0 r = (c : Int))) = [] := of_decide_eq_true g4
            have t3 := t2.trans (same_upd (o := .lst []) he4)
            refine ⟨_, rfl, pl, ps, h, rest, rfl, PR3.same (same_upd he4), pok, by simp at plen; omega, fun H' s' => ?_⟩
            have q := k2 H' (t3.trans s')
            rw [if_pos e] at q
            exact q
          · have ne : ¬ (h :: rest).filter (fun r => decide (r0 r = (c : Int))) = [] := of_decide_eq_false g4
            have t3 := t2.trans (same_upd (o := .lst []) he4)
            have t4 : Same H3 (upd H3 e4 (.lst [])) := same_upd he4
            refine ⟨_, rfl, D, _, rfl, .inl (t4.seq SR.lst), _, rfl, pl, _, rfl, .inl (t4.seq PR3.lst), _, _, rfl, rfl, _, rfl, iteB (fun g5 => ?_) (fun g5 => ?_)⟩
            · have g5 := of_decide_eq_true g5
              rw [SL, List.length_map, hz] at g5
              have q := k2 _ t3
              rw [if_neg ne, if_pos (by omega)] at q
              exact q
            · have g5 := of_decide_eq_false g5
              rw [SL, List.length_map, hz] at g5
              refine ⟨_, rfl, pl, ps, h, rest, rfl, PR3.same t4, pok, by simp at plen; omega, fun H' s' => ?_⟩
              have q := k2 H' (t3.trans s')
              rw [if_neg ne, if_neg (by omega)] at q
              exact q
def spKind (K : PySem.W.Frag) : Sp := fun vs H Q _ => ∃ (c : Nat) (a : Addr) (as : List Addr) (rs : List (List Int)) (b : Addr) (ns : List Int), vs = [.int c, .ref a, .ref b] ∧ StAt K H a as rs b ns ∧
  ∀ (H' : Hp) (pp : Addr), Same H H' → H pp = none → H' pp = some (.lst ((kindI c (placesI rs ns)).map V.int)) → Q (.ref pp) H'
theorem scKind : FnScope ["c", "s", "state", "places"] ["c", "s", "state"] (defScope sKind) := ⟨rfl, rfl, rfl, by decide +kernel, rfl, by decide +kernel, by decide +kernel⟩
theorem d_kind (h : Has K mg "kind_and_other" sKind) (T : Txt K mg) (dP : Def P w K mg base "places_in" 1 ["s", "state"] (spPlaces K)) : Def P w K mg base "kind_and_other" 2 ["c", "s", "state"] (spKind K) := by
  refine def_of h (fun _ _ _ _ _ _ us hl => match us, hl with | [_, _, _], _ => rfl) scKind (fun vs H Q E h => ?_) (fun f cdv A outer s H vs Q E hr h => ?_)
  · obtain ⟨c, a, as, rs, b, ns, rfl, _⟩ := h
    rfl
  · obtain ⟨c, a, as, rs, b, ns, rfl, st, k⟩ := h
    have hu := hr.units
    refine ⟨_, pss_cons (ps_set (i := 3) scKind.nd rfl (Or.inl rfl) (pe_def dP hr rfl (pa_cons (pv 1) (pa_cons (pv 2) pa_nil))))
      (pss_cons (ps_if (pt_cmpR (op_eqR hu) (pv 3) (pe_lst pa_nil) (nomark _)) (pss_one (ps_ret (pe_lst (pa_cons (pe_gi T.NOTHING_MORE rfl) (pa_cons pe_int pa_nil))))) pss_nil)
      (pss_cons (ps_if (pt_cmpR op_eq (pe_ix ix_list (pe_ix ix_list (pv 3) pe_int (fun _ _ => rfl)) pe_int (fun _ _ => rfl)) (pv 0) (nomark _))
        (pss_one (ps_ret (pe_lst (pa_cons (pe_gi T.SPEAKS rfl) (pa_cons (pe_ix ix_list (pe_ix ix_list (pv 3) pe_int (fun _ _ => rfl)) pe_int (fun _ _ => rfl)) pa_nil))))) pss_nil)
      (pss_one (ps_ret (pe_lst (pa_cons (pe_gi T.LISTENS rfl) (pa_cons (pe_ix ix_list (pe_ix ix_list (pv 3) pe_int (fun _ _ => rfl)) pe_int (fun _ _ => rfl)) pa_nil))))))), ?_⟩
    refine ⟨_, rfl, _, rfl, a, as, rs, b, ns, rfl, st.R, st.S, st.num, st.len, fun H1 pl s1 fl el => ?_⟩
    have PR : RowsAt K H1 pl (placesA as ns) (placesI rs ns) := places_rows st.R st.num s1 (SqL.of el)
    have pok : ∀ r ∈ placesI rs ns, RowOk r := fun r hr => st.ok r (places_mem st.num hr)
    refine ⟨_, rfl, Nat.zero_le _, fun e1 he1 => ⟨pl, _, _, e1, rfl, rfl, PR.same (same_upd he1), SqL.of upd_same, _, rfl, iteB (fun g1 => ?_) (fun g1 => ?_)⟩⟩
    · have e : placesI rs ns = [] := of_decide_eq_true g1
      rw [e] at k
      refine ⟨(by show 2 ≤ sizeLine; decide), fun pp hp => k _ pp ((s1.trans (same_upd he1)).trans (same_upd hp)) ((s1.trans (same_upd he1)).free hp) ?_⟩
      rw [upd_same]
      rfl
    · have ne : ¬ placesI rs ns = [] := of_decide_eq_false g1
      have t1 : Same H1 (upd H1 e1 (.lst [])) := same_upd he1
      have PR1 := PR.same t1
      have s2 := s1.trans t1
      generalize upd H1 e1 (.lst []) = H2 at PR1 t1 s2
      generalize placesI rs ns = Rs at k ne PR1 pok
      obtain ⟨r, rest, rfl⟩ : ∃ h rest, Rs = h :: rest := by
        cases Rs with
        | nil => exact absurd rfl ne
        | cons h rest => exact ⟨h, rest, rfl⟩
      obtain ⟨b0, hb0, hb1, hb2⟩ := PR1.get (j := 0) (r := r) rfl
      have ok := pok r (by simp)
      refine ⟨_, rfl, pl, _, 0, .ref b0, rfl, rfl, PR1.lst, atI_nat (j := 0) hb1, b0, _, 0, _, rfl, rfl, hb2, row0 ok, _, rfl, rfl, _, rfl, iteB (fun g2 => ?_) (fun g2 => ?_)⟩
      · rw [dV] at g2
        refine ⟨_, rfl, pl, _, 0, .ref b0, rfl, rfl, PR1.lst, atI_nat (j := 0) hb1, b0, _, 1, _, rfl, rfl, hb2, row1 ok, (by show 2 ≤ sizeLine; decide), fun pp hp => k _ pp (s2.trans (same_upd hp)) (s2.free hp) ?_⟩
        rw [upd_same]
        rw [kindI_cons, if_pos (of_decide_eq_true g2)]
        rfl
      · rw [dV] at g2
        refine ⟨_, rfl, pl, _, 0, .ref b0, rfl, rfl, PR1.lst, atI_nat (j := 0) hb1, b0, _, 0, _, rfl, rfl, hb2, row0 ok, (by show 2 ≤ sizeLine; decide), fun pp hp => k _ pp (s2.trans (same_upd hp)) (s2.free hp) ?_⟩
        rw [upd_same]
        rw [kindI_cons, if_neg (of_decide_eq_false g2)]
        rfl
structure XAt (K : PySem.W.Frag) (H : Hp) (p : Int) (c : Nat) (a : Addr) (as : List Addr) (rs : List (List Int)) (b : Addr) (x : Kh292.State) : Prop where
  R : RowsAt K H a as rs
  ok : ScOk p rs
  S : SqL K H b ((encS x).map V.int)
  st : StOk (scr p rs) c x
section
variable {H H' : Hp} {p : Int} {c : Nat} {a b : Addr} {as : List Addr} {rs : List (List Int)} {x : Kh292.State}
theorem enc_num_of (ok : ScOk p rs) (st : StOk (scr p rs) c x) {z : Int} (h : z ∈ encS x) : NumOk rs z := by
  rcases mem_encS.mp h with ⟨q, hq, rfl⟩ | ⟨_, rfl⟩
  · exact .inr ⟨q, rfl, ok.ltOf st hq⟩
  · exact .inl rfl
theorem enc_len (ok : ScOk p rs) (st : StOk (scr p rs) c x) : (encS x).length ≤ 33 := by
  have h1 := encS_len st
  have h2 := ok.len
  rw [scr_len] at h1
  omega
theorem XAt.stAt (h : XAt K H p c a as rs b x) : StAt K H a as rs b (encS x) := ⟨h.R, h.ok.rows, h.S, fun z hz => enc_num_of h.ok h.st hz, Nat.le_trans (enc_len h.ok h.st) (by decide)⟩
theorem XAt.same (h : XAt K H p c a as rs b x) (s : Same H H') : XAt K H' p c a as rs b x := ⟨h.R.same s, h.ok, s.seq h.S, h.st⟩
theorem places_enc (ok : ScOk p rs) (st : StOk (scr p rs) c x) : placesI rs (encS x) = rowsOf rs x := by
  unfold placesI encS rowsOf
  rw [List.filter_append, List.map_append]
  have l32 := ok.len
  have e1 : (x.places.map fun q : Nat => (q : Int)).filter keepZ = x.places.map fun q : Nat => (q : Int) := by
    refine List.filter_eq_self.mpr fun z hz => ?_
    obtain ⟨q, hq, rfl⟩ := List.mem_map.mp hz
    have := ok.ltOf st hq
    unfold keepZ
    rw [decide_eq_false (by omega)]
    rfl
  have e2 : (if x.over then [(255 : Int)] else []).filter keepZ = [] := by
    split
    · rfl
    · rfl
  rw [e1, e2, List.map_nil, List.append_nil, List.map_map]
  rfl
theorem over_enc (ok : ScOk p rs) (st : StOk (scr p rs) c x) : decide ((255 : Int) ∈ encS x) = x.over := by
  have l32 := ok.len
  rw [Bool.eq_iff_iff, decide_eq_true_eq, mem_encS]
  constructor
  · rintro (⟨q, hq, e⟩ | h)
    · have := ok.ltOf st hq
      omega
    · exact h.1
  · exact fun h => .inr ⟨h, rfl⟩
theorem fault_enc (ok : ScOk p rs) (st : StOk (scr p rs) c x) : faultI c (placesI rs (encS x)) (decide ((255 : Int) ∈ encS x)) = (Kh292.fault (scr p rs) c x : Nat) := by
  rw [places_enc ok st, over_enc ok st, fault_eq ok st]
end
def troubleI (S : Kh292.Script) (c : Nat) (x : Kh292.State) : List Int := if Kh292.fault S c x ≠ 0 then [1, (c : Int), (Kh292.fault S c x : Int)] else if 16 < (Kh292.words S x).length then [-75] else []
def spTrouble (K : PySem.W.Frag) : Sp := fun vs H Q _ => ∃ (p : Int) (c : Nat) (a : Addr) (as : List Addr) (rs : List (List Int)) (b : Addr) (x : Kh292.State), vs = [.int c, .ref a, .ref b] ∧ XAt K H p c a as rs b x ∧
  ∀ (H' : Hp) (pp : Addr), Same H H' → H pp = none → H' pp = some (.lst ((troubleI (scr p rs) c x).map V.int)) → Q (.ref pp) H'
theorem scTrouble : FnScope ["c", "s", "state", "fault"] ["c", "s", "state"] (defScope sTrouble) := ⟨rfl, rfl, rfl, by decide +kernel, rfl, by decide +kernel, by decide +kernel⟩
theorem d_trouble (h : Has K mg "trouble_of_state" sTrouble) (T : Txt K mg) (dF : Def P w K mg base "fault_of_state" 4 ["c", "s", "state"] (spFault K)) (dW : Def P w K mg base "words_in" 2 ["s", "state"] (spWordsIn K)) :
    Def P w K mg base "trouble_of_state" 5 ["c", "s", "state"] (spTrouble K) := by
  refine def_of h (fun _ _ _ _ _ _ us hl => match us, hl with | [_, _, _], _ => rfl) scTrouble (fun vs H Q E h => ?_) (fun f cdv A outer s H vs Q E hr h => ?_)
  · obtain ⟨p, c, a, as, rs, b, x, rfl, _⟩ := h
    rfl
  · obtain ⟨p, c, a, as, rs, b, x, rfl, xa, k⟩ := h
    have hr2 : Room 2 _ := hr.mono (by decide)
    refine ⟨_, pss_cons (ps_set (i := 3) scTrouble.nd rfl (Or.inl rfl) (pe_def dF hr rfl (pa_cons (pv 0) (pa_cons (pv 1) (pa_cons (pv 2) pa_nil)))))
      (pss_cons (ps_if (pt_cmpR op_ne (pv 3) (pe_gi T.CLEAR rfl) (nomark _)) (pss_one (ps_ret (pe_lst (pa_cons (pe_gi T.NOT_CLEAR rfl) (pa_cons (pv 0) (pa_cons (pv 3) pa_nil)))))) pss_nil)
      (pss_cons (ps_if (pt_cmpR op_gt (pe_callB call_len_seq rfl T.len PySem.boot_len (pa_cons (pe_def dW hr2 rfl (pa_cons (pv 1) (pa_cons (pv 2) pa_nil))) pa_nil)) (pe_gi T.MOST_WORDS rfl) (nomark _)) (pss_one (ps_ret (pe_lst (pa_cons (pe_gi T.TOO_MUCH rfl) pa_nil)))) pss_nil)
      (pss_one (ps_ret (pe_lst pa_nil))))), ?_⟩
    refine ⟨_, rfl, _, rfl, _, rfl, c, a, as, rs, b, encS x, rfl, xa.stAt, fun H1 s1 => ?_⟩
    rw [fault_enc xa.ok xa.st]
    refine ⟨_, rfl, rfl, _, rfl, iteB (fun g1 => ?_) (fun g1 => ?_)⟩
    · rw [dV] at g1
      have ne : Kh292.fault (scr p rs) c x ≠ 0 := fun e => by rw [e] at g1; simp at g1
      refine ⟨_, rfl, _, rfl, (by show 3 ≤ sizeLine; decide), fun pp hp => k _ pp (s1.trans (same_upd hp)) (s1.free hp) ?_⟩
      rw [upd_same]
      unfold troubleI
      rw [if_pos ne]
      rfl
    · rw [dV] at g1
      have e : Kh292.fault (scr p rs) c x = 0 := by
        have : ((Kh292.fault (scr p rs) c x : Nat) : Int) = 0 := by simpa using g1
        omega
      have xa1 := xa.same s1
      refine ⟨_, rfl, _, rfl, a, as, rs, b, encS x, rfl, xa1.stAt, fun H2 pw ws s2 fw ew up mem => ⟨pw, _, rfl, .inl (SqL.of ew), _, _, rfl, rfl, _, rfl, ?_⟩⟩
      rw [places_enc xa.ok xa.st] at mem
      have ews := words_eq xa.ok xa.st up mem
      have ewl : (ws.map V.int).length = (Kh292.words (scr p rs) x).length := by rw [List.length_map, ews]; unfold wordsL; rw [List.length_map]
      rw [ewl]
      have s3 := s1.trans s2
      refine iteB (fun g2 => ?_) (fun g2 => ?_)
      · have g2 := of_decide_eq_true g2
        refine ⟨(by show 1 ≤ sizeLine; decide), fun pp hp => k _ pp (s3.trans (same_upd hp)) (s3.free hp) ?_⟩
        rw [upd_same]
        unfold troubleI
        rw [if_neg (by rw [e]; simp), if_pos (by omega)]
        rfl
      · have g2 := of_decide_eq_false g2
        refine ⟨Nat.zero_le _, fun pp hp => k _ pp (s3.trans (same_upd hp)) (s3.free hp) ?_⟩
        rw [upd_same]
        unfold troubleI
        rw [if_neg (by rw [e]; simp), if_neg (by omega)]
        rfl
end
end Pt
set_option Elab.async false
set_option linter.all false
set_option maxRecDepth 100000
set_option maxHeartbeats 4000000
namespace Pt
open PySem PySem.Spec PyProof.Rows L2 Mx
section
variable {P : Program} {w : World} {K : PySem.W.Frag} {mg : Str → Option Value} {base : Heap}
def behL (cs : List (List Int)) (wd : Int) (r : List Int) : List Int := ((wordsI r).zip (nextsI r)).flatMap fun v => if v.1 = wd then comI cs v.2 else []
def Dk (H : Hp) (d : Addr) (L : List Int) : Prop := ∃ kvs, H d = some (.dK kvs) ∧ kvs.map (·.1) = (addAll [] L).map Sum.inl
theorem keys_put (kvs : List (Key × V)) (ks : List Int) (z : Int) (v : V) (h : kvs.map (·.1) = ks.map Sum.inl) : (putK kvs (Sum.inl z) v).map (·.1) = (if z ∈ ks then ks else ks ++ [z]).map Sum.inl := by
  have hm : (kvs.any fun kv => decide (kv.1 = Sum.inl z)) = decide (z ∈ ks) := by
    rw [Bool.eq_iff_iff, List.any_eq_true, decide_eq_true_eq]
    constructor
    · rintro ⟨kv, hk, e⟩
      have e' : kv.1 = Sum.inl z := of_decide_eq_true e
      have : kv.1 ∈ kvs.map (·.1) := List.mem_map_of_mem hk
      rw [h, e'] at this
      obtain ⟨y, hy, ey⟩ := List.mem_map.mp this
      rw [← Sum.inl.inj ey]
      exact hy
    · intro hz
      have : (Sum.inl z : Key) ∈ kvs.map (·.1) := by rw [h]; exact List.mem_map_of_mem hz
      obtain ⟨kv, hk, e⟩ := List.mem_map.mp this
      exact ⟨kv, hk, decide_eq_true e⟩
  unfold putK
  rw [hm]
  by_cases hz : z ∈ ks
  · rw [if_pos (decide_eq_true hz), if_pos hz, ← h, List.map_map]
    refine List.map_congr_left fun kv _ => ?_
    show (if kv.1 = Sum.inl z then (kv.1, v) else kv).1 = kv.1
    split <;> rfl
  · rw [if_neg (by rw [decide_eq_false hz]; exact Bool.false_ne_true), if_neg hz, List.map_append, List.map_append, h]
    rfl
theorem num_len {rs : List (List Int)} {ks : List Int} (nd : ks.Nodup) (h : ∀ z ∈ ks, NumOk rs z) : ks.length ≤ rs.length + 1 := by
  have : ks.length ≤ ((255 : Int) :: (List.range rs.length).map (fun q : Nat => (q : Int))).length := List.Nodup.length_le_of_subset nd fun z hz => by
    rcases h z hz with e | ⟨q', e, hq'⟩
    · simp [e]
    · rw [e]
      exact List.mem_cons_of_mem _ (List.mem_map.mpr ⟨q', List.mem_range.mpr hq', rfl⟩)
  simpa using this
theorem Dk.put {H : Hp} {d : Addr} {L : List Int} {rs : List (List Int)} {z : Int} (h : Dk H d L) (l32 : rs.length ≤ 32) (hn : ∀ y ∈ L, NumOk rs y) : ∃ H', DPut H d (.int z) (.bl true) H' ∧ Dk H' d (L ++ [z]) ∧ ∀ b o, H b = some o → b ≠ d → H' b = some o := by
  obtain ⟨kvs, hd, hk⟩ := h
  have nl := num_len (rs := rs) (nodup_addAll (f := []) (l := L) (by simp)) fun y hy => by
    rcases mem_addAll.mp hy with q | q
    · simp at q
    · exact hn y q
  have hl : kvs.length = (addAll [] L).length := by
    have := congrArg List.length hk
    simpa using this
  refine ⟨_, DPut.k (k := Sum.inl z) hd (small1000 (by omega)), ⟨_, upd_same, ?_⟩, fun b o e ne => by rw [upd_ne ne]; exact e⟩
  rw [keys_put kvs _ z _ hk, addAll_snoc]
theorem Dk.same {H H' : Hp} {d : Addr} {L : List Int} (h : Dk H d L) (s : Same H H') : Dk H' d L := let ⟨kvs, h1, h2⟩ := h; ⟨kvs, s _ _ h1, h2⟩
theorem sq_but {H H' : Hp} {d p : Addr} {xs : List V} {L : List Int} (h : SqL K H p xs) (hd : Dk H d L) (k : ∀ b o, H b = some o → b ≠ d → H' b = some o) : SqL K H' p xs := by
  obtain ⟨kvs, hd, _⟩ := hd
  rcases h with (h | ⟨o, h⟩) | h
  · exact .inl (.inl (k _ _ h fun e => by rw [e, hd] at h; cases h))
  · exact .inl (.inr ⟨o, k _ _ h fun e => by rw [e, hd] at h; cases h⟩)
  · exact .inr h
theorem lst_but {H H' : Hp} {d p : Addr} {xs : List V} {L : List Int} (h : H p = some (.lst xs)) (hd : Dk H d L) (k : ∀ b o, H b = some o → b ≠ d → H' b = some o) : H' p = some (.lst xs) := by
  obtain ⟨kvs, hd, _⟩ := hd
  exact k _ _ h fun e => by rw [e, hd] at h; cases h
theorem same_but {H0 H H' : Hp} {d : Addr} (s : Same H0 H) (hd : H0 d = none) (k : ∀ b o, H b = some o → b ≠ d → H' b = some o) : Same H0 H' := fun b o e => k b o (s b o e) (ne_of_none e hd)
def spBehind (K : PySem.W.Frag) : Sp := fun vs H Q _ => ∃ (a : Addr) (as : List Addr) (rs : List (List Int)) (pc : Addr) (cas : List Addr) (cs : List (List Int)) (b : Addr) (ns : List Int) (wd : Int), vs = [.ref a, .ref pc, .ref b, .int wd] ∧ StAt K H a as rs b ns ∧ RowsAt K H pc cas cs ∧ cs.length = rs.length ∧ rs.length ≤ 32 ∧
  (∀ r ∈ rs, ∀ t ∈ nextsI r, NumOk rs t) ∧ (∀ C ∈ cs, ∀ z ∈ C, NumOk rs z) ∧
  ∀ (H' : Hp) (pp : Addr) (l : List Int), Same H H' → H pp = none → H' pp = some (.lst (l.map V.int)) → l.Pairwise (· < ·) → (∀ z, z ∈ l ↔ ∃ r ∈ placesI rs ns, z ∈ behL cs wd r) → Q (.ref pp) H'
theorem num_com {rs cs : List (List Int)} (e : cs.length = rs.length) (hc : ∀ C ∈ cs, ∀ z ∈ C, NumOk rs z) {t : Int} (ht : NumOk rs t) : ∀ z ∈ comI cs t, NumOk rs z := by
  intro z hz
  unfold comI at hz
  split at hz
  · exact .inl (by simpa using hz)
  · rename_i nt
    rcases ht with q | ⟨q, rfl, hq⟩
    · exact absurd q nt
    · rw [Int.toNat_natCast, List.getD_eq_getElem?_getD, List.getElem?_eq_getElem (by omega)] at hz
      exact hc _ (List.getElem_mem (by omega)) z hz
theorem scStateBehind : FnScope ["s", "comings", "state", "word", "found", "place", "said", "target", "q"] ["s", "comings", "state", "word"] (defScope sStateBehind) := ⟨rfl, rfl, rfl, by decide +kernel, rfl, by decide +kernel, by decide +kernel⟩
set_option maxHeartbeats 8000000 in
theorem d_state_behind (h : Has K mg "state_behind" sStateBehind) (T : Txt K mg) (dP : Def P w K mg base "places_in" 1 ["s", "state"] (spPlaces K)) (dW : Def P w K mg base "words_at" 1 ["place"] (spPick K wordsI)) (dN : Def P w K mg base "nexts_at" 1 ["place"] (spPick K nextsI))
    (dC : Def P w K mg base "coming_from" 1 ["comings", "target"] (spComing K)) : Def P w K mg base "state_behind" 2 ["s", "comings", "state", "word"] (spBehind K) := by
  refine def_of h (fun _ _ _ _ _ _ us hl => match us, hl with | [_, _, _, _], _ => rfl) scStateBehind (fun vs H Q E h => ?_) (fun f cdv A outer s H vs Q E hr h => ?_)
  · obtain ⟨a, as, rs, pc, cas, cs, b, ns, wd, rfl, _⟩ := h
    rfl
  · obtain ⟨a, as, rs, pc, cas, cs, b, ns, wd, rfl, st, RC, lc, l32, hnx, hcz, k⟩ := h
    have hu := hu_of hr
    refine ⟨_, pss_cons (ps_set (i := 4) scStateBehind.nd rfl (Or.inl rfl) pe_dnewK)
      (pss_cons (ps_for PassesOwn.never rfl (pi_list (pe_def dP hr rfl (pa_cons (pv 0) (pa_cons (pv 2) pa_nil)))) (pg_name (i := 5) scStateBehind.nd rfl (Or.inl rfl))
        (pss_one (ps_for PassesOwn.never rfl (pi_zip rfl T.zip (pa_cons (pe_def dW hr rfl (pa_cons (pv 5) pa_nil)) (pa_cons (pe_def dN hr rfl (pa_cons (pv 5) pa_nil)) pa_nil))) (pg_tup rfl (pgs_cons (pg_name (i := 6) scStateBehind.nd rfl (Or.inl rfl)) (pgs_cons (pg_name (i := 7) scStateBehind.nd rfl (Or.inl rfl)) pgs_nil)))
          (pss_one (ps_if (pt_cmpR op_eq (pv 6) (pv 3) (nomark _))
            (pss_one (ps_for PassesOwn.never rfl (pi_list (pe_def dC hr rfl (pa_cons (pv 1) (pa_cons (pv 7) pa_nil)))) (pg_name (i := 8) scStateBehind.nd rfl (Or.inl rfl))
              (pss_one (ps_dput hu (pv 4) (pv 8) pe_bl rfl))))
            pss_nil)))))
      (pss_one (ps_ret (pe_callB (call_sortedKeys rfl) rfl T.sorted PyProof.Rows.boot_sorted (pa_cons (pe_bm0 PySem.F.plainAttrs_dict PySem.F.slot_dict_keys PySem.F.type_dict_keys mt_keys (pv 4)) pa_nil))))), ?_⟩
    intro d hd
    have s0 : Same H (upd H d (.dK [])) := same_upd hd
    have st0 := st.same s0
    refine ⟨_, rfl, _, rfl, a, as, rs, b, ns, rfl, st0.R, st0.S, st.num, st.len, fun H1 pl s1 fl el => ⟨pl, rfl, ⟨_, SqL.of el⟩, ?_⟩⟩
    have ll : ((placesA as ns).map V.ref).length = (placesI rs ns).length := by rw [List.length_map, places_len as rs ns]
    have nL : ∀ r ∈ placesI rs ns, ∀ z ∈ behL cs wd r, NumOk rs z := fun r hr z hz => by
      unfold behL at hz
      obtain ⟨v, hv, hz⟩ := List.mem_flatMap.mp hz
      split at hz
      · exact num_com lc hcz (hnx r (places_mem st.num hr) _ (List.of_mem_zip hv).2) z hz
      · simp at hz
    refine for_list (K := K) (a := pl) (xs := (placesA as ns).map V.ref) (fun i σ H' => ∃ v5 v6 v7 v8, σ = [some (.ref a), some (.ref pc), some (.ref b), some (.int wd), some (.ref d), v5, v6, v7, v8] ∧ Same H H' ∧ H' pl = some (.lst ((placesA as ns).map V.ref)) ∧ Dk H' d (((placesI rs ns).take i).flatMap (behL cs wd)))
      ⟨none, none, none, none, rfl, s0.trans s1, el, [], s1 _ _ upd_same, rfl⟩ (fun i σ H' _ ⟨_, _, _, _, _, _, g, _⟩ => SqL.of g) ?_ ?_
    · rintro i y σ H2 hi ⟨v5, v6, v7, v8, rfl, g1, g2, g3⟩
      obtain ⟨pb, hpb, rfl⟩ := map_at hi
      obtain ⟨r, hr1, hr2, hr3⟩ := places_at st.R st.num hpb
      have rok := st.ok r hr2
      refine ⟨_, rfl, pb, r, rfl, g1.seq hr3, rok, fun H3 pw s3 fw ew => ?_⟩
      refine ⟨_, rfl, pb, r, rfl, (g1.trans s3).seq hr3, rok, fun H4 pn s4 fn en => ⟨pw, pn, _, _, rfl, SqL.of (s4 _ _ ew), SqL.of en, ?_⟩⟩
      have lz : ((wordsI r).map V.int).length = ((nextsI r).map V.int).length := by rw [List.length_map, List.length_map, rok.wlen, rok.nlen]
      have g14 : Same H H4 := (g1.trans s3).trans s4
      have nL0 : ∀ z ∈ ((placesI rs ns).take i).flatMap (behL cs wd), NumOk rs z := fun z hz => by
        obtain ⟨r', hr', hz⟩ := List.mem_flatMap.mp hz
        exact nL r' (List.mem_of_mem_take hr') z hz
      generalize hL0 : ((placesI rs ns).take i).flatMap (behL cs wd) = L0 at g3 nL0
      refine for_zip (K := K) lz (fun j σ H' => ∃ v6 v7 v8, σ = [some (.ref a), some (.ref pc), some (.ref b), some (.int wd), some (.ref d), some (.ref pb), v6, v7, v8] ∧ Same H H' ∧ H' pl = some (.lst ((placesA as ns).map V.ref)) ∧ H' pw = some (.lst ((wordsI r).map V.int)) ∧ H' pn = some (.lst ((nextsI r).map V.int)) ∧
          Dk H' d (L0 ++ (((wordsI r).zip (nextsI r)).take j).flatMap fun v => if v.1 = wd then comI cs v.2 else []))
        ⟨v6, v7, v8, rfl, g14, s4 _ _ (s3 _ _ g2), s4 _ _ ew, en, by rw [List.take_zero, List.flatMap_nil, List.append_nil]; exact (g3.same s3).same s4⟩ (fun j σ H' ⟨_, _, _, _, _, _, q1, q2, _⟩ => ⟨SqL.of q1, SqL.of q2⟩) ?_ ?_
      · rintro j x y TT σ H5 hx hy hTT ⟨v6, v7, v8, rfl, q1, q2, q3, q4, q5⟩
        obtain ⟨said, hsaid, rfl⟩ := map_at hx
        obtain ⟨t, ht, rfl⟩ := map_at hy
        have hzz := zip_get hsaid ht
        have t5 : Same H5 (upd H5 TT (.tup [.int said, .int t])) := same_upd hTT
        refine ⟨TT, _, rfl, SqT.of upd_same, rfl, _, _, rfl, _, _, rfl, rfl, ?_⟩
        have eL := flat_take (fun v : Int × Int => if v.1 = wd then comI cs v.2 else []) hzz
        have nL1 : ∀ z ∈ L0 ++ (((wordsI r).zip (nextsI r)).take j).flatMap fun v => if v.1 = wd then comI cs v.2 else [], NumOk rs z := fun z hz => by
          rcases List.mem_append.mp hz with hz | hz
          · exact nL0 z hz
          · obtain ⟨v, hv, hz⟩ := List.mem_flatMap.mp hz
            split at hz
            · exact num_com lc hcz (hnx r hr2 _ (List.of_mem_zip (List.mem_of_mem_take hv)).2) z hz
            · simp at hz
        refine ⟨_, rfl, _, rfl, rfl, _, rfl, iteB (fun g6 => ?_) (fun g6 => ?_)⟩
        · rw [dV] at g6
          have ew' : said = wd := of_decide_eq_true g6
          have tok : NumOk rs t := hnx r hr2 t (List.mem_of_getElem? ht)
          refine ⟨_, rfl, _, rfl, pc, cas, cs, t, rfl, RC.same (q1.trans t5), ?_, by omega, fun H6 pp s6 sp => ⟨pp, rfl, ⟨_, sp⟩, ?_⟩⟩
          · rcases tok with q | ⟨q, e, hq⟩
            · exact .inl q
            · exact .inr ⟨q, e, by omega⟩
          have nC := num_com lc hcz tok
          rw [if_pos (show (said, t).1 = wd from ew')] at eL
          generalize comI cs t = C at sp nC eL
          have t56 := t5.trans s6
          refine for_list (K := K) (a := pp) (xs := C.map V.int) (fun m σ H' => ∃ v8, σ = [some (.ref a), some (.ref pc), some (.ref b), some (.int wd), some (.ref d), some (.ref pb), some (.int said), some (.int t), v8] ∧ Same H H' ∧ H' pl = some (.lst ((placesA as ns).map V.ref)) ∧ H' pw = some (.lst ((wordsI r).map V.int)) ∧ H' pn = some (.lst ((nextsI r).map V.int)) ∧ SqL K H' pp (C.map V.int) ∧
              Dk H' d ((L0 ++ (((wordsI r).zip (nextsI r)).take j).flatMap fun v => if v.1 = wd then comI cs v.2 else []) ++ C.take m))
            ⟨v8, rfl, q1.trans t56, t56 _ _ q2, t56 _ _ q3, t56 _ _ q4, sp, by rw [List.take_zero, List.append_nil]; exact q5.same t56⟩ (fun m σ H' _ ⟨_, _, _, _, _, _, q, _⟩ => q) ?_ ?_
          · rintro m y σ H7 hm ⟨v8, rfl, w1, w2, w3, w4, w5, w6⟩
            obtain ⟨z, hz, rfl⟩ := map_at hm
            obtain ⟨H8, dp, dk, kp⟩ := w6.put (z := z) l32 fun y hy => by
              rcases List.mem_append.mp hy with hy | hy
              · exact nL1 y hy
              · exact nC y (List.mem_of_mem_take hy)
            rw [List.append_assoc, ← take_snoc hz] at dk
            exact ⟨_, rfl, _, rfl, d, H8, rfl, dp, _, rfl, same_but w1 hd kp, lst_but w2 w6 kp, lst_but w3 w6 kp, lst_but w4 w6 kp, sq_but w5 w6 kp, dk⟩
          · rintro σ H7 ⟨v8, rfl, w1, w2, w3, w4, w5, w6⟩
            rw [List.length_map, List.take_length, List.append_assoc, ← eL] at w6
            exact ⟨_, _, _, rfl, w1, w2, w3, w4, w6⟩
        · rw [dV] at g6
          rw [if_neg (show ¬ (said, t).1 = wd from of_decide_eq_false g6), List.append_nil] at eL
          exact ⟨_, _, _, rfl, q1.trans t5, t5 _ _ q2, t5 _ _ q3, t5 _ _ q4, by rw [eL]; exact q5.same t5⟩
      · rintro σ H5 ⟨v6, v7, v8, rfl, q1, q2, q3, q4, q5⟩
        have e1 : (((wordsI r).zip (nextsI r)).take ((wordsI r).map V.int).length) = (wordsI r).zip (nextsI r) := by
          refine List.take_of_length_le ?_
          rw [List.length_zip, List.length_map]
          exact Nat.min_le_left _ _
        rw [e1] at q5
        exact ⟨_, _, _, _, rfl, q1, q2, by rw [flat_take (behL cs wd) hr1, hL0]; exact q5⟩
    · rintro σ H2 ⟨v5, v6, v7, v8, rfl, g1, g2, g3⟩
      rw [ll, List.take_length] at g3
      obtain ⟨kvs, hk1, hk2⟩ := g3
      refine ⟨_, rfl, .inr (.inr (.inl ⟨rfl, .inl ⟨_, hk1⟩⟩)), d, kvs, rfl, rfl, hk1, fun v hv => ⟨v, d, kvs, _, rfl, upd_same, ?_, hk2, fun pp l fp up pm => ?_⟩⟩
      · rw [upd_ne (ne_of_none hk1 hv)]
        exact hk1
      · have g2 := g1.trans (same_upd (o := viewO v d) hv)
        refine k _ pp l (g2.trans (same_upd fp)) (g2.free fp) upd_same (rising_of up (pm.nodup_iff.mpr (nodup_addAll (by simp)))) fun z => ?_
        rw [pm.mem_iff, mem_addAll, List.mem_flatMap]
        simp
end
end Pt
set_option Elab.async false
set_option linter.all false
set_option maxRecDepth 100000
set_option maxHeartbeats 4000000
namespace Pt
open PySem PySem.Spec PyProof.Rows L2 Mx
theorem com_enc {p : Int} {rs : List (List Int)} (ok : ScOk p rs) (c : Nat) {t : Int} (ht : NumOk rs t) : comI (comingsOf p rs c) t = encS (Kh292.comesTo (scr p rs) c [optOf t]) := by
  have l32 := ok.len
  unfold comI
  rcases ht with rfl | ⟨q, rfl, hq⟩
  · rw [if_pos rfl, show optOf 255 = none from rfl, coming_over ok]
  · have ne : ¬ (q : Int) = 255 := by omega
    rw [if_neg ne]
    have e : optOf (q : Int) = some q := by unfold optOf; rw [if_neg ne, Int.toNat_natCast]
    rw [e, Int.toNat_natCast]
    refine getD_at ?_
    unfold comingsOf
    rw [List.getElem?_map, List.getElem?_range hq]
    rfl
theorem behind_of {p : Int} {rs : List (List Int)} (ok : ScOk p rs) {c : Nat} {x : Kh292.State} (st : StOk (scr p rs) c x) {wd : Nat} {l : List Int} (up : l.Pairwise (· < ·))
    (mem : ∀ z, z ∈ l ↔ ∃ r ∈ placesI rs (encS x), z ∈ behL (comingsOf p rs c) (wd : Int) r) : l = encS (Kh292.behind (scr p rs) c x wd) := by
  refine behind_enc ok st up fun z => ?_
  rw [mem, places_enc ok st]
  constructor
  · rintro ⟨r, hr, hz⟩
    obtain ⟨v, hv, hz⟩ := List.mem_flatMap.mp hz
    split at hz
    · rename_i e
      obtain ⟨q, hq, hrq⟩ := rowsOf_at ok st hr
      rw [com_enc ok c (ok.nextOk hrq (List.of_mem_zip hv).2)] at hz
      exact ⟨r, hr, v.2, by rw [← e]; exact hv, hz⟩
    · simp at hz
  · rintro ⟨r, hr, t, ht, hz⟩
    obtain ⟨q, hq, hrq⟩ := rowsOf_at ok st hr
    refine ⟨r, hr, List.mem_flatMap.mpr ⟨((wd : Int), t), ht, ?_⟩⟩
    rw [if_pos rfl, com_enc ok c (ok.nextOk hrq (List.of_mem_zip ht).2)]
    exact hz
theorem comings_len (p : Int) (rs : List (List Int)) (c : Nat) : (comingsOf p rs c).length = rs.length := by unfold comingsOf; simp
theorem comings_num {p : Int} {rs : List (List Int)} (ok : ScOk p rs) (c : Nat) : ∀ C ∈ comingsOf p rs c, ∀ z ∈ C, NumOk rs z := by
  intro C hC z hz
  unfold comingsOf at hC
  obtain ⟨q, _, rfl⟩ := List.mem_map.mp hC
  exact enc_num_of ok (stOk_comes _ _ _) hz
theorem nexts_num {p : Int} {rs : List (List Int)} (ok : ScOk p rs) : ∀ r ∈ rs, ∀ t ∈ nextsI r, NumOk rs t := by
  intro r hr t ht
  obtain ⟨q, hq⟩ := List.getElem?_of_mem hr
  exact ok.nextOk hq ht
def But (H H' : Hp) (st : Addr) : Prop := ∀ b o, H b = some o → b ≠ st → H' b = some o
theorem But.trans {H H1 H2 : Hp} {st : Addr} (a : But H H1 st) (b : But H1 H2 st) : But H H2 st := fun c o h n => b c o (a c o h n) n
theorem But.of {H H' : Hp} {st : Addr} (s : Same H H') : But H H' st := fun b o h _ => s b o h
theorem But.put {H H' : Hp} {st : Addr} {o : HO} (a : But H H' st) : But H (upd H' st o) st := fun b u h n => by rw [upd_ne n]; exact a b u h n
theorem But.new {H H' : Hp} {st q : Addr} {o : HO} (a : But H H' st) (hq : H q = none) : But H (upd H' q o) st := fun b u h n => by rw [upd_ne (ne_of_none h hq)]; exact a b u h n
theorem But.same {H0 H H' : Hp} {st : Addr} (s : Same H0 H) (h0 : H0 st = none) (a : But H H' st) : Same H0 H' := fun b o h => a b o (s b o h) (ne_of_none h h0)
theorem ne_kind {H : Hp} {b st : Addr} {ns : List Int} {as : List Addr} (h1 : H b = some (.lst (ns.map V.int))) (h2 : H st = some (.lst (as.map V.ref))) (hne : as ≠ []) : b ≠ st := fun e => by
  rw [e, h2] at h1
  injection h1 with h1
  injection h1 with h1
  cases as with
  | nil => exact hne rfl
  | cons a as =>
    cases ns with
    | nil => simp at h1
    | cons n ns => simp at h1
theorem RowsL.ne {H : Hp} {a : Addr} {as : List Addr} {rs : List (List Int)} (h : RowsL H a as rs) (hne : as ≠ []) : ∀ b ∈ as, b ≠ a := fun b hb => by
  obtain ⟨j, hj⟩ := List.getElem?_of_mem hb
  obtain ⟨r, _, hr⟩ := h.row hj
  exact ne_kind hr h.lst hne
theorem RowsL.at_ne {H : Hp} {a q : Addr} {o : HO} {as : List Addr} {rs : List (List Int)} (h : RowsL H a as rs) (hq : a ≠ q) (hb : ∀ b ∈ as, b ≠ q) : RowsL (upd H q o) a as rs :=
  ⟨by rw [upd_ne hq]; exact h.lst, h.len, fun j b r e1 e2 => by rw [upd_ne (hb b (List.mem_of_getElem? e1))]; exact h.at_ j b r e1 e2⟩
theorem RowsL.push {H : Hp} {a b : Addr} {as : List Addr} {rs : List (List Int)} {r : List Int} (h : RowsL H a as rs) (hne : ∀ b ∈ as, b ≠ a) (hb : H b = some (.lst (r.map V.int))) (nb : b ≠ a) : RowsL (upd H a (.lst (as.map V.ref ++ [.ref b]))) a (as ++ [b]) (rs ++ [r]) := by
  have hl := h.len
  refine ⟨by rw [upd_same, List.map_append]; rfl, by simp [hl], fun j b' r' e1 e2 => ?_⟩
  rcases get_snoc e1 with f1 | ⟨f1, f3⟩
  · rcases get_snoc e2 with f2 | ⟨f2, _⟩
    · rw [upd_ne (hne b' (List.mem_of_getElem? f1))]
      exact h.at_ j b' r' f1 f2
    · have := (List.getElem?_eq_some_iff.mp f1).1
      omega
  · rcases get_snoc e2 with f2 | ⟨_, f4⟩
    · have := (List.getElem?_eq_some_iff.mp f2).1
      omega
    · rw [f3, f4, upd_ne nb]
      exact hb
theorem RowsL.but {H H' : Hp} {a st : Addr} {as : List Addr} {rs : List (List Int)} (h : RowsL H a as rs) (k : But H H' st) (hq : a ≠ st) (hb : ∀ b ∈ as, b ≠ st) : RowsL H' a as rs :=
  ⟨k _ _ h.lst hq, h.len, fun j b r e1 e2 => k _ _ (h.at_ j b r e1 e2) (hb b (List.mem_of_getElem? e1))⟩
section
variable {P : Program} {w : World} {K : PySem.W.Frag} {mg : Str → Option Value} {base : Heap}
def spRow (K : PySem.W.Frag) : Sp := fun vs H Q _ => ∃ (p : Int) (c : Nat) (a : Addr) (as : List Addr) (rs : List (List Int)) (pc : Addr) (cas : List Addr) (b : Addr) (x : Kh292.State) (st : Addr) (sts : List Addr) (l : List Kh292.State) (Hb : Hp), vs = [.int c, .ref a, .ref pc, .ref b, .ref st] ∧
  Same Hb H ∧ Hb st = none ∧ RowsAt K Hb a as rs ∧ RowsAt K Hb pc cas (comingsOf p rs c) ∧ ScOk p rs ∧ StOk (scr p rs) c x ∧ H b = some (.lst ((encS x).map V.int)) ∧ RowsL H st sts (l.map encS) ∧ l ≠ [] ∧ (∀ y ∈ l, StOk (scr p rs) c y) ∧ l.length ≤ 64 ∧ (Kh292.words (scr p rs) x).length ≤ 16 ∧
  ∀ (H' : Hp) (pr : Addr) (sts' : List Addr), But H H' st → H pr = none → H' pr = some (.lst ((rowL (scr p rs) c (addU (scr p rs) c x (Kh292.words (scr p rs) x) l) x).map V.int)) → RowsL H' st sts' ((addU (scr p rs) c x (Kh292.words (scr p rs) x) l).map encS) → (∀ q ∈ sts', q ∈ sts ∨ H q = none) → Q (.ref pr) H'
theorem scRowOf : FnScope ["c", "s", "comings", "state", "states", "words", "row", "word", "behind"] ["c", "s", "comings", "state", "states"] (defScope sRowOf) := ⟨rfl, rfl, rfl, by decide +kernel, rfl, by decide +kernel, by decide +kernel⟩
set_option maxHeartbeats 8000000 in
theorem d_row_of_state (h : Has K mg "row_of_state" sRowOf) (T : Txt K mg) (dW : Def P w K mg base "words_in" 2 ["s", "state"] (spWordsIn K)) (dK : Def P w K mg base "kind_and_other" 2 ["c", "s", "state"] (spKind K)) (dB : Def P w K mg base "state_behind" 2 ["s", "comings", "state", "word"] (spBehind K)) :
    Def P w K mg base "row_of_state" 3 ["c", "s", "comings", "state", "states"] (spRow K) := by
  refine def_of h (fun _ _ _ _ _ _ us hl => match us, hl with | [_, _, _, _, _], _ => rfl) scRowOf (fun vs H Q E h => ?_) (fun f cdv A outer s H vs Q E hr h => ?_)
  · obtain ⟨p, c, a, as, rs, pc, cas, b, x, st, sts, l, Hb, rfl, _⟩ := h
    rfl
  · obtain ⟨p, c, a, as, rs, pc, cas, b, x, st, sts, l, Hb, rfl, sb, fst, R, RC, ok, sx, eb, RS, lne, lok, l64, w16, k⟩ := h
    have hu := hr.units
    refine ⟨_, pss_cons (ps_set (i := 5) scRowOf.nd rfl (Or.inl rfl) (pe_def dW hr rfl (pa_cons (pv 1) (pa_cons (pv 3) pa_nil))))
      (pss_cons (ps_set (i := 6) scRowOf.nd rfl (Or.inl rfl) (pe_def dK hr rfl (pa_cons (pv 0) (pa_cons (pv 1) (pa_cons (pv 3) pa_nil)))))
      (pss_cons (ps_expr (pe_bm PySem.F.plainAttrs_list PySem.F.slot_list_append PySem.F.type_list_append mt_append (pv 6) (pa_cons (pe_callB call_len_seq rfl T.len PySem.boot_len (pa_cons (pv 5) pa_nil)) pa_nil)))
      (pss_cons (ps_for PassesOwn.never rfl (pi_list (pv 5)) (pg_name (i := 7) scRowOf.nd rfl (Or.inl rfl))
        (pss_cons (ps_set (i := 8) scRowOf.nd rfl (Or.inl rfl) (pe_def dB hr rfl (pa_cons (pv 1) (pa_cons (pv 2) (pa_cons (pv 3) (pa_cons (pv 7) pa_nil))))))
        (pss_cons (ps_if (pt_cmpR (op_notInR hu) (pv 8) (pv 4) (by with_unfolding_all rfl)) (pss_one (ps_expr (pe_bm PySem.F.plainAttrs_list PySem.F.slot_list_append PySem.F.type_list_append mt_append (pv 4) (pa_cons (pv 8) pa_nil)))) pss_nil)
        (pss_one (ps_expr (pe_bm PySem.F.plainAttrs_list PySem.F.slot_list_extend PySem.F.type_list_extend mt_extend (pv 6) (pa_cons (pe_lst (pa_cons (pv 7) (pa_cons (pe_bm PySem.F.plainAttrs_list PySem.F.slot_list_index PySem.F.type_list_index (mt_indexR hu) (pv 4) (pa_cons (pv 8) pa_nil)) pa_nil))) pa_nil)))))))
      (pss_one (ps_ret (pv 6)))))), ?_⟩
    have l32 := ok.len
    have stne : sts ≠ [] := fun e => by
      have := RS.len
      rw [e, List.length_map] at this
      cases l with
      | nil => exact lne rfl
      | cons y l => simp at this
    have xa : ∀ H', Same Hb H' → H' b = some (.lst ((encS x).map V.int)) → XAt K H' p c a as rs b x := fun H' s' e => ⟨R.same s', ok, SqL.of e, sx⟩
    have nbst : b ≠ st := ne_kind eb RS.lst stne
    refine ⟨_, rfl, _, rfl, a, as, rs, b, encS x, rfl, (xa H sb eb).stAt, fun H1 pw ws s1 fw ew up mem => ?_⟩
    rw [places_enc ok sx] at mem
    have ews := words_eq ok sx up mem
    subst ews
    have sb1 := sb.trans s1
    refine ⟨_, rfl, _, rfl, _, rfl, c, a, as, rs, b, encS x, rfl, (xa H1 sb1 (s1 _ _ eb)).stAt, fun H2 pr s2 fr er => ?_⟩
    rw [places_enc ok sx, kind_eq ok sx] at er
    have frH : H pr = none := s1.free fr
    have npwr : pw ≠ pr := fun e => by rw [← e, ew] at fr; cases fr
    have npws : pw ≠ st := fun e => by rw [e, RS.lst] at fw; cases fw
    have nprs : pr ≠ st := fun e => by rw [e, RS.lst] at frH; cases frH
    have s12 := s1.trans s2
    have hwl : ((wordsL x (scr p rs)).map V.int).length = (Kh292.words (scr p rs) x).length := by unfold wordsL; rw [List.length_map, List.length_map]
    refine ⟨_, rfl, .inl ⟨rfl, _, SqL.of er⟩, _, rfl, pw, _, rfl, .inl (SqL.of (s2 _ _ ew)), pr, _, _, rfl, rfl, er, (by show 2 < sizeLine; decide), ?_⟩
    have f0 : But H (upd H2 pr (.lst ((List.map V.int [(Kh292.kind (scr p rs) c x : Int), (Kh292.other (scr p rs) c x : Int)]) ++ [.int ((wordsL x (scr p rs)).map V.int).length]))) st := (But.of s12).new frH
    have e0 : upd H2 pr (.lst ((List.map V.int [(Kh292.kind (scr p rs) c x : Int), (Kh292.other (scr p rs) c x : Int)]) ++ [.int ((wordsL x (scr p rs)).map V.int).length])) pr = some (.lst ((headI (scr p rs) c x ++ waysI (scr p rs) c x (addU (scr p rs) c x ((Kh292.words (scr p rs) x).take 0) l) ((Kh292.words (scr p rs) x).take 0)).map V.int)) := by
      rw [upd_same, hwl]
      rfl
    have w0 : upd H2 pr (.lst ((List.map V.int [(Kh292.kind (scr p rs) c x : Int), (Kh292.other (scr p rs) c x : Int)]) ++ [.int ((wordsL x (scr p rs)).map V.int).length])) pw = some (.lst ((wordsL x (scr p rs)).map V.int)) := by
      rw [upd_ne npwr]
      exact s2 _ _ ew
    have nsp : ∀ q ∈ sts, q ≠ pr := fun q hq => by
      obtain ⟨j, hj⟩ := List.getElem?_of_mem hq
      obtain ⟨r, _, hr⟩ := RS.row hj
      exact ne_of_none hr frH
    have R0 : RowsL (upd H2 pr (.lst ((List.map V.int [(Kh292.kind (scr p rs) c x : Int), (Kh292.other (scr p rs) c x : Int)]) ++ [.int ((wordsL x (scr p rs)).map V.int).length]))) st sts ((addU (scr p rs) c x ((Kh292.words (scr p rs) x).take 0) l).map encS) := (RS.same s12).at_ne (Ne.symm nprs) nsp
    generalize upd H2 pr (.lst ((List.map V.int [(Kh292.kind (scr p rs) c x : Int), (Kh292.other (scr p rs) c x : Int)]) ++ [.int ((wordsL x (scr p rs)).map V.int).length])) = H3 at f0 e0 w0 R0 ⊢
    clear er s12 s2 fr
    refine ⟨_, rfl, pw, rfl, ⟨_, SqL.of w0⟩, for_list (K := K) (a := pw) (xs := (wordsL x (scr p rs)).map V.int) (fun i σ H' => ∃ v7 v8 sts', σ = [some (.int c), some (.ref a), some (.ref pc), some (.ref b), some (.ref st), some (.ref pw), some (.ref pr), v7, v8] ∧ But H H' st ∧ H' pw = some (.lst ((wordsL x (scr p rs)).map V.int)) ∧
        H' pr = some (.lst ((headI (scr p rs) c x ++ waysI (scr p rs) c x (addU (scr p rs) c x ((Kh292.words (scr p rs) x).take i) l) ((Kh292.words (scr p rs) x).take i)).map V.int)) ∧ RowsL H' st sts' ((addU (scr p rs) c x ((Kh292.words (scr p rs) x).take i) l).map encS) ∧ (∀ q ∈ sts', q ∈ sts ∨ H q = none) ∧ (∀ q ∈ sts', q ≠ pr))
      ⟨none, none, sts, rfl, f0, w0, e0, R0, fun q hq => .inl hq, nsp⟩ (fun i σ H' _ ⟨_, _, _, _, _, q, _⟩ => SqL.of q) ?_ ?_⟩
    · rintro i y σ H4 hi ⟨v7, v8, sts', rfl, b4, w4, e4, R4, o4, n4⟩
      obtain ⟨z, hz, rfl⟩ := map_at hi
      obtain ⟨wd, hwd, rfl⟩ : ∃ wd : Nat, (Kh292.words (scr p rs) x)[i]? = some wd ∧ z = (wd : Int) := by
        unfold wordsL at hz
        exact map_at hz
      have sb4 := But.same sb fst b4
      have X4 := xa H4 sb4 (b4 _ _ eb nbst)
      have hiw := (List.getElem?_eq_some_iff.mp hwd).1
      have et := take_snoc hwd
      have ml := addU_len (S := scr p rs) (c := c) (x := x) ((Kh292.words (scr p rs) x).take i) l
      rw [List.length_take] at ml
      have mok := addU_ok (S := scr p rs) (c := c) (x := x) ((Kh292.words (scr p rs) x).take i) l lok
      have eU := addU_snoc (S := scr p rs) (c := c) (x := x) wd ((Kh292.words (scr p rs) x).take i) l
      have eW := waysI_turn (S := scr p rs) (c := c) (x := x) (l := l) (ws := (Kh292.words (scr p rs) x).take i) (w := wd)
      rw [← et] at eU eW
      have wl := waysI_len (S := scr p rs) (c := c) (x := x) (addU (scr p rs) c x ((Kh292.words (scr p rs) x).take i) l) ((Kh292.words (scr p rs) x).take i)
      rw [List.length_take] at wl
      have yok : StOk (scr p rs) c (Kh292.behind (scr p rs) c x wd) := stOk_comes _ _ _
      have hn32 : (scr p rs).places.length ≤ 32 := by rw [scr_len]; exact l32
      have sne' : sts' ≠ [] := fun e => by
        have h1 := R4.len
        rw [e, List.length_map] at h1
        have h2 := addU_ge (S := scr p rs) (c := c) (x := x) ((Kh292.words (scr p rs) x).take i) l
        have h3 : l.length ≠ 0 := fun q => lne (List.eq_nil_of_length_eq_zero q)
        simp at h1
        omega
      refine ⟨_, rfl, _, rfl, _, rfl, _, rfl, a, as, rs, pc, cas, comingsOf p rs c, b, encS x, (wd : Int), rfl, X4.stAt, RC.same sb4, comings_len p rs c, l32, nexts_num ok, comings_num ok c, fun H5 pb l0 s5 fb e5 up5 mem5 => ?_⟩
      have el0 := behind_of ok sx up5 mem5
      subst el0
      have nbs : pb ≠ st := fun e => by rw [e, R4.lst] at fb; cases fb
      have nbr : pb ≠ pr := fun e => by rw [e, e4] at fb; cases fb
      have R5 := R4.same s5
      have b5 : But H H5 st := b4.trans (But.of s5)
      generalize hm : addU (scr p rs) c x ((Kh292.words (scr p rs) x).take i) l = m at *
      generalize hy : Kh292.behind (scr p rs) c x wd = y at *
      have fin : ∀ (H6 : Hp) (sts6 : List Addr), But H H6 st → H6 pw = some (.lst ((wordsL x (scr p rs)).map V.int)) → H6 pr = some (.lst ((headI (scr p rs) c x ++ waysI (scr p rs) c x m ((Kh292.words (scr p rs) x).take i)).map V.int)) → H6 pb = some (.lst ((encS y).map V.int)) →
          RowsL H6 st sts6 ((add1 m y).map encS) → (∀ q ∈ sts6, q ∈ sts ∨ H q = none) → (∀ q ∈ sts6, q ≠ pr) → sts6 ≠ [] →
          tDrop (tBM K "list" rExtend (tVar 6) (tCons (tLst (tCons (tVar 7) (tCons (tBM K "list" (rIndexR K) (tVar 4) (tCons (tVar 8) tNil)) tNil))) tNil))
            { nx := fun σ H' => ∃ v7 v8 sts', σ = [some (.int c), some (.ref a), some (.ref pc), some (.ref b), some (.ref st), some (.ref pw), some (.ref pr), v7, v8] ∧ But H H' st ∧ H' pw = some (.lst ((wordsL x (scr p rs)).map V.int)) ∧
              H' pr = some (.lst ((headI (scr p rs) c x ++ waysI (scr p rs) c x (addU (scr p rs) c x ((Kh292.words (scr p rs) x).take (i + 1)) l) ((Kh292.words (scr p rs) x).take (i + 1))).map V.int)) ∧ RowsL H' st sts' ((addU (scr p rs) c x ((Kh292.words (scr p rs) x).take (i + 1)) l).map encS) ∧ (∀ q ∈ sts', q ∈ sts ∨ H q = none) ∧ (∀ q ∈ sts', q ≠ pr), rt := Q, bk := fun _ _ => False, ct := fun _ _ => False }
            [some (.int c), some (.ref a), some (.ref pc), some (.ref b), some (.ref st), some (.ref pw), some (.ref pr), some (.int (wd : Int)), some (.ref pb)] H6 := fun H6 sts6 g1 g2 g3 g4 g5 g6 g7 g8 => by
        have hmem : encS y ∈ (add1 m y).map encS := List.mem_map_of_mem (mem_add1 m y)
        have aok : ∀ z ∈ add1 m y, StOk (scr p rs) c z := fun z hz => by
          unfold add1 at hz
          split at hz
          · exact mok z hz
          · rcases List.mem_append.mp hz with q | q
            · exact mok z q
            · rw [List.mem_singleton.mp q]; exact yok
        refine ⟨_, rfl, .inl ⟨rfl, _, SqL.of g3⟩, _, rfl, _, rfl, .inl ⟨rfl, _, SqL.of g5.lst⟩, _, rfl, st, sts6, _, pb, encS y, rfl, rfl, g5.rowsAt, SqL.of g4, hmem, (by show 2 ≤ sizeLine; decide), fun pn hpn => ?_⟩
        rw [idx_enc hn32 aok yok]
        have npr : pr ≠ pn := ne_of_none g3 hpn
        refine ⟨pr, pn, _, _, rfl, rfl, by rw [upd_ne npr]; exact g3, upd_same, ?_, ?_⟩
        · rw [List.length_map, List.length_append, wl, sizeLine_eq]
          show 3 + 2 * _ + 2 ≤ 16777216
          omega
        · have nwn : pw ≠ pn := ne_of_none g2 hpn
          have nsn : st ≠ pn := ne_of_none g5.lst hpn
          refine ⟨_, _, sts6, rfl, fun q o e n => ?_, by rw [upd_ne npwr, upd_ne nwn]; exact g2, ?_, ?_, g6, g7⟩
          · have e6 := g1 q o e n
            rw [upd_ne (ne_of_none e frH), upd_ne (ne_of_none e6 hpn)]
            exact e6
          · rw [upd_same, eW, eU, ← List.append_assoc, List.map_append (l₁ := headI (scr p rs) c x ++ _)]
            rfl
          · rw [eU]
            refine (g5.at_ne nsn fun q hq => ?_).at_ne (Ne.symm nprs) g7
            obtain ⟨j, hj⟩ := List.getElem?_of_mem hq
            obtain ⟨r, _, hr⟩ := g5.row hj
            exact ne_of_none hr hpn
      refine ⟨_, rfl, _, rfl, pb, encS y, st, sts', _, rfl, rfl, SqL.of e5, R5.rowsAt, _, rfl, iteB (fun g1 => ?_) (fun g1 => ?_)⟩
      · have nm : ¬ y ∈ m := fun q => by
          have := (mem_enc hn32 mok yok).mpr q
          simp [this] at g1
        have ea : add1 m y = m ++ [y] := by unfold add1; rw [if_neg nm]
        refine ⟨_, rfl, .inl ⟨rfl, _, SqL.of R5.lst⟩, _, rfl, st, _, _, rfl, rfl, R5.lst, small1000 ?_, ?_⟩
        · rw [List.length_map, R5.len, List.length_map]
          omega
        · refine fin _ (sts' ++ [pb]) b5.put (by rw [upd_ne npws]; exact s5 _ _ w4) (by rw [upd_ne nprs]; exact s5 _ _ e4) (by rw [upd_ne nbs]; exact e5) ?_ ?_ ?_ (by simp)
          · rw [ea, List.map_append]
            exact R5.push (R5.ne sne') e5 nbs
          · intro q hq
            rcases List.mem_append.mp hq with hq | hq
            · exact o4 q hq
            · rw [List.mem_singleton.mp hq]
              right
              cases e : H pb with
              | none => rfl
              | some o => rw [b4 pb o e nbs] at fb; cases fb
          · intro q hq
            rcases List.mem_append.mp hq with hq | hq
            · exact n4 q hq
            · rw [List.mem_singleton.mp hq]
              exact nbr
      · have ym : y ∈ m := (mem_enc hn32 mok yok).mp (by simpa using g1)
        have ea : add1 m y = m := by unfold add1; rw [if_pos ym]
        exact fin H5 sts' b5 (s5 _ _ w4) (s5 _ _ e4) e5 (by rw [ea]; exact R5) o4 n4 sne'
    · rintro σ H4 ⟨v7, v8, sts', rfl, b4, w4, e4, R4, o4, n4⟩
      rw [hwl, List.take_length] at e4 R4
      exact ⟨_, rfl, k H4 pr sts' b4 frH e4 R4 o4⟩
end
end Pt
set_option Elab.async false
set_option linter.all false
set_option maxRecDepth 100000
set_option maxHeartbeats 4000000
namespace Pt
open PySem PySem.Spec PyProof.Rows L2 Mx
section
variable {P : Program} {w : World} {K : PySem.W.Frag} {mg : Str → Option Value} {base : Heap}
def spParty (K : PySem.W.Frag) : Sp := fun vs H Q _ => ∃ (p : Int) (c : Nat) (a : Addr) (as : List Addr) (rs : List (List Int)), vs = [.int c, .ref a] ∧ RowsAt K H a as rs ∧ ScOk p rs ∧
  ∀ (H' : Hp) (pt b1 b2 : Addr), Same H H' → H' pt = some (.tup [.ref b1, .ref b2]) → H' b1 = some (.lst ((partyAns (scr p rs) c).map V.int)) → (partyAns (scr p rs) c = [] → ∃ rws, RowsL H' b2 rws (rowsDue (scr p rs) c) ∧ (rowsDue (scr p rs) c).length ≤ 64 ∧ ∀ r ∈ rowsDue (scr p rs) c, r.length ≤ 35) → Q (.ref pt) H'
theorem scWalkParty : FnScope ["c", "s", "comings", "states", "rows", "state", "trouble"] ["c", "s"] (defScope sWalkParty) := ⟨rfl, rfl, rfl, by decide +kernel, rfl, by decide +kernel, by decide +kernel⟩
theorem trouble_nil {S : Kh292.Script} {c : Nat} {x : Kh292.State} (h : troubleI S c x = []) : Kh292.fault S c x = 0 ∧ ¬ 16 < (Kh292.words S x).length := by
  unfold troubleI at h
  split at h
  · cases h
  · rename_i e
    split at h
    · cases h
    · rename_i e2
      exact ⟨by omega, e2⟩
theorem trouble_ans {S : Kh292.Script} {c k : Nat} {l : List Kh292.State} {x : Kh292.State} (f : FInv S c k l) (hx : l[k]? = some x) (h : troubleI S c x ≠ []) : partyAns S c = troubleI S c x := by
  unfold troubleI at h ⊢
  by_cases e : Kh292.fault S c x ≠ 0
  · rw [if_pos e]
    exact f.bad hx e
  · rw [if_neg e] at h ⊢
    by_cases e2 : 16 < (Kh292.words S x).length
    · rw [if_pos e2]
      exact f.wide hx (by omega) e2
    · rw [if_neg e2] at h
      exact absurd rfl h
set_option maxHeartbeats 8000000 in
theorem d_walk_of_party (h : Has K mg "walk_of_party" sWalkParty) (T : Txt K mg) (dC : Def P w K mg base "all_comings" 3 ["c", "s"] (spComings K)) (dT : Def P w K mg base "trouble_of_state" 5 ["c", "s", "state"] (spTrouble K)) (dR : Def P w K mg base "row_of_state" 3 ["c", "s", "comings", "state", "states"] (spRow K)) :
    Def P w K mg base "walk_of_party" 6 ["c", "s"] (spParty K) := by
  refine def_of h (fun _ _ _ _ _ _ us hl => match us, hl with | [_, _], _ => rfl) scWalkParty (fun vs H Q E h => ?_) (fun f cdv A outer s H vs Q E hr h => ?_)
  · obtain ⟨p, c, a, as, rs, rfl, _⟩ := h
    rfl
  · obtain ⟨p, c, a, as, rs, rfl, R, ok, k⟩ := h
    have hu := hr.units
    have hr3 : Room 3 _ := hr.mono (by decide)
    refine ⟨_, pss_cons (ps_set (i := 2) scWalkParty.nd rfl (Or.inl rfl) (pe_def dC hr3 rfl (pa_cons (pv 0) (pa_cons (pv 1) pa_nil))))
      (pss_cons (ps_set (i := 3) scWalkParty.nd rfl (Or.inl rfl) (pe_lst (pa_cons (pe_ix ix_list (pv 2) pe_int (fun _ _ => rfl)) pa_nil)))
      (pss_cons (ps_set (i := 4) scWalkParty.nd rfl (Or.inl rfl) (pe_lst pa_nil))
      (pss_cons (ps_while PassesOwn.never (pt_cmpR op_lt (pe_callB call_len_seq rfl T.len PySem.boot_len (pa_cons (pv 4) pa_nil)) (pe_callB call_len_seq rfl T.len PySem.boot_len (pa_cons (pv 3) pa_nil)) (nomark _))
        (pss_cons (ps_set (i := 5) scWalkParty.nd rfl (Or.inl rfl) (pe_ix ix_list (pv 3) (pe_callB call_len_seq rfl T.len PySem.boot_len (pa_cons (pv 4) pa_nil)) (fun _ _ => rfl)))
        (pss_cons (ps_set (i := 6) scWalkParty.nd rfl (Or.inl rfl) (pe_def dT hr rfl (pa_cons (pv 0) (pa_cons (pv 1) (pa_cons (pv 5) pa_nil)))))
        (pss_cons (ps_if (pt_cmpR (op_neL hu) (pv 6) (pe_lst pa_nil) (nomark _)) (pss_one (ps_ret (pe_tup (pa_cons (pv 6) (pa_cons (pv 4) pa_nil))))) pss_nil)
        (pss_cons (ps_expr (pe_bm PySem.F.plainAttrs_list PySem.F.slot_list_append PySem.F.type_list_append mt_append (pv 4) (pa_cons (pe_def dR hr3 rfl (pa_cons (pv 0) (pa_cons (pv 1) (pa_cons (pv 2) (pa_cons (pv 5) (pa_cons (pv 3) pa_nil)))))) pa_nil)))
        (pss_one (ps_if (pt_cmpR op_gt (pe_callB call_len_seq rfl T.len PySem.boot_len (pa_cons (pv 3) pa_nil)) (pe_gi T.MOST_STATES rfl) (nomark _)) (pss_one (ps_ret (pe_tup (pa_cons (pe_lst (pa_cons (pe_gi T.TOO_MUCH rfl) pa_nil)) (pa_cons (pv 4) pa_nil))))) pss_nil)))))))
      (pss_one (ps_ret (pe_tup (pa_cons (pe_lst pa_nil) (pa_cons (pv 4) pa_nil)))))))), ?_⟩
    have l32 := ok.len
    have l1 := ok.len1
    refine ⟨_, rfl, _, rfl, p, c, a, as, rs, rfl, R, ok, fun Hb pc cas sb RC => ?_⟩
    have hc0 : (comingsOf p rs c)[0]? = some (encS (Kh292.first (scr p rs) c)) := by
      unfold comingsOf
      rw [List.getElem?_map, List.getElem?_range (by omega)]
      rfl
    obtain ⟨b0, hb0, hb1, hb2⟩ := RC.get hc0
    refine ⟨_, rfl, pc, _, 0, .ref b0, rfl, rfl, SqL.of RC.lst, atI_nat (j := 0) hb1, (by show 1 ≤ sizeLine; decide), fun st hst => ⟨Nat.zero_le _, fun rw' hrw => ?_⟩⟩
    have t1 : Same Hb (upd Hb st (.lst [.ref b0])) := same_upd hst
    have nst : st ≠ rw' := fun e => by rw [← e, upd_same] at hrw; cases hrw
    have hrwb : Hb rw' = none := t1.free hrw
    have nb0 : b0 ≠ rw' := ne_of_none hb2 hrwb
    have nb0s : b0 ≠ st := ne_of_none hb2 hst
    have RCb : RowsAt K Hb pc cas (comingsOf p rs c) := RC.rowsAt
    have Rb := R.same sb
    refine ⟨fun m σ H' => ∃ (kk : Nat) (l : List Kh292.State) (RR : List (List Int)) (sts rws : List Addr) (v5 v6 : Option V), m = 65 - kk ∧ σ = [some (.int c), some (.ref a), some (.ref pc), some (.ref st), some (.ref rw'), v5, v6] ∧ Same Hb H' ∧ RowsL H' st sts (l.map encS) ∧ RowsL H' rw' rws RR ∧ (∀ b ∈ sts, b ≠ rw') ∧ (∀ b ∈ rws, b ≠ rw') ∧ PInv (scr p rs) c kk l RR ∧ l ≠ [],
      ⟨65, 0, [Kh292.first (scr p rs) c], [], [b0], [], none, none, rfl, rfl, t1.trans (same_upd hrw), ⟨?_, rfl, ?_⟩, ⟨upd_same, rfl, fun j b r e => by simp at e⟩, fun b hb => ?_, fun b hb => by simp at hb, PInv.init _ _, by simp⟩, ?_⟩
    · rw [upd_ne nst, upd_same]
      rfl
    · intro j b r e1 e2
      have ej : j = 0 := by
        have := (List.getElem?_eq_some_iff.mp e1).1
        simp at this
        exact this
      subst ej
      have eb : b0 = b := Option.some.inj e1
      have er : encS (Kh292.first (scr p rs) c) = r := Option.some.inj e2
      rw [← eb, ← er, upd_ne nb0, upd_ne nb0s]
      exact hb2
    · rw [List.mem_singleton.mp hb]
      exact nb0
    · rintro m σ H1 ⟨kk, l, RR, sts, rws, v5, v6, rfl, rfl, s1, RS, RW, n1, n2, pi, lne⟩
      have hRl := pi.rlen
      have hl64 := pi.f.len
      have hkl := pi.f.le
      have lS : (sts.map V.ref).length = l.length := by rw [List.length_map, RS.len, List.length_map]
      have lR : (rws.map V.ref).length = kk := by rw [List.length_map, RW.len, hRl]
      have sne : sts ≠ [] := fun e => by
        rw [e] at lS
        exact lne (List.eq_nil_of_length_eq_zero lS.symm)
      refine ⟨_, rfl, rw', _, rfl, .inl (SqL.of RW.lst), _, rfl, st, _, rfl, .inl (SqL.of RS.lst), _, _, rfl, rfl, _, rfl, ?_⟩
      rw [lS, lR]
      refine iteB (fun g1 => ?_) (fun g1 => ?_)
      · have hk : kk < l.length := by
          have := of_decide_eq_true g1
          omega
        have hx := List.getElem?_eq_getElem hk
        generalize l[kk] = x at hx
        have xok := pi.f.ok x (List.mem_of_getElem? hx)
        obtain ⟨b, hb, hbr, hbl⟩ := RS.get (at_map (f := encS) hx)
        refine ⟨fun σ' H' => ∃ m', m' < 65 - kk ∧ _, fun _ _ h => h, _, rfl, _, rfl, rw', _, rfl, .inl (SqL.of RW.lst), st, _, _, .ref b, rfl, rfl, SqL.of RS.lst, at_of (j := kk) (by rw [lR]) hbr, ?_⟩
        have XA : XAt K H1 p c a as rs b x := ⟨Rb.same s1, ok, SqL.of hbl, xok⟩
        refine ⟨_, rfl, _, rfl, _, rfl, p, c, a, as, rs, b, x, rfl, XA, fun H2 pt s2 fpt ept => ?_⟩
        refine ⟨_, rfl, Nat.zero_le _, fun e he => ⟨pt, e, troubleI (scr p rs) c x, [], rfl, rfl, (same_upd he).seq (SqL.of ept), SqL.of upd_same, _, rfl, ?_⟩⟩
        have t3 : Same H1 (upd H2 e (.lst [])) := s2.trans (same_upd he)
        have ept3 : upd H2 e (.lst []) pt = some (.lst ((troubleI (scr p rs) c x).map V.int)) := by
          rw [upd_ne (ne_of_none ept he)]
          exact ept
        generalize upd H2 e (.lst []) = H3 at t3 ept3 ⊢
        clear ept fpt he s2
        have s3 := s1.trans t3
        have RS3 := RS.same t3
        have RW3 := RW.same t3
        refine iteB (fun g2 => ?_) (fun g2 => ?_)
        · have ne : troubleI (scr p rs) c x ≠ [] := by simpa using g2
          have ea := trouble_ans pi.f hx ne
          refine ⟨_, rfl, _, rfl, (by show 2 ≤ sizeLine; decide), fun q hq => k _ q pt rw' ((sb.trans s3).trans (same_upd hq)) upd_same ?_ (fun z => ?_)⟩
          · rw [upd_ne (ne_of_none ept3 hq), ea]
            exact ept3
          · rw [ea] at z
            exact absurd z ne
        · have e0 : troubleI (scr p rs) c x = [] := by simpa using g2
          obtain ⟨f0, w16⟩ := trouble_nil e0
          refine ⟨_, rfl, .inl ⟨rfl, _, SqL.of RW3.lst⟩, _, rfl, _, rfl, _, rfl, _, rfl, _, rfl, p, c, a, as, rs, pc, cas, b, x, st, sts, l, Hb, rfl, s3, hst, Rb, RCb, ok, xok, t3 _ _ hbl, RS3, lne, pi.f.ok, hl64, by omega, fun H4 pr sts' b4 fpr epr RS4 o4 => ?_⟩
          have nrs : rw' ≠ st := Ne.symm nst
          have npr : pr ≠ rw' := fun q => by rw [q, RW3.lst] at fpr; cases fpr
          have npst : pr ≠ st := fun q => by rw [q, RS3.lst] at fpr; cases fpr
          have RW4 : RowsL H4 rw' rws RR := RW3.but b4 nrs fun q hq => by
            obtain ⟨j, hj⟩ := List.getElem?_of_mem hq
            obtain ⟨r, _, hr⟩ := RW3.row hj
            exact ne_kind hr RS3.lst sne
          have s4 : Same Hb H4 := But.same s3 hst b4
          have n4 : ∀ q ∈ sts', q ≠ rw' := fun q hq => by
            rcases o4 q hq with z | z
            · exact n1 q z
            · exact fun e => by rw [e, RW3.lst] at z; cases z
          refine ⟨rw', _, _, rfl, rfl, RW4.lst, small1000 (by rw [lR]; omega), ?_⟩
          have RW5 := RW4.push n2 epr npr
          have RS5 : RowsL (upd H4 rw' (.lst (rws.map V.ref ++ [.ref pr]))) st sts' _ := RS4.at_ne nst n4
          have s5 : Same Hb (upd H4 rw' (.lst (rws.map V.ref ++ [.ref pr]))) := same_new s4 hrwb
          generalize upd H4 rw' (.lst (rws.map V.ref ++ [.ref pr])) = H5 at RW5 RS5 s5 ⊢
          have lS5 : (sts'.map V.ref).length = (addU (scr p rs) c x (Kh292.words (scr p rs) x) l).length := by rw [List.length_map, RS5.len, List.length_map]
          refine ⟨_, rfl, st, _, rfl, .inl (SqL.of RS5.lst), _, _, rfl, rfl, _, rfl, ?_⟩
          rw [lS5]
          refine iteB (fun g3 => ?_) (fun g3 => ?_)
          · have h64 : 64 < (addU (scr p rs) c x (Kh292.words (scr p rs) x) l).length := by
              have := of_decide_eq_true g3
              omega
            have ea := pi.many hx f0 h64
            refine ⟨(by show 1 ≤ sizeLine; decide), fun q1 hq1 => ⟨_, rfl, (by show 2 ≤ sizeLine; decide), fun q2 hq2 => k _ q2 q1 rw' (((sb.trans s5).trans (same_upd hq1)).trans (same_upd hq2)) upd_same ?_ (fun z => ?_)⟩⟩
            · have n12 : q1 ≠ q2 := fun e => by rw [← e, upd_same] at hq2; cases hq2
              rw [upd_ne n12, upd_same, ea]
              rfl
            · rw [ea] at z
              cases z
          · have h64 : ¬ 64 < (addU (scr p rs) c x (Kh292.words (scr p rs) x) l).length := by
              have := of_decide_eq_false g3
              omega
            have pi' := pi.step hx f0 w16 h64
            refine ⟨65 - (kk + 1), by omega, kk + 1, _, _, sts', rws ++ [pr], _, _, rfl, rfl, s5, RS5, RW5, n4, fun q hq => ?_, pi', fun z => ?_⟩
            · rcases List.mem_append.mp hq with hq | hq
              · exact n2 q hq
              · rw [List.mem_singleton.mp hq]
                exact npr
            · have := addU_ge (S := scr p rs) (c := c) (x := x) (Kh292.words (scr p rs) x) l
              rw [z] at this
              simp at this
              exact lne this
      · have hk : ¬ kk < l.length := by
          have := of_decide_eq_false g1
          omega
        obtain ⟨d1, d2, d3, d4⟩ := pi.due hk
        refine ⟨Nat.zero_le _, fun q1 hq1 => ⟨_, rfl, (by show 2 ≤ sizeLine; decide), fun q2 hq2 => k _ q2 q1 rw' (((sb.trans s1).trans (same_upd hq1)).trans (same_upd hq2)) upd_same ?_ (fun z => ?_)⟩⟩
        · have n12 : q1 ≠ q2 := fun e => by rw [← e, upd_same] at hq2; cases hq2
          rw [upd_ne n12, upd_same, d1]
          rfl
        · rw [← d2]
          exact ⟨rws, (RW.same (same_upd hq1)).same (same_upd hq2), d3, d4⟩
def spCheck (K : PySem.W.Frag) : Sp := fun vs H Q _ => ∃ (p : Int) (a : Addr) (as : List Addr) (rs : List (List Int)), vs = [.int p, .ref a] ∧ RowsAt K H a as rs ∧ (∀ r ∈ rs, RowOk r) ∧ 1 ≤ rs.length ∧ rs.length ≤ 32 ∧ 0 ≤ p ∧
  ∀ (H' : Hp) (pp : Addr), Same H H' → SqL K H' pp ((PyKh292.check p rs).map V.int) → Q (.ref pp) H'
theorem scCheck : FnScope ["p", "s", "c", "trouble"] ["p", "s"] (defScope sCheck) := ⟨rfl, rfl, rfl, by decide +kernel, rfl, by decide +kernel, by decide +kernel⟩
theorem d_check (h : Has K mg "check" sCheck) (T : Txt K mg) (dS : Def P w K mg base "is_script" 3 ["p", "s"] (spIsScript K)) (dW : Def P w K mg base "walk_of_party" 6 ["c", "s"] (spParty K)) : Def P w K mg base "check" 7 ["p", "s"] (spCheck K) := by
  refine def_of h (fun _ _ _ _ _ _ us hl => match us, hl with | [_, _], _ => rfl) scCheck (fun vs H Q E h => ?_) (fun f cdv A outer s H vs Q E hr h => ?_)
  · obtain ⟨p, a, as, rs, rfl, _⟩ := h
    rfl
  · obtain ⟨p, a, as, rs, rfl, R, rok, l1, l32, hp, k⟩ := h
    have hu := hr.units
    have hr3 : Room 3 _ := hr.mono (by decide)
    refine ⟨_, pss_cons (ps_if (pt_not (pt_val (pe_def dS hr3 rfl (pa_cons (pv 0) (pa_cons (pv 1) pa_nil))))) (pss_one (ps_ret (pe_lst (pa_cons (pe_gi T.NO_SCRIPT rfl) pa_nil)))) pss_nil)
      (pss_cons (ps_for PassesOwn.never rfl (pi_range1 rfl T.range (pa_cons (pv 0) pa_nil)) (pg_name (i := 2) scCheck.nd rfl (Or.inl rfl))
        (pss_cons (ps_set (i := 3) scCheck.nd rfl (Or.inl rfl) (pe_ix ix_tup (pe_def dW hr rfl (pa_cons (pv 2) (pa_cons (pv 1) pa_nil))) pe_int (fun _ _ => rfl)))
        (pss_one (ps_if (pt_cmpR (op_neL hu) (pv 3) (pe_lst pa_nil) (nomark _)) (pss_one (ps_ret (pv 3))) pss_nil))))
      (pss_one (ps_ret (pe_lst (pa_cons (pe_gi T.KEPT rfl) pa_nil))))), ?_⟩
    refine ⟨_, rfl, _, rfl, p, a, as, rs, rfl, R, rok, l1, l32, fun H1 s1 => ⟨_, rfl, ?_⟩⟩
    rw [scriptB_eq hp rok l1 l32]
    refine iteB (fun g1 => ?_) (fun g1 => ?_)
    · have bad : Kh292.okScript (scr p rs) = false := by simpa using g1
      refine ⟨(by show 1 ≤ sizeLine; decide), fun q hq => k _ q (s1.trans (same_upd hq)) (SqL.of ?_)⟩
      rw [upd_same, ans_bad bad]
      rfl
    · have good : Kh292.okScript (scr p rs) = true := by simpa using g1
      have ok : ScOk p rs := ⟨rok, l1, l32, good⟩
      have p28 : 2 ≤ p ∧ p ≤ 8 := by
        have := scriptB_eq hp rok l1 l32
        rw [good] at this
        unfold scriptB at this
        simp only [Bool.and_eq_true, decide_eq_true_eq] at this
        exact ⟨this.1, this.2.1⟩
      refine ⟨_, rfl, p.toNat, by rw [Int.toNat_of_nonneg hp], by omega, by omega, for_range (n := p.toNat) (fun i σ H' => ∃ v2 v3, σ = [some (.int p), some (.ref a), v2, v3] ∧ Same H H' ∧ ∀ c', c' < i → partyAns (scr p rs) c' = []) ⟨none, none, rfl, s1, fun c' h => by omega⟩ ?_ ?_⟩
      · rintro i σ H2 hi ⟨v2, v3, rfl, s2, clear⟩
        refine ⟨_, rfl, _, rfl, p, i, a, as, rs, by rw [Int.zero_add]; rfl, R.same s2, ok, fun H3 pt b1 b2 s3 ept e1 _ => ⟨pt, _, 0, .ref b1, rfl, rfl, SqT.of ept, atI_nat (j := 0) rfl, ?_⟩⟩
        refine ⟨_, rfl, Nat.zero_le _, fun e he => ⟨b1, e, partyAns (scr p rs) i, [], rfl, rfl, (same_upd he).seq (SqL.of e1), SqL.of upd_same, _, rfl, iteB (fun g2 => ?_) (fun g2 => ?_)⟩⟩
        · have ne : partyAns (scr p rs) i ≠ [] := by simpa using g2
          refine ⟨_, rfl, k _ b1 ((s2.trans s3).trans (same_upd he)) ?_⟩
          rw [ans_hit good (c := i) (by omega) clear ne]
          exact (same_upd he).seq (SqL.of e1)
        · have e0 : partyAns (scr p rs) i = [] := by simpa using g2
          refine ⟨_, _, rfl, (s2.trans s3).trans (same_upd he), fun c' hc' => ?_⟩
          by_cases z : c' = i
          · rw [z]; exact e0
          · exact clear c' (by omega)
      · rintro σ H2 ⟨v2, v3, rfl, s2, clear⟩
        refine ⟨(by show 1 ≤ sizeLine; decide), fun q hq => k _ q (s2.trans (same_upd hq)) (SqL.of ?_)⟩
        rw [upd_same, ans_ok good clear]
        rfl
end
end Pt
set_option Elab.async false
set_option linter.all false
set_option maxRecDepth 100000
set_option maxHeartbeats 4000000
namespace Pt
open PySem PySem.Spec PyProof.Rows L2 Mx
section
variable {P : Program} {w : World} {K : PySem.W.Frag} {mg : Str → Option Value} {h : Heap}
theorem has_mk {x : Str} {st : Stmt} {f : Addr} {oc : Value} {od an : Option Addr} {osl : Array (Option Value)} {kV doc pm cdv ct : Value} (X : K.In h) (G : h.Ns mainGlobals mg) (a : PySem.W.nsIn K mainGlobals x = some (some (.ref f)))
    (l : K.lookup f = some ⟨oc, od, .func (PySem.W.fnOf x x (defArgs st) (defBody st) (defScope st) .none kV doc pm an cdv ct), osl⟩) (c : PySem.W.codeIn K cdv x = true) (k : PySem.W.keepIn K (.ref f) = true) : Has K mg x st := ⟨f, _, fun_mk l c k, PySem.W.mg_of X G a⟩
theorem int_mk {x : Str} {i : Int} {t : Tok} (X : K.In h) (G : h.Ns mainGlobals mg) (a : PySem.W.nsIn K mainGlobals x = some (some (.int i t))) : ∃ t, mg x = some (.int i t) := ⟨t, PySem.W.mg_of X G a⟩
theorem lens_mk {a : Addr} {od : Option Addr} {t1 t2 t3 t4 : Tok} {n : Nat} {sl : Array (Option Value)} (X : K.In h) (G : h.Ns mainGlobals mg) (e : PySem.W.nsIn K mainGlobals "PLACE_LENGTHS" = some (some (.ref a)))
    (l : K.lookup a = some ⟨.type "tuple", od, .seq #[.int 4 t1, .int 6 t2, .int 8 t3, .int 10 t4] n, sl⟩) : ∃ a, mg "PLACE_LENGTHS" = some (.ref a) ∧ ∀ H, SqT K H a [.int 4, .int 6, .int 8, .int 10] :=
  ⟨a, PySem.W.mg_of X G e, fun H => .inr ⟨_, _, n, l, rfl, rfl, (by show 4 ≤ sizeLine; decide), .cons ⟨_, rfl⟩ (.cons ⟨_, rfl⟩ (.cons ⟨_, rfl⟩ (.cons ⟨_, rfl⟩ .nil)))⟩⟩
theorem cut {A C : Prop} (h : A) (k : A → C) : C := k h
structure AllHas (K : PySem.W.Frag) (mg : Str → Option Value) : Prop where
  words_at : Has K mg "words_at" sWordsAt
  nexts_at : Has K mg "nexts_at" sNextsAt
  is_at : Has K mg "is_at" sIsAt
  is_place : Has K mg "is_place" sIsPlace
  is_script : Has K mg "is_script" sIsScript
  walk_past_others : Has K mg "walk_past_others" sWalk
  stops_of : Has K mg "stops_of" sStopsOf
  all_comings : Has K mg "all_comings" sAllComings
  coming_from : Has K mg "coming_from" sComingFrom
  places_in : Has K mg "places_in" sPlacesIn
  words_in : Has K mg "words_in" sWordsIn
  state_behind : Has K mg "state_behind" sStateBehind
  speaks_alike : Has K mg "speaks_alike" sSpeaksAlike
  fault_of_speaker : Has K mg "fault_of_speaker" sFaultSpeaker
  fault_of_listener : Has K mg "fault_of_listener" sFaultListener
  fault_of_state : Has K mg "fault_of_state" sFaultState
  trouble_of_state : Has K mg "trouble_of_state" sTrouble
  kind_and_other : Has K mg "kind_and_other" sKind
  row_of_state : Has K mg "row_of_state" sRowOf
  walk_of_party : Has K mg "walk_of_party" sWalkParty
  check : Has K mg "check" sCheck
theorem all_defs (A : AllHas K mg) (T : Txt K mg) (base : Heap) : Def P w K mg base "check" 7 ["p", "s"] (spCheck K) ∧ Def P w K mg base "walk_of_party" 6 ["c", "s"] (spParty K) := by
  have dW := d_words_at (P := P) (w := w) (base := base) A.words_at T
  have dN := d_nexts_at (P := P) (w := w) (base := base) A.nexts_at T
  have dA := d_is_at (P := P) (w := w) (base := base) A.is_at
  have dP := d_is_place A.is_place T dW dN
  have dS := d_is_script A.is_script T dP
  have dWk := d_walk A.walk_past_others T dA dN
  have dSt := d_stops_of A.stops_of T dA
  have dCm := d_all_comings A.all_comings T dWk dSt
  have dCf := d_coming_from (P := P) (w := w) (base := base) A.coming_from T
  have dPl := d_places_in (P := P) (w := w) (base := base) A.places_in T
  have dWi := d_words_in A.words_in T dPl dW
  have dB := d_state_behind A.state_behind T dPl dW dN dCf
  have dAl := d_speaks_alike A.speaks_alike T dW
  have dFs := d_fault_of_speaker A.fault_of_speaker T dAl
  have dFl := d_fault_of_listener (P := P) (w := w) (base := base) A.fault_of_listener T
  have dF := d_fault_of_state A.fault_of_state T dPl dFs dFl
  have dT := d_trouble A.trouble_of_state T dF dWi
  have dK := d_kind A.kind_and_other T dPl
  have dR := d_row_of_state A.row_of_state T dWi dK dB
  have dWp := d_walk_of_party A.walk_of_party T dCm dT dR
  exact ⟨d_check A.check T dS dWp, dWp⟩
theorem top_of {x : Str} {st : Stmt} {k : Nat} {ps : List Str} {sp : Sp} {fa : Addr} (H : Has K mg x st) (hfa : mg x = some (.ref fa))
    (hb : ∀ (kV doc pm : Value) (an : Option Addr) (cdv ct : Value) (us : List Value), us.length = ps.length → bindArgs (PySem.W.fnOf x x (defArgs st) (defBody st) (defScope st) .none kV doc pm an cdv ct) ⟨us, []⟩ = pure (ps.zip us))
    (D : ∀ base : Heap, Def P w K mg base x k ps sp) :
    ∃ fd : FuncData, (∀ (s : Shared) (us : List Value), us.length = ps.length → BindsTo s fd ⟨us, []⟩ (ps.zip us)) ∧ ∀ base : Heap, K.In base → base.Ns mainGlobals mg → FnOk P w K mg base CX0 k fa fd ps sp := by
  obtain ⟨f, fd, F, hm⟩ := H.ex
  have e : f = fa := by
    have := hm.symm.trans hfa
    injection this with this
    injection this
  subst e
  refine ⟨fd, fun s us hu => ?_, fun base _ _ => ?_⟩
  · obtain ⟨oc, od, kV, doc, pm, an, cdv, ct, osl, rfl, lk, hcd⟩ := F.ex
    exact .of_eq (hb kV doc pm an cdv ct us hu)
  · obtain ⟨f', fd', hm', _, _, ⟨o, lk', ho⟩, G⟩ := (D base).ex
    have e : f' = f := by
      have := hm'.symm.trans hm
      injection this with this
      injection this
    subst e
    obtain ⟨oc, od, kV, doc, pm, an, cdv, ct, osl, rfl, lk, hcd⟩ := F.ex
    rw [lk] at lk'
    have e2 := Option.some.inj lk'
    rw [← e2] at ho
    injection ho with ho
    rw [ho]
    exact G
theorem rows_dw {H : Hp} : ∀ (rs : List (List Int)) (xs : List V), DwAll K H xs (rs.map fun r => PySem.W.WData.list (r.map PySem.W.WData.int)) → ∃ as : List Addr, xs = as.map V.ref ∧ as.length = rs.length ∧ ∀ (j : Nat) (b : Addr) (r : List Int), as[j]? = some b → rs[j]? = some r → SqL K H b (r.map V.int)
  | [], xs, h => by
    cases h
    exact ⟨[], rfl, rfl, fun j b r e => by simp at e⟩
  | r :: rs, xs, h => by
    cases h with
    | cons h1 h2 =>
      cases h1 with
      | lst hs ha =>
        have e := ints_dw r _ ha
        subst e
        obtain ⟨as, e2, e3, e4⟩ := rows_dw rs _ h2
        refine ⟨_ :: as, by rw [e2]; rfl, by simp [e3], fun j b r' q1 q2 => ?_⟩
        cases j with
        | zero =>
          have z1 := Option.some.inj q1
          have z2 : r = r' := Option.some.inj q2
          rw [← z1, ← z2]
          exact hs
        | succ j => exact e4 j b r' (by simpa using q1) (by simpa using q2)
theorem rowOk_of {s : List (List Int)} (h : Kh292Neutral.okPlaces s = true) : 1 ≤ s.length ∧ s.length ≤ 32 ∧ ∀ r ∈ s, RowOk r := by
  have h' : PyKh292.check_asked 0 s = true := by
    show (Kh292Neutral.natural 0 32 && Kh292Neutral.okPlaces s) = true
    rw [h]
    rfl
  exact (asked_ok h').2
theorem nat_of {z : Int} (h : Kh292Neutral.natural z 32 = true) : 0 ≤ z := by
  unfold Kh292Neutral.natural at h
  rw [Bool.and_eq_true] at h
  exact of_decide_eq_true h.1
end
end Pt
set_option Elab.async false
open PySem PySem.W PyProof.Rows
set_option maxRecDepth 100000 in
set_option maxHeartbeats 0 in
theorem PySem.Challenge.cw_partscript_s01_check_holds : PySem.Challenge.rw_partscript_s01_check.Holds := by
  w_on; k_headS; (case hw => exact ⟨[.int 2, .list [.list [.int 0, .int 1, .int 0, .int 255]]], by decide +kernel, by decide +kernel⟩)
  k_fillS
  refine L2.walk_specK (r := PySem.Challenge.rw_partscript_s01_check) (k := 7) (CX := L2.CX0) (ps := ["p", "s"]) (sp := Pt.spCheck) (by decide +kernel) rfl rfl ⟨rfl, by decide, by decide⟩ (fun w h Y => PySem.W.kIn_of Y) ?F ?S (fun _ _ _ _ z => z)
  case F =>
    intro w mg fa h Y KX G hmg
    refine' Pt.cut (Pt.has_mk (x := "words_at") (st := Pt.sWordsAt) KX G ?a1 ?l1 ?c1 ?k1) fun h_words_at => ?rest1
    (case a1 => k_is); (case l1 => k_is); (case c1 => k_is); (case k1 => k_is)
    refine' Pt.cut (Pt.has_mk (x := "nexts_at") (st := Pt.sNextsAt) KX G ?a2 ?l2 ?c2 ?k2) fun h_nexts_at => ?rest2
    (case a2 => k_is); (case l2 => k_is); (case c2 => k_is); (case k2 => k_is)
    refine' Pt.cut (Pt.has_mk (x := "is_at") (st := Pt.sIsAt) KX G ?a3 ?l3 ?c3 ?k3) fun h_is_at => ?rest3
    (case a3 => k_is); (case l3 => k_is); (case c3 => k_is); (case k3 => k_is)
    refine' Pt.cut (Pt.has_mk (x := "is_place") (st := Pt.sIsPlace) KX G ?a4 ?l4 ?c4 ?k4) fun h_is_place => ?rest4
    (case a4 => k_is); (case l4 => k_is); (case c4 => k_is); (case k4 => k_is)
    refine' Pt.cut (Pt.has_mk (x := "is_script") (st := Pt.sIsScript) KX G ?a5 ?l5 ?c5 ?k5) fun h_is_script => ?rest5
    (case a5 => k_is); (case l5 => k_is); (case c5 => k_is); (case k5 => k_is)
    refine' Pt.cut (Pt.has_mk (x := "walk_past_others") (st := Pt.sWalk) KX G ?a6 ?l6 ?c6 ?k6) fun h_walk_past_others => ?rest6
    (case a6 => k_is); (case l6 => k_is); (case c6 => k_is); (case k6 => k_is)
    refine' Pt.cut (Pt.has_mk (x := "stops_of") (st := Pt.sStopsOf) KX G ?a7 ?l7 ?c7 ?k7) fun h_stops_of => ?rest7
    (case a7 => k_is); (case l7 => k_is); (case c7 => k_is); (case k7 => k_is)
    refine' Pt.cut (Pt.has_mk (x := "all_comings") (st := Pt.sAllComings) KX G ?a8 ?l8 ?c8 ?k8) fun h_all_comings => ?rest8
    (case a8 => k_is); (case l8 => k_is); (case c8 => k_is); (case k8 => k_is)
    refine' Pt.cut (Pt.has_mk (x := "coming_from") (st := Pt.sComingFrom) KX G ?a9 ?l9 ?c9 ?k9) fun h_coming_from => ?rest9
    (case a9 => k_is); (case l9 => k_is); (case c9 => k_is); (case k9 => k_is)
    refine' Pt.cut (Pt.has_mk (x := "places_in") (st := Pt.sPlacesIn) KX G ?a10 ?l10 ?c10 ?k10) fun h_places_in => ?rest10
    (case a10 => k_is); (case l10 => k_is); (case c10 => k_is); (case k10 => k_is)
    refine' Pt.cut (Pt.has_mk (x := "words_in") (st := Pt.sWordsIn) KX G ?a11 ?l11 ?c11 ?k11) fun h_words_in => ?rest11
    (case a11 => k_is); (case l11 => k_is); (case c11 => k_is); (case k11 => k_is)
    refine' Pt.cut (Pt.has_mk (x := "state_behind") (st := Pt.sStateBehind) KX G ?a12 ?l12 ?c12 ?k12) fun h_state_behind => ?rest12
    (case a12 => k_is); (case l12 => k_is); (case c12 => k_is); (case k12 => k_is)
    refine' Pt.cut (Pt.has_mk (x := "speaks_alike") (st := Pt.sSpeaksAlike) KX G ?a13 ?l13 ?c13 ?k13) fun h_speaks_alike => ?rest13
    (case a13 => k_is); (case l13 => k_is); (case c13 => k_is); (case k13 => k_is)
    refine' Pt.cut (Pt.has_mk (x := "fault_of_speaker") (st := Pt.sFaultSpeaker) KX G ?a14 ?l14 ?c14 ?k14) fun h_fault_of_speaker => ?rest14
    (case a14 => k_is); (case l14 => k_is); (case c14 => k_is); (case k14 => k_is)
    refine' Pt.cut (Pt.has_mk (x := "fault_of_listener") (st := Pt.sFaultListener) KX G ?a15 ?l15 ?c15 ?k15) fun h_fault_of_listener => ?rest15
    (case a15 => k_is); (case l15 => k_is); (case c15 => k_is); (case k15 => k_is)
    refine' Pt.cut (Pt.has_mk (x := "fault_of_state") (st := Pt.sFaultState) KX G ?a16 ?l16 ?c16 ?k16) fun h_fault_of_state => ?rest16
    (case a16 => k_is); (case l16 => k_is); (case c16 => k_is); (case k16 => k_is)
    refine' Pt.cut (Pt.has_mk (x := "trouble_of_state") (st := Pt.sTrouble) KX G ?a17 ?l17 ?c17 ?k17) fun h_trouble_of_state => ?rest17
    (case a17 => k_is); (case l17 => k_is); (case c17 => k_is); (case k17 => k_is)
    refine' Pt.cut (Pt.has_mk (x := "kind_and_other") (st := Pt.sKind) KX G ?a18 ?l18 ?c18 ?k18) fun h_kind_and_other => ?rest18
    (case a18 => k_is); (case l18 => k_is); (case c18 => k_is); (case k18 => k_is)
    refine' Pt.cut (Pt.has_mk (x := "row_of_state") (st := Pt.sRowOf) KX G ?a19 ?l19 ?c19 ?k19) fun h_row_of_state => ?rest19
    (case a19 => k_is); (case l19 => k_is); (case c19 => k_is); (case k19 => k_is)
    refine' Pt.cut (Pt.has_mk (x := "walk_of_party") (st := Pt.sWalkParty) KX G ?a20 ?l20 ?c20 ?k20) fun h_walk_of_party => ?rest20
    (case a20 => k_is); (case l20 => k_is); (case c20 => k_is); (case k20 => k_is)
    refine' Pt.cut (Pt.has_mk (x := "check") (st := Pt.sCheck) KX G ?a21 ?l21 ?c21 ?k21) fun h_check => ?rest21
    (case a21 => k_is); (case l21 => k_is); (case c21 => k_is); (case k21 => k_is)
    have i_OVER : ∃ t, mg "OVER" = some (.int (255) t) := by
      refine' Pt.int_mk KX G ?a22
      (case a22 => k_is)
    have i_KEPT : ∃ t, mg "KEPT" = some (.int (0) t) := by
      refine' Pt.int_mk KX G ?a23
      (case a23 => k_is)
    have i_NOT_CLEAR : ∃ t, mg "NOT_CLEAR" = some (.int (1) t) := by
      refine' Pt.int_mk KX G ?a24
      (case a24 => k_is)
    have i_NO_SCRIPT : ∃ t, mg "NO_SCRIPT" = some (.int (-22) t) := by
      refine' Pt.int_mk KX G ?a25
      (case a25 => k_is)
    have i_TOO_MUCH : ∃ t, mg "TOO_MUCH" = some (.int (-75) t) := by
      refine' Pt.int_mk KX G ?a26
      (case a26 => k_is)
    have i_LEAST_PARTIES : ∃ t, mg "LEAST_PARTIES" = some (.int (2) t) := by
      refine' Pt.int_mk KX G ?a27
      (case a27 => k_is)
    have i_MOST_PARTIES : ∃ t, mg "MOST_PARTIES" = some (.int (8) t) := by
      refine' Pt.int_mk KX G ?a28
      (case a28 => k_is)
    have i_MOST_PLACES : ∃ t, mg "MOST_PLACES" = some (.int (32) t) := by
      refine' Pt.int_mk KX G ?a29
      (case a29 => k_is)
    have i_MOST_WORDS : ∃ t, mg "MOST_WORDS" = some (.int (16) t) := by
      refine' Pt.int_mk KX G ?a30
      (case a30 => k_is)
    have i_MOST_STATES : ∃ t, mg "MOST_STATES" = some (.int (64) t) := by
      refine' Pt.int_mk KX G ?a31
      (case a31 => k_is)
    have i_CLEAR : ∃ t, mg "CLEAR" = some (.int (0) t) := by
      refine' Pt.int_mk KX G ?a32
      (case a32 => k_is)
    have i_OVER_AMONG_PLACES : ∃ t, mg "OVER_AMONG_PLACES" = some (.int (1) t) := by
      refine' Pt.int_mk KX G ?a33
      (case a33 => k_is)
    have i_SPEAKS_AND_LISTENS : ∃ t, mg "SPEAKS_AND_LISTENS" = some (.int (2) t) := by
      refine' Pt.int_mk KX G ?a34
      (case a34 => k_is)
    have i_SPEAKS_UNLIKE : ∃ t, mg "SPEAKS_UNLIKE" = some (.int (3) t) := by
      refine' Pt.int_mk KX G ?a35
      (case a35 => k_is)
    have i_LISTENS_TO_SEVERAL : ∃ t, mg "LISTENS_TO_SEVERAL" = some (.int (4) t) := by
      refine' Pt.int_mk KX G ?a36
      (case a36 => k_is)
    have i_NOTHING_MORE : ∃ t, mg "NOTHING_MORE" = some (.int (0) t) := by
      refine' Pt.int_mk KX G ?a37
      (case a37 => k_is)
    have i_SPEAKS : ∃ t, mg "SPEAKS" = some (.int (1) t) := by
      refine' Pt.int_mk KX G ?a38
      (case a38 => k_is)
    have i_LISTENS : ∃ t, mg "LISTENS" = some (.int (2) t) := by
      refine' Pt.int_mk KX G ?a39
      (case a39 => k_is)
    have n_len : mg "len" = none := by
      refine' PySem.W.mg_none_of KX G ?a40
      (case a40 => k_is)
    have n_range : mg "range" = none := by
      refine' PySem.W.mg_none_of KX G ?a41
      (case a41 => k_is)
    have n_set : mg "set" = none := by
      refine' PySem.W.mg_none_of KX G ?a42
      (case a42 => k_is)
    have n_all : mg "all" = none := by
      refine' PySem.W.mg_none_of KX G ?a43
      (case a43 => k_is)
    have n_any : mg "any" = none := by
      refine' PySem.W.mg_none_of KX G ?a44
      (case a44 => k_is)
    have n_sorted : mg "sorted" = none := by
      refine' PySem.W.mg_none_of KX G ?a45
      (case a45 => k_is)
    have n_zip : mg "zip" = none := by
      refine' PySem.W.mg_none_of KX G ?a46
      (case a46 => k_is)
    refine' Pt.cut (Pt.lens_mk KX G ?a47 ?l47) fun lens => ?rest47
    (case a47 => k_is); (case l47 => k_is)
    refine Pt.cut (Pt.Txt.mk n_len n_range n_set n_all n_any n_sorted n_zip i_OVER i_KEPT i_NOT_CLEAR i_NO_SCRIPT i_TOO_MUCH i_LEAST_PARTIES i_MOST_PARTIES i_MOST_PLACES i_MOST_WORDS i_MOST_STATES i_CLEAR i_OVER_AMONG_PLACES i_SPEAKS_AND_LISTENS i_SPEAKS_UNLIKE i_LISTENS_TO_SEVERAL i_NOTHING_MORE i_SPEAKS i_LISTENS lens) fun T => ?_
    refine Pt.cut (Pt.AllHas.mk h_words_at h_nexts_at h_is_at h_is_place h_is_script h_walk_past_others h_stops_of h_all_comings h_coming_from h_places_in h_words_in h_state_behind h_speaks_alike h_fault_of_speaker h_fault_of_listener h_fault_of_state h_trouble_of_state h_kind_and_other h_row_of_state h_walk_of_party h_check) fun AH => ?_
    exact Pt.top_of h_check hmg (fun _ _ _ _ _ _ us hl => match us, hl with | [_, _], _ => rfl) fun base => (Pt.all_defs AH T base).1
  case S =>
    intro K H xs a hO hwi hask hx
    obtain ⟨p, s, u⟩ := a
    cases hx with
    | cons h1 h2 =>
      cases h1
      cases h2 with
      | cons h5 h6 =>
        cases h6
        cases h5 with
        | lst hs ha =>
          obtain ⟨as, e1, e2, e3⟩ := Pt.rows_dw s _ ha
          subst e1
          have q : (Kh292Neutral.natural p 32 && Kh292Neutral.okPlaces s) = true := hask
          rw [Bool.and_eq_true] at q
          obtain ⟨l1, l2, ok⟩ := Pt.rowOk_of q.2
          exact ⟨p, _, as, s, rfl, ⟨hs, e2, e3⟩, ok, l1, l2, Pt.nat_of q.1, fun H' pp _ hp => .lst hp (L2.dw_ints _)⟩
#print axioms PySem.Challenge.cw_partscript_s01_check_holds
