import PyProof.Rows.All
import Wide.All
import OpenK.AllK
import Wide.FinOn
import HandS.ForMost
import HandS.ForExc
import HandS.Wide
import HandS.Deep
import HandS.TupAny
import HandS.IsInst
import HandS.ExcValue
import HandS.Property
import HandS.FStr
import HandS.DictComp
import HandS.RaiseMore
import HandS.ExcField
import HandS.ExcInit
import HandS.NoneIn
import HandS.More
import HandS.Style
import PySem.Challenge.RW_risingbars_k03_orders_of_answers
set_option Elab.async false
set_option linter.all false
set_option maxRecDepth 100000
set_option maxHeartbeats 2000000
/-! RB1: a def as a plain function of data. Data are PyData; what a value at the heap stands for; states by slots; expressions, statements, defs. -/
namespace RB
open PySem L2

abbrev D := PyData

/-- an own exception: the class's name, its own field -/
structure Exn where
  cls : Str
  arg : Option (Str × D)

inductive R (α : Type) where
  | bad
  | ok (a : α)
  | rs (x : Exn)
namespace R
def bind {α β : Type} (r : R α) (k : α → R β) : R β := match r with
  | .bad => .bad
  | .ok a => k a
  | .rs x => .rs x
def map {α β : Type} (r : R α) (k : α → β) : R β := r.bind fun a => .ok (k a)
def of {α : Type} (o : Option α) : R α := match o with
  | none => .bad
  | some a => .ok a
@[simp] theorem bind_ok {α β : Type} (a : α) (k : α → R β) : (R.ok a).bind k = k a := rfl
@[simp] theorem bind_bad {α β : Type} (k : α → R β) : (R.bad : R α).bind k = .bad := rfl
@[simp] theorem bind_rs {α β : Type} (x : Exn) (k : α → R β) : (R.rs x : R α).bind k = .rs x := rfl
@[simp] theorem map_ok {α β : Type} (a : α) (k : α → β) : (R.ok a).map k = .ok (k a) := rfl
@[simp] theorem of_some {α : Type} (a : α) : R.of (some a) = .ok a := rfl
@[simp] theorem of_none {α : Type} : R.of (none : Option α) = .bad := rfl
end R

/-! ### what a value stands for -/
def keyD : Key → D
  | .inl i => .int i
  | .inr x => .str x

section
variable (K : PySem.W.Frag) (mg : Str → Option Value) (F : Hp)
def DObj (a : Addr) (ws : List (D × V)) : Prop :=
  (∃ kvs : List (Key × V), ws = kvs.map (fun p => (keyD p.1, p.2)) ∧ F a = some (.dK kvs)) ∨
  (∃ kvs : List (List Key × V), ws = (PyData.bool true, V.non) :: kvs.map (fun p => (PyData.tuple (p.1.map keyD), p.2)) ∧ F a = some (.dT kvs)) ∨
  (∃ (c : Str) (C dx : Addr) (fs : List (Str × V)), ws = (PyData.none, V.str c) :: fs.map (fun p => (PyData.str p.1, p.2)) ∧ mg c = some (.ref C) ∧ F a = some (.ins C dx fs))
mutual
def Rep : D → V → Prop
  | .none, v => v = .non
  | .bool b, v => v = .bl b
  | .int i, v => v = .int i
  | .str s, v => v = .str s
  | .list ds, v => ∃ a vs, v = .ref a ∧ F a = some (.lst vs) ∧ RepAll ds vs
  | .tuple ds, v => ∃ a vs, v = .ref a ∧ SqT K F a vs ∧ RepAll ds vs
  | .dict kvs, v => ∃ a ws, v = .ref a ∧ DObj mg F a ws ∧ RepKV kvs ws
def RepAll : List D → List V → Prop
  | [], vs => vs = []
  | d :: ds, vs => ∃ v r, vs = v :: r ∧ Rep d v ∧ RepAll ds r
def RepKV : List (D × D) → List (D × V) → Prop
  | [], ws => ws = []
  | (k, d) :: r, ws => ∃ v r', ws = (k, v) :: r' ∧ Rep d v ∧ RepKV r r'
end
end

/-- what stands in the one heap stands in the other one too -/
def Ex (G T : Hp) : Prop := ∀ q u, G q = some u → T q = some u
theorem Ex.refl (G : Hp) : Ex G G := fun _ _ z => z
theorem Ex.trans {G T U : Hp} (m : Ex G T) (n : Ex T U) : Ex G U := fun q u z => n q u (m q u z)
theorem Ex.new {G : Hp} {p : Addr} {o : HO} (free : G p = none) : Ex G (upd G p o) := fun q u z => (upd_ne (ne_of_none z free)).trans z
theorem Ex.mut {G T : Hp} {p : Addr} {o : HO} (m : Ex G T) (free : G p = none) : Ex G (upd T p o) := fun q u z => (upd_ne (ne_of_none z free)).trans (m q u z)
theorem Ex.upd2 {H H' : Hp} {p : Addr} {o : HO} (e : Ex H H') : Ex (upd H p o) (upd H' p o) := fun a u ha => by
  by_cases h : a = p
  · subst h
    rw [upd_same] at ha ⊢
    exact ha
  · rw [upd_ne h] at ha ⊢
    exact e a u ha
theorem Ex.fresh {H H' : Hp} {p : Addr} (e : Ex H H') (h : H' p = none) : H p = none := by
  cases h1 : H p with
  | none => rfl
  | some o =>
    rw [e p o h1] at h
    cases h
theorem ex_l {K : PySem.W.Frag} {G T : Hp} {q : Addr} {xs : List V} (m : Ex G T) (z : SqL K G q xs) : SqL K T q xs := Or.imp (Or.imp (m q _) fun ⟨u, y⟩ => ⟨u, m q _ y⟩) id z
theorem ex_t {K : PySem.W.Frag} {G T : Hp} {q : Addr} {xs : List V} (m : Ex G T) (z : SqT K G q xs) : SqT K T q xs := Or.imp (Or.imp (m q _) fun ⟨u, y⟩ => ⟨u, m q _ y⟩) id z

section
variable {K : PySem.W.Frag} {mg : Str → Option Value} {F F' : Hp}
theorem DObj.mono (e : Ex F F') {a : Addr} {ws : List (D × V)} (h : DObj mg F a ws) : DObj mg F' a ws := by
  rcases h with ⟨kvs, h1, h2⟩ | ⟨kvs, h1, h2⟩ | ⟨c, C, dx, fs, h1, h2, h3⟩
  · exact .inl ⟨kvs, h1, e _ _ h2⟩
  · exact .inr (.inl ⟨kvs, h1, e _ _ h2⟩)
  · exact .inr (.inr ⟨c, C, dx, fs, h1, h2, e _ _ h3⟩)
mutual
theorem Rep.mono (e : Ex F F') : ∀ (d : D) (v : V), Rep K mg F d v → Rep K mg F' d v
  | .none, v, h => by simp only [Rep] at h ⊢; exact h
  | .bool b, v, h => by simp only [Rep] at h ⊢; exact h
  | .int i, v, h => by simp only [Rep] at h ⊢; exact h
  | .str s, v, h => by simp only [Rep] at h ⊢; exact h
  | .list ds, v, h => by
    simp only [Rep] at h ⊢
    obtain ⟨a, vs, h1, h2, h3⟩ := h
    exact ⟨a, vs, h1, e _ _ h2, RepAll.mono e ds vs h3⟩
  | .tuple ds, v, h => by
    simp only [Rep] at h ⊢
    obtain ⟨a, vs, h1, h2, h3⟩ := h
    exact ⟨a, vs, h1, ex_t e h2, RepAll.mono e ds vs h3⟩
  | .dict kvs, v, h => by
    simp only [Rep] at h ⊢
    obtain ⟨a, vs, h1, h2, h3⟩ := h
    exact ⟨a, vs, h1, h2.mono e, RepKV.mono e kvs vs h3⟩
theorem RepAll.mono (e : Ex F F') : ∀ (ds : List D) (vs : List V), RepAll K mg F ds vs → RepAll K mg F' ds vs
  | [], vs, h => by simp only [RepAll] at h ⊢; exact h
  | d :: ds, vs, h => by
    simp only [RepAll] at h ⊢
    obtain ⟨v, r, h1, h2, h3⟩ := h
    exact ⟨v, r, h1, Rep.mono e d v h2, RepAll.mono e ds r h3⟩
theorem RepKV.mono (e : Ex F F') : ∀ (ds : List (D × D)) (vs : List (D × V)), RepKV K mg F ds vs → RepKV K mg F' ds vs
  | [], vs, h => by simp only [RepKV] at h ⊢; exact h
  | (k, d) :: ds, vs, h => by
    simp only [RepKV] at h ⊢
    obtain ⟨v, r, h1, h2, h3⟩ := h
    exact ⟨v, r, h1, Rep.mono e d v h2, RepKV.mono e ds r h3⟩
end
theorem RepAll.length : ∀ {ds : List D} {vs : List V}, RepAll K mg F ds vs → vs.length = ds.length
  | [], vs, h => by simp only [RepAll] at h; subst h; rfl
  | d :: ds, vs, h => by
    simp only [RepAll] at h
    obtain ⟨v, r, rfl, _, h3⟩ := h
    simp [RepAll.length h3]
theorem RepAll.get : ∀ {ds : List D} {vs : List V} {i : Nat} {d : D}, RepAll K mg F ds vs → ds[i]? = some d → ∃ v, vs[i]? = some v ∧ Rep K mg F d v
  | [], vs, i, d, h, e => by simp at e
  | d :: ds, vs, i, d', h, e => by
    simp only [RepAll] at h
    obtain ⟨v, r, rfl, h2, h3⟩ := h
    cases i with
    | zero =>
      have e' : d = d' := by simpa using e
      subst e'
      exact ⟨v, rfl, h2⟩
    | succ i => exact RepAll.get (i := i) h3 (by simpa using e)
theorem RepAll.append : ∀ {ds es : List D} {vs ws : List V}, RepAll K mg F ds vs → RepAll K mg F es ws → RepAll K mg F (ds ++ es) (vs ++ ws)
  | [], es, vs, ws, h, k => by simp only [RepAll] at h; subst h; exact k
  | d :: ds, es, vs, ws, h, k => by
    simp only [RepAll] at h
    obtain ⟨v, r, rfl, h2, h3⟩ := h
    show RepAll K mg F (d :: (ds ++ es)) (v :: (r ++ ws))
    simp only [RepAll]
    exact ⟨v, r ++ ws, rfl, h2, RepAll.append h3 k⟩
theorem RepAll.one {d : D} {v : V} (h : Rep K mg F d v) : RepAll K mg F [d] [v] := by
  simp only [RepAll]
  exact ⟨v, [], rfl, h, rfl⟩
theorem RepAll.take : ∀ {ds : List D} {vs : List V} (n : Nat), RepAll K mg F ds vs → RepAll K mg F (ds.take n) (vs.take n)
  | _, _, 0, _ => by simp [RepAll]
  | [], vs, n + 1, h => by simp only [RepAll] at h; subst h; simp [RepAll]
  | d :: ds, vs, n + 1, h => by
    simp only [RepAll] at h
    obtain ⟨v, r, rfl, h2, h3⟩ := h
    show RepAll K mg F (d :: ds.take n) (v :: r.take n)
    simp only [RepAll]
    exact ⟨v, _, rfl, h2, RepAll.take n h3⟩
theorem RepAll.drop : ∀ {ds : List D} {vs : List V} (n : Nat), RepAll K mg F ds vs → RepAll K mg F (ds.drop n) (vs.drop n)
  | _, _, 0, h => h
  | [], vs, n + 1, h => by simp only [RepAll] at h; subst h; simp [RepAll]
  | d :: ds, vs, n + 1, h => by
    simp only [RepAll] at h
    obtain ⟨v, r, rfl, h2, h3⟩ := h
    exact RepAll.drop n h3
theorem rep_int {i : Int} {v : V} : Rep K mg F (.int i) v ↔ v = .int i := by simp only [Rep]
theorem rep_bl {i : Bool} {v : V} : Rep K mg F (.bool i) v ↔ v = .bl i := by simp only [Rep]
theorem rep_str {i : Str} {v : V} : Rep K mg F (.str i) v ↔ v = .str i := by simp only [Rep]
theorem rep_non {v : V} : Rep K mg F .none v ↔ v = .non := by simp only [Rep]
theorem rep_lst {ds : List D} {v : V} : Rep K mg F (.list ds) v ↔ ∃ a vs, v = .ref a ∧ F a = some (.lst vs) ∧ RepAll K mg F ds vs := by simp only [Rep]
theorem rep_tup {ds : List D} {v : V} : Rep K mg F (.tuple ds) v ↔ ∃ a vs, v = .ref a ∧ SqT K F a vs ∧ RepAll K mg F ds vs := by simp only [Rep]
theorem rep_dict {kvs : List (D × D)} {v : V} : Rep K mg F (.dict kvs) v ↔ ∃ a ws, v = .ref a ∧ DObj mg F a ws ∧ RepKV K mg F kvs ws := by simp only [Rep]

/-! what the library's == reads -/
mutual
theorem Rep.dp {H : Hp} (e : Ex F H) : ∀ (d : D) (v : V), d.canLay0 = true → Rep K mg F d v → Dp K H v d
  | .none, v, _, h => by simp only [Rep] at h; subst h; exact .non
  | .bool b, v, _, h => by simp only [Rep] at h; subst h; exact .bl b
  | .int i, v, _, h => by simp only [Rep] at h; subst h; exact .int i
  | .str s, v, _, h => by simp only [Rep] at h; subst h; exact .str s
  | .list ds, v, c, h => by
    simp only [Rep] at h
    obtain ⟨a, vs, rfl, h2, h3⟩ := h
    exact .lst (SqL.of (e _ _ h2)) (RepAll.dp e ds vs (by simpa [PyData.canLay0] using c) h3)
  | .tuple ds, v, c, h => by
    simp only [Rep] at h
    obtain ⟨a, vs, rfl, h2, h3⟩ := h
    exact .tup (ex_t e h2) (RepAll.dp e ds vs (by simpa [PyData.canLay0] using c) h3)
  | .dict kvs, v, c, h => by simp [PyData.canLay0] at c
theorem RepAll.dp {H : Hp} (e : Ex F H) : ∀ (ds : List D) (vs : List V), PyData.canLayAll0 ds = true → RepAll K mg F ds vs → DpAll K H vs ds
  | [], vs, _, h => by simp only [RepAll] at h; subst h; exact .nil
  | d :: ds, vs, c, h => by
    simp only [RepAll] at h
    obtain ⟨v, r, rfl, h2, h3⟩ := h
    simp only [PyData.canLayAll0, Bool.and_eq_true] at c
    exact .cons (Rep.dp e d v c.1 h2) (RepAll.dp e ds r c.2 h3)
end
theorem lay_of_shaped {d : D} (h : SeqAt.shaped d = true) : d.canLay0 = true := by
  unfold SeqAt.shaped at h
  simp only [Bool.and_eq_true] at h
  exact h.1
end

/-! ### states -/
/-- F: what stands for good; H: all; from one moment to a later one of an expression or a call -/
structure Go (F H F' H' : Hp) : Prop where
  ef : Ex F F'
  eh : Ex H H'
  nw : ∀ a, F a = none → H a ≠ none → F' a = none
  xt : Ex F' H'
theorem Go.refl {F H : Hp} (x : Ex F H) : Go F H F H := ⟨Ex.refl _, Ex.refl _, fun _ h _ => h, x⟩
theorem Go.trans {F H F1 H1 F2 H2 : Hp} (a : Go F H F1 H1) (b : Go F1 H1 F2 H2) : Go F H F2 H2 :=
  ⟨a.ef.trans b.ef, a.eh.trans b.eh, fun x h1 h2 => b.nw x (a.nw x h1 h2) (fun z => by
    cases e : H x with
    | none => exact h2 e
    | some o => rw [a.eh x o e] at z; cases z), b.xt⟩
/-- a new object, known for good -/
theorem Go.alloc {F H : Hp} {p : Addr} {o : HO} (x : Ex F H) (h : H p = none) : Go F H (upd F p o) (upd H p o) :=
  ⟨Ex.new (x.fresh h), Ex.new h, fun a h1 h2 => by rw [upd_ne (fun z => h2 (by rw [z]; exact h))]; exact h1, x.upd2⟩
/-- a new object of one's own -/
theorem Go.lay {F H : Hp} {p : Addr} {o : HO} (x : Ex F H) (h : H p = none) : Go F H F (upd H p o) :=
  ⟨Ex.refl _, Ex.new h, fun a h1 _ => h1, x.trans (Ex.new h)⟩

inductive B where
  | un
  | dat (d : D)
  /-- a list that is only read -/
  | wk (ds : List D)
  /-- a list, a dict of one's own, that changes -/
  | own (ds : List D)
  | ownd (kvs : List (Key × D))
  | ownt (kvs : List (List Key × D))
  | ownI (x dx : Addr) (c : Str) (fs : List (Str × D))
  /-- a caught exception -/
  | exn (a : Addr) (cls : Value) (d : Option Addr) (x : Exn)
def B.mine : B → Bool
  | .own _ => true
  | .ownd _ => true
  | .ownt _ => true
  | .ownI _ _ _ _ => true
  | _ => false

section
variable (K : PySem.W.Frag) (mg : Str → Option Value)
def RepKs {κ : Type} (F : Hp) (ds : List (κ × D)) (vs : List (κ × V)) : Prop := ds.map (·.1) = vs.map (·.1) ∧ RepAll K mg F (ds.map (·.2)) (vs.map (·.2))
/-- what an exception x is when raised: its class, its dict -/
def ExR (F H : Hp) (x : Exn) (cls : Value) (dd : Option Addr) : Prop := ∃ C, cls = .ref C ∧ mg x.cls = some (.ref C) ∧ match x.arg with
  | none => dd = none
  | some (f, d) => ∃ a v, dd = some a ∧ H a = some (.xd [(f, v)]) ∧ Rep K mg F d v
def RepB (F0 H0 F H : Hp) (o : Option (Option V)) : B → Prop
  | .un => True
  | .dat d => ∃ v, o = some (some v) ∧ Rep K mg F d v
  | .wk ds => ∃ p vs, o = some (some (.ref p)) ∧ SqL K H0 p vs ∧ RepAll K mg F0 ds vs
  | .own ds => ∃ p vs, o = some (some (.ref p)) ∧ F p = none ∧ H0 p = none ∧ H p = some (.lst vs) ∧ RepAll K mg F ds vs
  | .ownd kvs => ∃ p vs, o = some (some (.ref p)) ∧ F p = none ∧ H0 p = none ∧ H p = some (.dK vs) ∧ RepKs K mg F kvs vs
  | .ownt kvs => ∃ p vs, o = some (some (.ref p)) ∧ F p = none ∧ H0 p = none ∧ H p = some (.dT vs) ∧ RepKs K mg F kvs vs
  | .ownI p dx c fs => ∃ C vs, o = some (some (.ref p)) ∧ F p = none ∧ H0 p = none ∧ F dx = none ∧ H0 dx = none ∧ dx ≠ p ∧ mg c = some (.ref C) ∧ H p = some (.ins C dx vs) ∧ H dx = some (.own p) ∧ RepKs K mg F fs vs
  | .exn a cls dd x => o = some (some (.ref a)) ∧ ExR K mg F H x cls dd
structure RepS (F0 H0 F H : Hp) (σ : St) (ρ : List B) : Prop where
  go : Go F0 H0 F H
  len : σ.length = ρ.length
  at_ : ∀ (i : Nat) (b : B), ρ[i]? = some b → RepB K mg F0 H0 F H σ[i]? b
  dis : ∀ (i j : Nat) (b b' : B) (p : Addr), i ≠ j → ρ[i]? = some b → ρ[j]? = some b' → b.mine = true → b'.mine = true → σ[i]? = some (some (.ref p)) → σ[j]? ≠ some (some (.ref p))
end
section
variable {K : PySem.W.Frag} {mg : Str → Option Value} {F0 H0 F H F' H' : Hp} {σ : St} {ρ : List B}
theorem RepKs.mono {κ : Type} (e : Ex F F') {ds : List (κ × D)} {vs : List (κ × V)} (h : RepKs K mg F ds vs) : RepKs K mg F' ds vs := ⟨h.1, h.2.mono e⟩
theorem ExR.go {x : Exn} {cls : Value} {dd : Option Addr} (ef : Ex F F') (eh : ∀ a fs, H a = some (.xd fs) → H' a = some (.xd fs)) (h : ExR K mg F H x cls dd) : ExR K mg F' H' x cls dd := by
  obtain ⟨C, h1, h2, h3⟩ := h
  refine ⟨C, h1, h2, ?_⟩
  cases q : x.arg with
  | none => rw [q] at h3; exact h3
  | some p =>
    rw [q] at h3
    obtain ⟨a, v, h4, h5, h6⟩ := h3
    exact ⟨a, v, h4, eh _ _ h5, h6.mono ef⟩
theorem RepB.go {o : Option (Option V)} {b : B} (g : Go F H F' H') (h : RepB K mg F0 H0 F H o b) : RepB K mg F0 H0 F' H' o b := by
  cases b with
  | un => trivial
  | exn a cls dd x => exact ⟨h.1, h.2.go g.ef fun a fs q => g.eh _ _ q⟩
  | dat d =>
    obtain ⟨v, h1, h2⟩ := h
    exact ⟨v, h1, h2.mono g.ef⟩
  | wk ds => exact h
  | own ds =>
    obtain ⟨p, vs, h1, h2, h3, h4, h5⟩ := h
    exact ⟨p, vs, h1, g.nw p h2 (by rw [h4]; simp), h3, g.eh _ _ h4, h5.mono g.ef⟩
  | ownd ds =>
    obtain ⟨p, vs, h1, h2, h3, h4, h5⟩ := h
    exact ⟨p, vs, h1, g.nw p h2 (by rw [h4]; simp), h3, g.eh _ _ h4, h5.mono g.ef⟩
  | ownt ds =>
    obtain ⟨p, vs, h1, h2, h3, h4, h5⟩ := h
    exact ⟨p, vs, h1, g.nw p h2 (by rw [h4]; simp), h3, g.eh _ _ h4, h5.mono g.ef⟩
  | ownI p dx c fs =>
    obtain ⟨C, vs, h1, h2, h3, h4, h5, h6, h7, h8, h9, h10⟩ := h
    exact ⟨C, vs, h1, g.nw p h2 (by rw [h8]; simp), h3, g.nw dx h4 (by rw [h9]; simp), h5, h6, h7, g.eh _ _ h8, g.eh _ _ h9, h10.mono g.ef⟩
theorem RepS.step (s : RepS K mg F0 H0 F H σ ρ) (g : Go F H F' H') : RepS K mg F0 H0 F' H' σ ρ :=
  ⟨s.go.trans g, s.len, fun i b e => (s.at_ i b e).go g, s.dis⟩
theorem RepS.xt (s : RepS K mg F0 H0 F H σ ρ) : Ex F H := s.go.xt
/-- a slot given a value for good -/
theorem RepS.set (s : RepS K mg F0 H0 F H σ ρ) {i : Nat} {d : D} {v : V} (r : Rep K mg F d v) : RepS K mg F0 H0 F H (σ.set i (some v)) (ρ.set i (.dat d)) := by
  refine ⟨s.go, by rw [List.length_set, List.length_set, s.len], fun j b e => ?_, fun j k b b' p n e e' m m' q => ?_⟩
  · by_cases h : i = j
    · subst h
      have hl : i < ρ.length := by
        have := (List.getElem?_eq_some_iff.mp e).1
        simpa using this
      rw [List.getElem?_set_self hl] at e
      cases e
      refine ⟨v, ?_, r⟩
      rw [List.getElem?_set_self (by rw [s.len]; exact hl)]
    · rw [List.getElem?_set_ne h] at e ⊢
      exact s.at_ j b e
  · have hj : i ≠ j := fun z => by
      subst z
      have hl : i < ρ.length := by
        have := (List.getElem?_eq_some_iff.mp e).1
        simpa using this
      rw [List.getElem?_set_self hl] at e
      cases e
      cases m
    have hk : i ≠ k := fun z => by
      subst z
      have hl : i < ρ.length := by
        have := (List.getElem?_eq_some_iff.mp e').1
        simpa using this
      rw [List.getElem?_set_self hl] at e'
      cases e'
      cases m'
    rw [List.getElem?_set_ne hj] at e q
    rw [List.getElem?_set_ne hk] at e' ⊢
    exact s.dis j k b b' p n e e' m m' q
/-- a slot given an object of one's own that is new -/
theorem RepS.setOwn (s : RepS K mg F0 H0 F H σ ρ) {i : Nat} {b : B} {p : Addr} {o : HO} (hp : H p = none) (r : RepB K mg F0 H0 F (upd H p o) (some (some (.ref p))) b) : RepS K mg F0 H0 F (upd H p o) (σ.set i (some (.ref p))) (ρ.set i b) := by
  have s' := s.step (Go.lay (o := o) s.xt hp)
  -- nothing of one's own stands at p
  have no : ∀ (j : Nat) (b' : B), ρ[j]? = some b' → b'.mine = true → σ[j]? ≠ some (some (V.ref p)) := fun j b' e m z => by
    have h := s.at_ j b' e
    rw [z] at h
    cases b' with
    | own ds =>
      obtain ⟨q, vs, h1, _, _, h4, _⟩ := h
      cases h1
      rw [hp] at h4
      cases h4
    | ownd ds =>
      obtain ⟨q, vs, h1, _, _, h4, _⟩ := h
      cases h1
      rw [hp] at h4
      cases h4
    | ownt ds =>
      obtain ⟨q, vs, h1, _, _, h4, _⟩ := h
      cases h1
      rw [hp] at h4
      cases h4
    | ownI q dx c fs =>
      obtain ⟨C, vs, h1, _, _, _, _, _, _, h4, _⟩ := h
      cases h1
      rw [hp] at h4
      cases h4
    | _ => cases m
  refine ⟨s'.go, by rw [List.length_set, List.length_set, s.len], fun j b' e => ?_, fun j k b1 b2 q n e e' m m' hq => ?_⟩
  · by_cases h : i = j
    · subst h
      have hl : i < ρ.length := by
        have := (List.getElem?_eq_some_iff.mp e).1
        simpa using this
      rw [List.getElem?_set_self hl] at e
      cases e
      rw [List.getElem?_set_self (by rw [s.len]; exact hl)]
      exact r
    · rw [List.getElem?_set_ne h] at e ⊢
      exact s'.at_ j b' e
  · by_cases hj : i = j
    · subst hj
      have hk : i ≠ k := n
      have hl : i < σ.length := by
        have := (List.getElem?_eq_some_iff.mp hq).1
        simpa using this
      rw [List.getElem?_set_self hl] at hq
      cases hq
      rw [List.getElem?_set_ne hk] at e' ⊢
      exact no k b2 e' m'
    · rw [List.getElem?_set_ne hj] at e hq
      by_cases hk : i = k
      · subst hk
        intro z
        have hl : i < σ.length := by
          have := (List.getElem?_eq_some_iff.mp z).1
          simpa using this
        rw [List.getElem?_set_self hl] at z
        cases z
        exact no j b1 e m hq
      · rw [List.getElem?_set_ne hk] at e' ⊢
        exact s.dis j k b1 b2 q n e e' m m' hq
/-- an object of one's own changed -/
theorem RepS.change (s : RepS K mg F0 H0 F H σ ρ) {i : Nat} {b b1 : B} {p : Addr} {o u : HO} (hb : ρ[i]? = some b) (hm : b.mine = true) (hs : σ[i]? = some (some (.ref p))) (hF : F p = none) (hH0 : H0 p = none) (hH : H p = some u)
    (nd : ∀ x, u ≠ .own x) (nx : ∀ fs, u ≠ .xd fs) (kn : ∀ (C dx : Addr) fs, u = .ins C dx fs → H dx = some (.own p))
    (r : RepB K mg F0 H0 F (upd H p o) (some (some (.ref p))) b1) : RepS K mg F0 H0 F (upd H p o) σ (ρ.set i b1) := by
  have hl : i < ρ.length := (List.getElem?_eq_some_iff.mp hb).1
  refine ⟨⟨s.go.ef, s.go.eh.mut hH0, s.go.nw, s.go.xt.mut hF⟩, by rw [List.length_set, s.len], fun j b' e => ?_, fun j k c c' q n e e' m m' hq => ?_⟩
  · by_cases h : i = j
    · subst h
      rw [List.getElem?_set_self hl] at e
      cases e
      rw [hs]
      exact r
    · rw [List.getElem?_set_ne h] at e
      have old := s.at_ j b' e
      have np : b'.mine = true → σ[j]? ≠ some (some (V.ref p)) := fun m => s.dis i j b b' p h hb e hm m hs
      cases b' with
      | un => trivial
      | exn a cls dd x => exact ⟨old.1, old.2.go (Ex.refl _) fun a fs q => by
          have ne : a ≠ p := fun z => by
            rw [z, hH] at q
            exact nx _ (Option.some.inj q)
          rw [upd_ne ne]
          exact q⟩
      | dat d => exact old
      | wk ds => exact old
      | own ds =>
        obtain ⟨q, vs, h1, h2, h3, h4, h5⟩ := old
        have nq : q ≠ p := fun z => np rfl (by rw [h1, z])
        exact ⟨q, vs, h1, h2, h3, by rw [upd_ne nq]; exact h4, h5⟩
      | ownd ds =>
        obtain ⟨q, vs, h1, h2, h3, h4, h5⟩ := old
        have nq : q ≠ p := fun z => np rfl (by rw [h1, z])
        exact ⟨q, vs, h1, h2, h3, by rw [upd_ne nq]; exact h4, h5⟩
      | ownt ds =>
        obtain ⟨q, vs, h1, h2, h3, h4, h5⟩ := old
        have nq : q ≠ p := fun z => np rfl (by rw [h1, z])
        exact ⟨q, vs, h1, h2, h3, by rw [upd_ne nq]; exact h4, h5⟩
      | ownI q dx c fs =>
        obtain ⟨C, vs, h1, h2, h3, h4, h5, h6, h7, h8, h9, h10⟩ := old
        have nq : q ≠ p := fun z => np rfl (by rw [h1, z])
        have nx : dx ≠ p := fun z => by
          rw [z, hH] at h9
          exact nd _ (Option.some.inj h9)
        exact ⟨C, vs, h1, h2, h3, h4, h5, h6, h7, by rw [upd_ne nq]; exact h8, by rw [upd_ne nx]; exact h9, h10⟩
  · by_cases hj : i = j
    · subst hj
      by_cases hk : i = k
      · exact absurd hk n
      · rw [List.getElem?_set_ne hk] at e'
        have z : some p = some q := by
          rw [hs] at hq
          cases hq
          rfl
        cases z
        exact s.dis i k b c' p n hb e' hm m' hs
    · rw [List.getElem?_set_ne hj] at e
      by_cases hk : i = k
      · subst hk
        exact s.dis j i c b q n e hb m hm hq
      · rw [List.getElem?_set_ne hk] at e'
        exact s.dis j k c c' q n e e' m m' hq
end

/-! ### readings by data -/
section
variable (K : PySem.W.Frag) (mg : Str → Option Value)
/-- of a value: known for good | a list that is read -/
def RepW (F H : Hp) (d : D) (v : V) : Prop := Rep K mg F d v ∨ ∃ ds p vs, d = .list ds ∧ v = .ref p ∧ SqL K H p vs ∧ RepAll K mg F ds vs
def Post {α β : Type} (Rp : Hp → Hp → α → β → Prop) (W : WX) (σ : St) (F H : Hp) (r : R α) (Q : β → Hp → Prop) : Prop := match r with
  | .bad => False
  | .ok d => ∀ v F' H', Go F H F' H' → Rp F' H' d v → Q v H'
  | .rs x => ∀ F' H' cls dd, Go F H F' H' → ExR K mg F' H' x cls dd → W cls dd σ H'
def RpE : Hp → Hp → D → V → Prop := fun F _ d v => Rep K mg F d v
def RpT : Hp → Hp → Bool → Bool → Prop := fun _ _ b c => b = c
def RepArgs (F H : Hp) : List (Bool × D) → List V → Prop
  | [], vs => vs = []
  | (w, d) :: ds, vs => ∃ v r, vs = v :: r ∧ (if w = true then RepW K mg F H d v else Rep K mg F d v) ∧ RepArgs F H ds r
def cG {α β : Type} (Rp : Hp → Hp → α → β → Prop) (W : WX) (ρ : List B) (r : R α) : St → Hp → (β → Hp → Prop) → Prop := fun σ H Q => ∃ F0 H0 F, RepS K mg F0 H0 F H σ ρ ∧ Post K mg Rp W σ F H r Q
end
/-- an expression: its value (for good), its value (perhaps a list that is only read), a test, arguments -/
def CE (X : Cx) (W : WX) (ρ : List B) (e : Expr) (r : R D) : Prop := PE X e (cG X.K X.mg (RpE X.K X.mg) W ρ r)
def CEw (X : Cx) (W : WX) (ρ : List B) (e : Expr) (r : R D) : Prop := PE X e (cG X.K X.mg (RepW X.K X.mg) W ρ r)
def CT (X : Cx) (W : WX) (ρ : List B) (e : Expr) (r : R Bool) : Prop := PT X e (cG X.K X.mg RpT W ρ r)
def CW (X : Cx) (W : WX) (ρ : List B) (e : Expr) (r : R Bool) : Prop := PW X e (cG X.K X.mg RpT W ρ r)
def CA (X : Cx) (W : WX) (ρ : List B) (es : List Expr) (r : R (List (Bool × D))) : Prop := PA X es (cG X.K X.mg (RepArgs X.K X.mg) W ρ r)

section
variable {K : PySem.W.Frag} {mg : Str → Option Value} {W : WX} {σ : St} {F H F1 H1 : Hp}
theorem Post.go {α β : Type} {Rp : Hp → Hp → α → β → Prop} {r : R α} {Q : β → Hp → Prop} (g : Go F H F1 H1) (h : Post K mg Rp W σ F H r Q) : Post K mg Rp W σ F1 H1 r Q := by
  cases r with
  | bad => exact h
  | ok d => exact fun v F' H' g' => h v F' H' (g.trans g')
  | rs x => exact fun F' H' cls dd g' => h F' H' cls dd (g.trans g')
/-- one after another -/
theorem Post.bind {α β α' β' : Type} {Rp : Hp → Hp → α → β → Prop} {Rp' : Hp → Hp → α' → β' → Prop} {r : R α} {k : α → R α'} {Q : β' → Hp → Prop} (h : Post K mg Rp' W σ F H (r.bind k) Q) {Q1 : β → Hp → Prop}
    (c : ∀ d v F1 H1, r = .ok d → Go F H F1 H1 → Rp F1 H1 d v → Post K mg Rp' W σ F1 H1 (k d) Q → Q1 v H1) : Post K mg Rp W σ F H r Q1 := by
  cases r with
  | bad => exact h
  | ok d => exact fun v F' H' g r => c d v F' H' rfl g r (Post.go g h)
  | rs x => exact h
/-- the end: a value for good -/
theorem Post.val {α β : Type} {Rp : Hp → Hp → α → β → Prop} {d : α} {v : β} {Q : β → Hp → Prop} {F' H' : Hp} (h : Post K mg Rp W σ F H (.ok d) Q) (g : Go F H F' H') (r : Rp F' H' d v) : Q v H' := h v F' H' g r
theorem RepW.go {d : D} {v : V} (g : Go F H F1 H1) (h : RepW K mg F H d v) : RepW K mg F1 H1 d v := by
  rcases h with h | ⟨ds, p, vs, h1, h2, h3, h4⟩
  · exact .inl (h.mono g.ef)
  · exact .inr ⟨ds, p, vs, h1, h2, ex_l g.eh h3, h4.mono g.ef⟩
theorem RepArgs.go : ∀ {ds : List (Bool × D)} {vs : List V}, Go F H F1 H1 → RepArgs K mg F H ds vs → RepArgs K mg F1 H1 ds vs
  | [], vs, g, h => h
  | (w, d) :: ds, vs, g, h => by
    obtain ⟨v, r, h1, h2, h3⟩ := h
    refine ⟨v, r, h1, ?_, RepArgs.go g h3⟩
    cases w with
    | true => exact RepW.go g h2
    | false => exact h2.mono g.ef
end

/-! ### expressions -/
section
variable {X : Cx} {W : WX} {ρ : List B} {a b c e : Expr} {ra rb rc : R D} {pos : Pos}
theorem CE.w (h : CE X W ρ e ra) : CEw X W ρ e ra := ⟨fun pins s σ H Q I ⟨F0, H0, F, S, p⟩ => PE.run h pins s σ H Q I ⟨F0, H0, F, S, by
  cases ra with
  | bad => exact p
  | ok d => exact fun v F' H' g r => p v F' H' g (.inl r)
  | rs x => exact p⟩⟩
theorem ce_const {v : V} {d : D} (h : PE X e (tC v)) (r : ∀ F, Rep X.K X.mg F d v) : CE X W ρ e (.ok d) := ⟨fun pins s σ H Q I ⟨F0, H0, F, S, p⟩ => h.run pins s σ H Q I (p v F H (Go.refl S.xt) (r F))⟩
theorem ce_int {i j} : CE X W ρ (.Constant (.int i) j pos) (.ok (.int i)) := ce_const pe_int fun _ => by simp only [Rep]
theorem ce_bl {i j} : CE X W ρ (.Constant (.bool i) j pos) (.ok (.bool i)) := ce_const pe_bl fun _ => by simp only [Rep]
theorem ce_str {i j} : CE X W ρ (.Constant (.str i) j pos) (.ok (.str i)) := ce_const pe_str fun _ => by simp only [Rep]
theorem ce_non {j} : CE X W ρ (.Constant .none j pos) (.ok .none) := ce_const pe_non fun _ => by simp only [Rep]
/-- a slot, for good -/
def getB (ρ : List B) (i : Nat) : R D := match ρ[i]? with
  | some (.dat d) => .ok d
  | _ => .bad
/-- a slot, to be read -/
def getW (ρ : List B) (i : Nat) : R D := match ρ[i]? with
  | some (.dat d) => .ok d
  | some (.wk ds) => .ok (.list ds)
  | some (.own ds) => .ok (.list ds)
  | _ => .bad
theorem getB_ok {i : Nat} {d : D} (h : getB ρ i = .ok d) : ρ[i]? = some (.dat d) := by
  unfold getB at h
  split at h
  · rename_i d' e
    cases h
    exact e
  · cases h
theorem ce_var (i : Nat) {x : Str} (hN : X.N[i]? = some x := by rfl) (hv : Vis X.env.scope x := by first | exact Or.inl rfl | exact Or.inr (Or.inl rfl) | exact Or.inr (Or.inr rfl)) (hd : (x == ("__debug__" : Str)) = false := by decide)
    (hcd : (x == ("__classdict__" : Str)) = false := by decide) : CE X W ρ (.Name x pos) (getB ρ i) := ⟨fun pins s σ H Q I ⟨F0, H0, F, S, p⟩ => (pe_var hN hv hd hcd).run pins s σ H Q I (by
  unfold getB at p
  split at p
  · rename_i d e
    obtain ⟨v, h1, h2⟩ := S.at_ i _ e
    exact ⟨v, h1, p v F H (Go.refl S.xt) h2⟩
  · exact p.elim)⟩
theorem cw_var (i : Nat) {x : Str} (hN : X.N[i]? = some x := by rfl) (hv : Vis X.env.scope x := by first | exact Or.inl rfl | exact Or.inr (Or.inl rfl) | exact Or.inr (Or.inr rfl)) (hd : (x == ("__debug__" : Str)) = false := by decide)
    (hcd : (x == ("__classdict__" : Str)) = false := by decide) : CEw X W ρ (.Name x pos) (getW ρ i) := ⟨fun pins s σ H Q I ⟨F0, H0, F, S, p⟩ => (pe_var hN hv hd hcd).run pins s σ H Q I (by
  unfold getW at p
  split at p
  · rename_i d e
    obtain ⟨v, h1, h2⟩ := S.at_ i _ e
    exact ⟨v, h1, p v F H (Go.refl S.xt) (.inl h2)⟩
  · rename_i d e
    obtain ⟨q, vs, h1, h2, h3⟩ := S.at_ i _ e
    exact ⟨_, h1, p _ F H (Go.refl S.xt) (.inr ⟨_, q, vs, rfl, rfl, ex_l S.go.eh h2, h3.mono S.go.ef⟩)⟩
  · rename_i d e
    obtain ⟨q, vs, h1, h2, h3, h4, h5⟩ := S.at_ i _ e
    exact ⟨_, h1, p _ F H (Go.refl S.xt) (.inr ⟨_, q, vs, rfl, rfl, SqL.of h4, h5⟩)⟩
  · exact p.elim)⟩

/-- an operator on two values -/
def OpOk (X : Cx) (r : R2) (f : D → D → R D) : Prop := ∀ (F H : Hp) (W : WX) (σ : St) (d e : D) (x y : V) (Q : VK), Ex F H → RepW X.K X.mg F H d x → RepW X.K X.mg F H e y → Post X.K X.mg (RpE X.K X.mg) W σ F H (f d e) Q → r x y H Q
theorem op2 {r : R2} {f : D → D → R D} {ta tb : TE} (ok : OpOk X r f) (ha : PE X a ta) (ea : ta = cG X.K X.mg (RepW X.K X.mg) W ρ ra) (eb : tb = cG X.K X.mg (RepW X.K X.mg) W ρ rb)
    {σ : St} {H : Hp} {Q : VK} (h : cG X.K X.mg (RpE X.K X.mg) W ρ (ra.bind fun x => rb.bind fun y => f x y) σ H Q) : tOp r ta tb σ H Q := by
  subst ea eb
  obtain ⟨F0, H0, F, S, p⟩ := h
  refine ⟨F0, H0, F, S, p.bind fun d v F1 H1 _ g r1 p1 => ?_⟩
  refine ⟨F0, H0, F1, S.step g, p1.bind fun d2 v2 F2 H2 _ g2 r2 p2 => ?_⟩
  exact ok F2 H2 W σ d d2 v v2 Q g2.xt (r1.go g2) r2 p2
theorem ce_op {op : Operator} {r : R2} {f : D → D → R D} (ho : OpR X (binaryOp op) r) (ok : OpOk X r f) (ha : CEw X W ρ a ra) (hb : CEw X W ρ b rb) : CE X W ρ (.BinOp a op b pos) (ra.bind fun x => rb.bind fun y => f x y) :=
  ⟨fun pins s σ H Q I h => (pe_op ho ha hb).run pins s σ H Q I (op2 ok ha rfl rfl h)⟩
theorem ce_cmp {op : CmpOp} {r : R2} {f : D → D → R D} (ho : OpR X (compareOp op) r) (ok : OpOk X r f) (ha : CEw X W ρ a ra) (hb : CEw X W ρ b rb) (hm : behindInMarks op b = false) : CE X W ρ (.Compare a [op] [b] pos) (ra.bind fun x => rb.bind fun y => f x y) :=
  ⟨fun pins s σ H Q I h => (pe_cmpR ho ha hb hm).run pins s σ H Q I (op2 ok ha rfl rfl h)⟩
def asB : D → R Bool
  | .bool b => .ok b
  | _ => .bad
/-- a value that is True or False, as a test -/
theorem ct_val (h : CE X W ρ e ra) (he : ∀ whole, isTrue e X.env whole = (do let v ← whole; standAt e.pos; holding [v] (truthy v)) := by intro _; rfl) : CT X W ρ e (ra.bind asB) :=
  ⟨fun pins s σ H Q I ⟨F0, H0, F, S, p⟩ => (pt_val h he).run pins s σ H Q I ⟨F0, H0, F, S, p.bind fun d v F1 H1 _ g r p1 => by
    unfold RpE at r
    cases d with
    | bool k =>
      simp only [Rep] at r
      exact ⟨k, r, p1 k F1 H1 (Go.refl g.xt) rfl⟩
    | _ => exact p1.elim⟩⟩
theorem ct_cmp {op : CmpOp} {r : R2} {f : D → D → R D} (ho : OpR X (compareOp op) r) (ok : OpOk X r f) (ha : CEw X W ρ a ra) (hb : CEw X W ρ b rb) (hm : behindInMarks op b = false) : CT X W ρ (.Compare a [op] [b] pos) ((ra.bind fun x => rb.bind fun y => f x y).bind asB) :=
  ⟨fun pins s σ H Q I ⟨F0, H0, F, S, p⟩ => (pt_cmpR ho ha hb hm).run pins s σ H Q I (op2 ok ha rfl rfl ⟨F0, H0, F, S, p.bind fun d v F1 H1 _ g r p1 => by
    unfold RpE at r
    cases d with
    | bool k =>
      simp only [Rep] at r
      exact ⟨k, r, p1 k F1 H1 (Go.refl g.xt) rfl⟩
    | _ => exact p1.elim⟩)⟩
theorem ct_not {r : R Bool} (h : CT X W ρ e r) : CT X W ρ (.UnaryOp .Not e pos) (r.map (! ·)) :=
  ⟨fun pins s σ H Q I ⟨F0, H0, F, S, p⟩ => (pt_not h).run pins s σ H Q I ⟨F0, H0, F, S, p.bind fun d v F1 H1 _ g r p1 => p1 _ F1 H1 (Go.refl g.xt) (by
    have r' : d = v := r
    subst r'
    rfl)⟩⟩
end
end RB


set_option Elab.async false
set_option linter.all false
set_option maxRecDepth 100000
set_option maxHeartbeats 2000000
namespace RB
open PySem L2
/-! ### operators -/
section
variable {X : Cx}
theorem repW_flat {K : PySem.W.Frag} {mg : Str → Option Value} {F H : Hp} {d : D} {v : V} (nl : ∀ ds, d ≠ .list ds) (h : RepW K mg F H d v) : Rep K mg F d v := by
  rcases h with h | ⟨ds, p, vs, h1, _⟩
  · exact h
  · exact absurd h1 (nl ds)
theorem repW_dp {K : PySem.W.Frag} {mg : Str → Option Value} {F H : Hp} {d : D} {v : V} (e : Ex F H) (s : SeqAt.shaped d = true) (h : RepW K mg F H d v) : Dp K H v d := by
  rcases h with h | ⟨ds, p, vs, rfl, rfl, h3, h4⟩
  · exact h.dp e d v (lay_of_shaped s)
  · exact .lst h3 (RepAll.dp e ds vs (by simpa [PyData.canLay0] using lay_of_shaped s) h4)
theorem repW_seq {K : PySem.W.Frag} {mg : Str → Option Value} {F H : Hp} {ds : List D} {v : V} (e : Ex F H) (h : RepW K mg F H (.list ds) v) : ∃ p vs, v = .ref p ∧ SqL K H p vs ∧ RepAll K mg F ds vs := by
  rcases h with h | ⟨es, p, vs, q, h2, h3, h4⟩
  · obtain ⟨a, vs, h1, h2, h3⟩ := rep_lst.mp h
    exact ⟨a, vs, h1, SqL.of (e _ _ h2), h3⟩
  · cases q
    exact ⟨p, vs, h2, h3, h4⟩
theorem repW_tup {K : PySem.W.Frag} {mg : Str → Option Value} {F H : Hp} {ds : List D} {v : V} (e : Ex F H) (h : RepW K mg F H (.tuple ds) v) : ∃ p vs, v = .ref p ∧ SqT K H p vs ∧ RepAll K mg F ds vs := by
  obtain ⟨a, vs, h1, h2, h3⟩ := rep_tup.mp (repW_flat (fun _ z => nomatch z) h)
  exact ⟨a, vs, h1, ex_t e h2, h3⟩
/-- a flat end that keeps the heap -/
theorem post_now {K : PySem.W.Frag} {mg : Str → Option Value} {W : WX} {σ : St} {F H : Hp} {d : D} {v : V} {Q : VK} (x : Ex F H) (h : Post K mg (RpE K mg) W σ F H (.ok d) Q) (r : Rep K mg F d v) : Q v H := h v F H (Go.refl x) r

def eqD (a b : D) : R D := if SeqAt.shaped a = true ∧ SeqAt.shaped b = true then .ok (.bool (PyData.eqv a b)) else .bad
def neD (a b : D) : R D := if SeqAt.shaped a = true ∧ SeqAt.shaped b = true then .ok (.bool (!PyData.eqv a b)) else .bad
theorem ok_eqD : OpOk X (rEqD X.K) eqD := fun F H W σ d e x y Q E r1 r2 p => by
  unfold eqD at p
  split at p
  · rename_i h
    exact ⟨d, e, repW_dp E h.1 r1, repW_dp E h.2 r2, h.1, h.2, post_now E p (by simp only [Rep])⟩
  · exact p.elim
theorem ok_neD : OpOk X (rNeD X.K) neD := fun F H W σ d e x y Q E r1 r2 p => by
  unfold neD at p
  split at p
  · rename_i h
    exact ⟨d, e, repW_dp E h.1 r1, repW_dp E h.2 r2, h.1, h.2, post_now E p (by simp only [Rep])⟩
  · exact p.elim
def intB (f : Int → Int → Bool) : D → D → R D
  | .int a, .int b => .ok (.bool (f a b))
  | _, _ => .bad
def intI (f : Int → Int → Int) : D → D → R D
  | .int a, .int b => .ok (.int (f a b))
  | _, _ => .bad
theorem ok_intB {f : Int → Int → Bool} : OpOk X (rI0 fun i j => .bl (f i j)) (intB f) := fun F H W σ d e x y Q E r1 r2 p => by
  unfold intB at p
  split at p
  · rename_i a b
    have q1 := rep_int.mp (repW_flat (fun _ z => nomatch z) r1)
    have q2 := rep_int.mp (repW_flat (fun _ z => nomatch z) r2)
    exact ⟨a, b, q1, q2, post_now E p (by simp only [Rep])⟩
  · exact p.elim
theorem ok_intI {f : Int → Int → Int} : OpOk X (rI0 fun i j => .int (f i j)) (intI f) := fun F H W σ d e x y Q E r1 r2 p => by
  unfold intI at p
  split at p
  · rename_i a b
    have q1 := rep_int.mp (repW_flat (fun _ z => nomatch z) r1)
    have q2 := rep_int.mp (repW_flat (fun _ z => nomatch z) r2)
    exact ⟨a, b, q1, q2, post_now E p (by simp only [Rep])⟩
  · exact p.elim
def intC (c : Int → Int → Bool) (f : Int → Int → Int) : D → D → R D
  | .int a, .int b => if c a b = true then .ok (.int (f a b)) else .bad
  | _, _ => .bad
theorem ok_intC {C : Int → Int → Prop} {c : Int → Int → Bool} {f : Int → Int → Int} (h : ∀ i j, c i j = true → C i j) : OpOk X (rI C fun i j => .int (f i j)) (intC c f) := fun F H W σ d e x y Q E r1 r2 p => by
  unfold intC at p
  split at p
  · rename_i a b
    split at p
    · rename_i hc
      have q1 := rep_int.mp (repW_flat (fun _ z => nomatch z) r1)
      have q2 := rep_int.mp (repW_flat (fun _ z => nomatch z) r2)
      exact ⟨a, b, q1, q2, h a b hc, post_now E p (by simp only [Rep])⟩
    · exact p.elim
  · exact p.elim
def addD : D → D → R D := intI (· + ·)
def subD : D → D → R D := intI (· - ·)
def mulD : D → D → R D := intC (fun i j => decide (i.natAbs.log2 + j.natAbs.log2 < 1000000)) (· * ·)
def modD : D → D → R D := intC (fun _ j => decide (j ≠ 0)) Int.fmod
def fdivD : D → D → R D := intC (fun _ j => decide (j ≠ 0) && decide (j.natAbs < 1073741824)) Int.fdiv
def powD : D → D → R D := intC (fun i j => decide (0 ≤ j) && decide (j ≤ 1000000) && decide (i.natAbs < 2 ^ 64)) (fun i j => i ^ j.toNat)
def addS : D → D → R D
  | .str a, .str b => if a.length + b.length ≤ sizeLine then .ok (.str (a ++ b)) else .bad
  | _, _ => .bad
theorem ok_addS : OpOk X (fun x y H Q => ∃ i j, x = .str i ∧ y = .str j ∧ i.length + j.length ≤ sizeLine ∧ Q (.str (i ++ j)) H) addS := fun F H W σ d e x y Q E r1 r2 p => by
  unfold addS at p
  split at p
  · rename_i a b
    split at p
    · rename_i hc
      exact ⟨a, b, rep_str.mp (repW_flat (fun _ z => nomatch z) r1), rep_str.mp (repW_flat (fun _ z => nomatch z) r2), hc, post_now E p (by simp only [Rep])⟩
    · exact p.elim
  · exact p.elim
/-- x in a list -/
def inD (neg : Bool) : D → D → R D
  | x, .list ds => if SeqAt.shaped x = true ∧ SeqAt.shaped (.list ds) = true then .ok (.bool (if neg = true then !ds.any fun z => PyData.eqv z x else ds.any fun z => PyData.eqv z x)) else .bad
  | _, _ => .bad
theorem ok_inD : OpOk X (rInD X.K) (inD false) := fun F H W σ d e x y Q E r1 r2 p => by
  unfold inD at p
  split at p
  · rename_i ds
    split at p
    · rename_i h
      exact ⟨d, ds, repW_dp E h.1 r1, repW_dp E h.2 r2, h.1, h.2, post_now E p (by simp [Rep])⟩
    · exact p.elim
  · exact p.elim
theorem ok_notInD : OpOk X (rNotInD X.K) (inD true) := fun F H W σ d e x y Q E r1 r2 p => by
  unfold inD at p
  split at p
  · rename_i ds
    split at p
    · rename_i h
      exact ⟨d, ds, repW_dp E h.1 r1, repW_dp E h.2 r2, h.1, h.2, post_now E p (by simp [Rep])⟩
    · exact p.elim
  · exact p.elim
/-- a text in a tuple of texts -/
def strsOf : List D → Option (List Str)
  | [] => some []
  | .str s :: r => (strsOf r).map (s :: ·)
  | _ :: _ => none
theorem strsOf_rep {K : PySem.W.Frag} {mg : Str → Option Value} {F : Hp} : ∀ {ds : List D} {vs : List V} {ss : List Str}, strsOf ds = some ss → RepAll K mg F ds vs → vs = ss.map V.str
  | [], vs, ss, h, r => by
    simp only [strsOf, Option.some.injEq] at h
    subst h
    simp only [RepAll] at r
    simpa using r
  | d :: ds, vs, ss, h, r => by
    cases d with
    | str s =>
      simp only [strsOf, Option.map_eq_some_iff] at h
      obtain ⟨ss', h1, rfl⟩ := h
      simp only [RepAll, Rep] at r
      obtain ⟨v, r', rfl, rfl, h3⟩ := r
      rw [strsOf_rep h1 h3]
      rfl
    | _ => simp [strsOf] at h
def inT (neg : Bool) : D → D → R D
  | .str x, .tuple ds => match strsOf ds with
    | some ss => .ok (.bool (if neg = true then !ss.any fun z => z == x else ss.any fun z => z == x))
    | none => .bad
  | _, _ => .bad
theorem ok_inT {neg : Bool} : OpOk X (rIn X.K neg) (inT neg) := fun F H W σ d e x y Q E r1 r2 p => by
  unfold inT at p
  split at p
  · rename_i x' ds
    split at p
    · rename_i ss hs
      have q1 := rep_str.mp (repW_flat (fun _ z => nomatch z) r1)
      obtain ⟨a, vs, rfl, h2, h3⟩ := repW_tup E r2
      have q3 := strsOf_rep hs h3
      subst q1 q3
      refine ⟨a, _, rfl, .inr h2, rfl, ?_, ?_⟩
      · simp [List.all_map, flatV]
      · have e : inV (V.str x') (ss.map V.str) = ss.any fun z => z == x' := by
          unfold inV
          rw [List.any_map]
          rfl
        rw [e]
        exact post_now E p (by simp only [Rep])
    · exact p.elim
  · exact p.elim
/-- a sign in a text -/
def inS (neg : Bool) : D → D → R D
  | .str x, .str z => match x.cps.toList with
    | [c] => .ok (.bool (if neg = true then !decide (c ∈ z.cps.toList) else decide (c ∈ z.cps.toList)))
    | _ => .bad
  | _, _ => .bad
theorem str_one {x : Str} {c : Nat} (h : x.cps.toList = [c]) : x = ⟨#[c]⟩ := by
  cases x with
  | mk cps =>
    have : cps = #[c] := by
      apply Array.ext'
      simpa using h
    rw [this]
theorem ok_inS : OpOk X (fun x y H Q => ∃ (c : Nat) (z : Str), x = .str ⟨#[c]⟩ ∧ y = .str z ∧ Q (.bl (decide (c ∈ z.cps.toList))) H) (inS false) := fun F H W σ d e x y Q E r1 r2 p => by
  unfold inS at p
  split at p
  · rename_i x' z
    split at p
    · rename_i c hc
      have q1 := rep_str.mp (repW_flat (fun _ z => nomatch z) r1)
      have q2 := rep_str.mp (repW_flat (fun _ z => nomatch z) r2)
      exact ⟨c, z, by rw [q1, str_one hc], q2, post_now E p (by simp [Rep])⟩
    · exact p.elim
  · exact p.elim
theorem ok_notInS : OpOk X (fun x y H Q => ∃ (c : Nat) (z : Str), x = .str ⟨#[c]⟩ ∧ y = .str z ∧ Q (.bl (!decide (c ∈ z.cps.toList))) H) (inS true) := fun F H W σ d e x y Q E r1 r2 p => by
  unfold inS at p
  split at p
  · rename_i x' z
    split at p
    · rename_i c hc
      have q1 := rep_str.mp (repW_flat (fun _ z => nomatch z) r1)
      have q2 := rep_str.mp (repW_flat (fun _ z => nomatch z) r2)
      exact ⟨c, z, by rw [q1, str_one hc], q2, post_now E p (by simp [Rep])⟩
    · exact p.elim
  · exact p.elim
/-- xs[i], t[i], s[i] -/
def ixD : D → D → R D
  | .list ds, .int i => R.of (atI ds i)
  | .tuple ds, .int i => R.of (atI ds i)
  | .str z, .int i => if z.length ≤ sizeLine then (R.of (atI z.cps.toList i)).map fun c => .str ⟨#[c]⟩ else .bad
  | _, _ => .bad
theorem RepAll.atI {K : PySem.W.Frag} {mg : Str → Option Value} {F : Hp} {ds : List D} {vs : List V} {i : Int} {d : D} (h : RepAll K mg F ds vs) (e : atI ds i = some d) : ∃ v, L2.atI vs i = some v ∧ Rep K mg F d v := by
  unfold L2.atI at e ⊢
  rw [h.length]
  cases q : ixN ds.length i with
  | none =>
    rw [q] at e
    cases e
  | some j =>
    rw [q] at e
    exact h.get e
theorem ok_ixD : OpOk X (rIx X.K) ixD := fun F H W σ d e x y Q E r1 r2 p => by
  unfold ixD at p
  split at p
  · rename_i ds i
    have q2 := rep_int.mp (repW_flat (fun _ z => nomatch z) r2)
    obtain ⟨a, vs, rfl, h2, h3⟩ := repW_seq E r1
    cases q : atI ds i with
    | none =>
      rw [q] at p
      exact p.elim
    | some d =>
      rw [q] at p
      obtain ⟨v, e1, e2⟩ := h3.atI q
      exact .inl ⟨a, vs, i, v, rfl, q2, h2, e1, post_now E p e2⟩
  · rename_i ds i
    have q2 := rep_int.mp (repW_flat (fun _ z => nomatch z) r2)
    obtain ⟨a, vs, rfl, h2, h3⟩ := repW_tup E r1
    cases q : atI ds i with
    | none =>
      rw [q] at p
      exact p.elim
    | some d =>
      rw [q] at p
      obtain ⟨v, e1, e2⟩ := h3.atI q
      exact .inr (.inl ⟨a, vs, i, v, rfl, q2, h2, e1, post_now E p e2⟩)
  · rename_i z i
    split at p
    · rename_i hz
      have q1 := rep_str.mp (repW_flat (fun _ z => nomatch z) r1)
      have q2 := rep_int.mp (repW_flat (fun _ z => nomatch z) r2)
      cases q : atI z.cps.toList i with
      | none =>
        rw [q] at p
        exact p.elim
      | some c =>
        rw [q] at p
        exact .inr (.inr ⟨z, i, c, q1, q2, hz, q, post_now E p (by simp only [Rep])⟩)
    · exact p.elim
  · exact p.elim
variable {W : WX} {ρ : List B} {a b c e : Expr} {ra rb rc : R D} {pos : Pos}
theorem ce_ix (ha : CEw X W ρ a ra) (hb : CE X W ρ b rb) (hs : PlainIx b := by exact fun _ _ => rfl) : CE X W ρ (.Subscript a b pos) (ra.bind fun x => rb.bind fun y => ixD x y) :=
  ⟨fun pins s σ H Q I h => (pe_ix ix_seq ha hb.w hs).run pins s σ H Q I (op2 ok_ixD ha rfl rfl h)⟩

/-! ### and, or, chains, x if t else y -/
def bothB (ra rb : R D) : R D := ra.bind fun x => (asB x).bind fun k => if k = true then rb else .ok (.bool false)
def eitherB (ra rb : R D) : R D := ra.bind fun x => (asB x).bind fun k => if k = true then .ok (.bool true) else rb
theorem rep_asB {K : PySem.W.Frag} {mg : Str → Option Value} {F : Hp} {d : D} {k : Bool} {v : V} (h : asB d = .ok k) (r : Rep K mg F d v) : v = .bl k := by
  cases d with
  | bool b =>
    simp only [asB, R.ok.injEq] at h
    subst h
    simpa [Rep] using r
  | _ => cases h
theorem asB_cases {K : PySem.W.Frag} {mg : Str → Option Value} {α β : Type} {Rp : Hp → Hp → α → β → Prop} {F F' H : Hp} {W : WX} {σ : St} {d : D} {v : V} {k : Bool → R α} {Q : β → Hp → Prop} (r : Rep K mg F' d v) (p : Post K mg Rp W σ F H ((asB d).bind k) Q) :
    ∃ b, v = .bl b ∧ Post K mg Rp W σ F H (k b) Q := by
  cases d with
  | bool b => exact ⟨b, by simpa [Rep] using r, p⟩
  | _ => exact p.elim
theorem ce_one {op} (h : CE X W ρ a ra) : CE X W ρ (.BoolOp op [a] pos) ra := pe_one h
theorem ce_and {rest : List Expr} (ha : CE X W ρ a ra) (hb : CE X W ρ (.BoolOp .And (b :: rest) pos) rb) : CE X W ρ (.BoolOp .And (a :: b :: rest) pos) (bothB ra rb) :=
  ⟨fun pins s σ H Q I ⟨F0, H0, F, S, p⟩ => (pe_and ha hb).run pins s σ H Q I ⟨F0, H0, F, S, p.bind fun d v F1 H1 _ g r p1 => by
    obtain ⟨k, e, p2⟩ := asB_cases r p1
    refine ⟨k, e, ?_⟩
    cases k with
    | true =>
      rw [if_pos rfl] at p2 ⊢
      exact ⟨F0, H0, F1, S.step g, p2⟩
    | false =>
      rw [if_neg Bool.false_ne_true] at p2 ⊢
      exact post_now g.xt p2 (by simp only [Rep])⟩⟩
theorem ce_or {rest : List Expr} (ha : CE X W ρ a ra) (hb : CE X W ρ (.BoolOp .Or (b :: rest) pos) rb) : CE X W ρ (.BoolOp .Or (a :: b :: rest) pos) (eitherB ra rb) :=
  ⟨fun pins s σ H Q I ⟨F0, H0, F, S, p⟩ => (pe_or ha hb).run pins s σ H Q I ⟨F0, H0, F, S, p.bind fun d v F1 H1 _ g r p1 => by
    obtain ⟨k, e, p2⟩ := asB_cases r p1
    refine ⟨k, e, ?_⟩
    cases k with
    | true =>
      rw [if_pos rfl] at p2 ⊢
      exact post_now g.xt p2 (by simp only [Rep])
    | false =>
      rw [if_neg Bool.false_ne_true] at p2 ⊢
      exact ⟨F0, H0, F1, S.step g, p2⟩⟩⟩
theorem ce_not (ha : CE X W ρ a ra) : CE X W ρ (.UnaryOp .Not a pos) (ra.bind fun x => (asB x).map fun k => .bool (!k)) :=
  ⟨fun pins s σ H Q I ⟨F0, H0, F, S, p⟩ => (pe_not ha).run pins s σ H Q I ⟨F0, H0, F, S, p.bind fun d v F1 H1 _ g r p1 => by
    obtain ⟨k, e, p2⟩ := asB_cases r p1
    exact ⟨k, e, post_now g.xt p2 (by simp only [Rep])⟩⟩⟩
def bothT (ra rb : R Bool) : R Bool := ra.bind fun k => if k = true then rb else .ok false
def eitherT (ra rb : R Bool) : R Bool := ra.bind fun k => if k = true then .ok true else rb
theorem cw_one_and {r : R Bool} (h : CT X W ρ a r) : CW X W ρ (.BoolOp .And [a] pos) r := pw_and1 h
theorem cw_one_or {r : R Bool} (h : CT X W ρ a r) : CW X W ρ (.BoolOp .Or [a] pos) r := pw_or1 h
theorem cw_and {rest : List Expr} {r1 r2 : R Bool} (ha : CT X W ρ a r1) (hb : CW X W ρ (.BoolOp .And (b :: rest) pos) r2) : CW X W ρ (.BoolOp .And (a :: b :: rest) pos) (bothT r1 r2) :=
  ⟨fun wh pins s σ H Q I ⟨F0, H0, F, S, p⟩ => (pw_and ha hb).run wh pins s σ H Q I ⟨F0, H0, F, S, p.bind fun d v F1 H1 _ g r p1 => by
    have r' : d = v := r
    subst r'
    cases d with
    | true => exact ⟨F0, H0, F1, S.step g, p1⟩
    | false => exact p1 false F1 H1 (Go.refl g.xt) rfl⟩⟩
theorem cw_or {rest : List Expr} {r1 r2 : R Bool} (ha : CT X W ρ a r1) (hb : CW X W ρ (.BoolOp .Or (b :: rest) pos) r2) : CW X W ρ (.BoolOp .Or (a :: b :: rest) pos) (eitherT r1 r2) :=
  ⟨fun wh pins s σ H Q I ⟨F0, H0, F, S, p⟩ => (pw_or ha hb).run wh pins s σ H Q I ⟨F0, H0, F, S, p.bind fun d v F1 H1 _ g r p1 => by
    have r' : d = v := r
    subst r'
    cases d with
    | true => exact p1 true F1 H1 (Go.refl g.xt) rfl
    | false => exact ⟨F0, H0, F1, S.step g, p1⟩⟩⟩
theorem cw_pt {r : R Bool} (h : CW X W ρ e r) : CT X W ρ e r := PW.pt h
theorem ce_if {t : Expr} {r : R Bool} (ht : CT X W ρ t r) (ha : CE X W ρ a ra) (hb : CE X W ρ b rb) : CE X W ρ (.IfExp t a b pos) (r.bind fun k => if k = true then ra else rb) :=
  ⟨fun pins s σ H Q I ⟨F0, H0, F, S, p⟩ => (pe_ifExp ht ha hb).run pins s σ H Q I ⟨F0, H0, F, S, p.bind fun d v F1 H1 _ g r p1 => by
    have r' : d = v := r
    subst r'
    cases d with
    | true => exact ⟨F0, H0, F1, S.step g, p1⟩
    | false => exact ⟨F0, H0, F1, S.step g, p1⟩⟩⟩
/-- a < b < c -/
def chainD (f g : D → D → R D) (ra rb rc : R D) : R D := ra.bind fun x => rb.bind fun y => (f x y).bind fun z => (asB z).bind fun k => if k = true then rc.bind fun u => g y u else .ok (.bool false)
theorem chain_t {r r' : R2} {f g : D → D → R D} {σ : St} {H : Hp} {Q : VK} (ok : OpOk X r f) (ok' : OpOk X r' g) (h : cG X.K X.mg (RpE X.K X.mg) W ρ (chainD f g ra rb rc) σ H Q) :
    tChain r r' (cG X.K X.mg (RepW X.K X.mg) W ρ ra) (cG X.K X.mg (RepW X.K X.mg) W ρ rb) (cG X.K X.mg (RepW X.K X.mg) W ρ rc) σ H Q := by
  obtain ⟨F0, H0, F, S, p⟩ := h
  refine ⟨F0, H0, F, S, p.bind fun d v F1 H1 _ g1 r1 p1 => ?_⟩
  refine ⟨F0, H0, F1, S.step g1, p1.bind fun d2 v2 F2 H2 _ g2 r2 p2 => ?_⟩
  refine ok F2 H2 W σ d d2 v v2 _ g2.xt (r1.go g2) r2 (p2.bind fun z u F3 H3 _ g3 r3 p3 => ?_)
  obtain ⟨k, e, p4⟩ := asB_cases r3 p3
  refine ⟨k, e, ?_⟩
  have S3 := (S.step g1).step (g2.trans g3)
  cases k with
  | true =>
    rw [if_pos rfl] at p4 ⊢
    refine ⟨F0, H0, F3, S3, p4.bind fun d5 v5 F5 H5 _ g5 r5 p5 => ?_⟩
    exact ok' F5 H5 W σ d2 d5 v2 v5 Q g5.xt (r2.go (g3.trans g5)) r5 p5
  | false =>
    rw [if_neg Bool.false_ne_true] at p4 ⊢
    exact post_now g3.xt p4 (by simp only [Rep])
theorem ce_chain {op op' : CmpOp} {r r' : R2} {f g : D → D → R D} (ho : OpR X (compareOp op) r) (ok : OpOk X r f) (ho' : OpR X (compareOp op') r') (ok' : OpOk X r' g) (ha : CEw X W ρ a ra) (hb : CEw X W ρ b rb) (hc : CEw X W ρ c rc)
    (hm : lastMarks [op, op'] [b, c] = false := by with_unfolding_all rfl) : CE X W ρ (.Compare a [op, op'] [b, c] pos) (chainD f g ra rb rc) :=
  ⟨fun pins s σ H Q I h => (pe_chain ho ho' ha hb hc hm).run pins s σ H Q I (chain_t ok ok' h)⟩
theorem ct_chain {op op' : CmpOp} {r r' : R2} {f g : D → D → R D} (ho : OpR X (compareOp op) r) (ok : OpOk X r f) (ho' : OpR X (compareOp op') r') (ok' : OpOk X r' g) (ha : CEw X W ρ a ra) (hb : CEw X W ρ b rb) (hc : CEw X W ρ c rc)
    (hm : lastMarks [op, op'] [b, c] = false := by with_unfolding_all rfl) : CT X W ρ (.Compare a [op, op'] [b, c] pos) ((chainD f g ra rb rc).bind asB) :=
  ⟨fun pins s σ H Q I ⟨F0, H0, F, S, p⟩ => (pt_chain ho ho' ha hb hc hm).run pins s σ H Q I (chain_t ok ok' ⟨F0, H0, F, S, p.bind fun d v F1 H1 _ g r p1 => by
    cases d with
    | bool k => exact ⟨k, by simpa [RpE, Rep] using r, p1 k F1 H1 (Go.refl g.xt) rfl⟩
    | _ => exact p1.elim⟩)⟩

/-! ### arguments, displays -/
theorem ca_nil : CA X W ρ [] (.ok []) := ⟨fun pos pins s σ H Q I ⟨F0, H0, F, S, p⟩ => pa_nil.run pos pins s σ H Q I (p [] F H (Go.refl S.xt) rfl)⟩
theorem ca_cons {es : List Expr} {r : R (List (Bool × D))} (h : CE X W ρ e ra) (hr : CA X W ρ es r) (hs : starEach (e :: es) X.env = (false, eval e X.env) :: starEach es X.env := by rfl) : CA X W ρ (e :: es) (ra.bind fun x => r.map fun xs => (false, x) :: xs) :=
  ⟨fun pos pins s σ H Q I ⟨F0, H0, F, S, p⟩ => (pa_cons h hr hs).run pos pins s σ H Q I ⟨F0, H0, F, S, p.bind fun d v F1 H1 _ g r1 p1 =>
    ⟨F0, H0, F1, S.step g, p1.bind fun ds vs F2 H2 _ g2 r2 p2 => p2 _ F2 H2 (Go.refl g2.xt) ⟨v, vs, rfl, Rep.mono g2.ef _ _ r1, r2⟩⟩⟩⟩
theorem ca_consW {es : List Expr} {r : R (List (Bool × D))} (h : CEw X W ρ e ra) (hr : CA X W ρ es r) (hs : starEach (e :: es) X.env = (false, eval e X.env) :: starEach es X.env := by rfl) : CA X W ρ (e :: es) (ra.bind fun x => r.map fun xs => (true, x) :: xs) :=
  ⟨fun pos pins s σ H Q I ⟨F0, H0, F, S, p⟩ => (pa_cons h hr hs).run pos pins s σ H Q I ⟨F0, H0, F, S, p.bind fun d v F1 H1 _ g r1 p1 =>
    ⟨F0, H0, F1, S.step g, p1.bind fun ds vs F2 H2 _ g2 r2 p2 => p2 _ F2 H2 (Go.refl g2.xt) ⟨v, vs, rfl, RepW.go g2 r1, r2⟩⟩⟩⟩
def unfl (xs : List (Bool × D)) : R (List D) := if xs.all (fun p => !p.1) = true then .ok (xs.map (·.2)) else .bad
theorem RepArgs.all {K : PySem.W.Frag} {mg : Str → Option Value} {F H : Hp} : ∀ {xs : List (Bool × D)} {vs : List V}, xs.all (fun p => !p.1) = true → RepArgs K mg F H xs vs → RepAll K mg F (xs.map (·.2)) vs
  | [], vs, _, h => by simpa [RepArgs, RepAll] using h
  | (w, d) :: xs, vs, e, h => by
    simp only [List.all_cons, Bool.and_eq_true] at e
    obtain ⟨v, r, h1, h2, h3⟩ := h
    cases w with
    | true => exact absurd e.1 (by simp)
    | false =>
      simp only [List.map_cons, RepAll]
      exact ⟨v, r, h1, h2, RepArgs.all e.2 h3⟩
def small (ds : List D) : R (List D) := if ds.length ≤ 100000 then .ok ds else .bad
theorem small_ok {n : Nat} (h : n ≤ 100000) : n ≤ sizeLine := Nat.le_trans h (by decide)

/-- a NEW list -/
def PostF (K : PySem.W.Frag) (mg : Str → Option Value) (W : WX) (σ : St) (F H : Hp) (r : R (List D)) (Q : VK) : Prop := match r with
  | .bad => False
  | .ok ds => ∀ p vs F' H1, Go F H F' H1 → H1 p = none → RepAll K mg F' ds vs → Q (.ref p) (upd H1 p (.lst vs))
  | .rs x => ∀ F' H' cls dd, Go F H F' H' → ExR K mg F' H' x cls dd → W cls dd σ H'
def cF (K : PySem.W.Frag) (mg : Str → Option Value) (W : WX) (ρ : List B) (r : R (List D)) : TE := fun σ H Q => ∃ F0 H0 F, RepS K mg F0 H0 F H σ ρ ∧ PostF K mg W σ F H r Q
def CF (X : Cx) (W : WX) (ρ : List B) (e : Expr) (r : R (List D)) : Prop := PE X e (cF X.K X.mg W ρ r)
theorem CF.ce {r : R (List D)} (h : CF X W ρ a r) : CE X W ρ a (r.map .list) := ⟨fun pins s σ H Q I ⟨F0, H0, F, S, p⟩ => PE.run h pins s σ H Q I ⟨F0, H0, F, S, by
  cases r with
  | bad => exact p
  | rs x => exact p
  | ok ds =>
    intro q vs F' H1 g hq r
    have g2 := g.trans (Go.alloc (o := .lst vs) g.xt hq)
    exact p _ _ _ g2 (rep_lst.mpr ⟨q, vs, rfl, upd_same, r.mono (Ex.new (g.xt.fresh hq))⟩)⟩⟩
theorem PostF.go {K : PySem.W.Frag} {mg : Str → Option Value} {σ : St} {F H F1 H1 : Hp} {r : R (List D)} {Q : VK} (g : Go F H F1 H1) (h : PostF K mg W σ F H r Q) : PostF K mg W σ F1 H1 r Q := by
  cases r with
  | bad => exact h
  | ok d => exact fun p vs F' H' g' => h p vs F' H' (g.trans g')
  | rs x => exact fun F' H' cls dd g' => h F' H' cls dd (g.trans g')
/-- from a bind to a new list -/
theorem PostF.bind {K : PySem.W.Frag} {mg : Str → Option Value} {α β : Type} {Rp : Hp → Hp → α → β → Prop} {σ : St} {F H : Hp} {r : R α} {k : α → R (List D)} {Q : VK} (h : PostF K mg W σ F H (r.bind k) Q) {Q1 : β → Hp → Prop}
    (c : ∀ d v F1 H1, r = .ok d → Go F H F1 H1 → Rp F1 H1 d v → PostF K mg W σ F1 H1 (k d) Q → Q1 v H1) : Post K mg Rp W σ F H r Q1 := by
  cases r with
  | bad => exact h
  | ok d => exact fun v F' H' g r => c d v F' H' rfl g r (PostF.go g h)
  | rs x => exact h
theorem cf_lst {es : List Expr} {r : R (List (Bool × D))} (h : CA X W ρ es r) : CF X W ρ (.List es pos) (r.bind fun xs => (unfl xs).bind small) :=
  ⟨fun pins s σ H Q I ⟨F0, H0, F, S, p⟩ => (pe_lst h).run pins s σ H Q I ⟨F0, H0, F, S, p.bind fun ds vs F1 H1 _ g r p => by
    unfold unfl at p
    split at p
    · rename_i ha
      have ra := RepArgs.all ha r
      unfold small at p
      simp only [R.bind_ok] at p
      split at p
      · rename_i hs
        have hl := ra.length
        exact ⟨small_ok (by rw [hl]; exact hs), fun q hq => p q vs F1 H1 (Go.refl g.xt) hq ra⟩
      · exact p.elim
    · exact p.elim⟩⟩
theorem ce_tup {es : List Expr} {x1} {r : R (List (Bool × D))} (h : CA X W ρ es r) : CE X W ρ (.Tuple es x1 pos) (r.bind fun xs => (unfl xs).bind fun ds => (small ds).map .tuple) :=
  ⟨fun pins s σ H Q I ⟨F0, H0, F, S, p⟩ => (pe_tup h).run pins s σ H Q I ⟨F0, H0, F, S, p.bind fun ds vs F1 H1 _ g r p => by
    unfold unfl at p
    split at p
    · rename_i ha
      have ra := RepArgs.all ha r
      unfold small at p
      simp only [R.bind_ok] at p
      split at p
      · rename_i hs
        have hl := ra.length
        exact ⟨small_ok (by rw [hl]; exact hs), fun q hq => p _ _ _ (Go.alloc g.xt hq) (rep_tup.mpr ⟨q, vs, rfl, SqT.of upd_same, ra.mono (Ex.new (g.xt.fresh hq))⟩)⟩
      · exact p.elim
    · exact p.elim⟩⟩

/-! ### slices -/
def cutG {α : Type} (xs : List α) (lo hi : Option Int) : List α := (xs.drop (HT.sIx xs.length 0 lo)).take (HT.sIx xs.length xs.length hi - HT.sIx xs.length 0 lo)
def CO (X : Cx) (W : WX) (ρ : List B) (e : Option Expr) (r : R (Option Int)) : Prop := PO X e (cG X.K X.mg (fun _ _ (a b : Option Int) => a = b) W ρ r)
def asI : D → R (Option Int)
  | .int i => .ok (some i)
  | _ => .bad
theorem co_none : CO X W ρ none (.ok none) := ⟨fun pins s σ H Q I ⟨F0, H0, F, S, p⟩ => po_none.run pins s σ H Q I (p none F H (Go.refl S.xt) rfl)⟩
theorem co_some (h : CE X W ρ a ra) : CO X W ρ (some a) (ra.bind asI) := ⟨fun pins s σ H Q I ⟨F0, H0, F, S, p⟩ => (po_some h).run pins s σ H Q I ⟨F0, H0, F, S, p.bind fun d v F1 H1 _ g r p1 => by
  unfold RpE at r
  cases d with
  | int i => exact ⟨i, by simpa [Rep] using r, p1 _ F1 H1 (Go.refl g.xt) rfl⟩
  | _ => exact p1.elim⟩⟩
def lstOf : D → R (List D)
  | .list ds => .ok ds
  | _ => .bad
theorem RepAll.cut {K : PySem.W.Frag} {mg : Str → Option Value} {F : Hp} {ds : List D} {vs : List V} (h : RepAll K mg F ds vs) (lo hi : Option Int) : RepAll K mg F (cutG ds lo hi) (cutV vs lo hi) := by
  unfold cutG cutV
  rw [h.length]
  exact (h.drop _).take _
theorem cf_slice {lo hi : Option Expr} {p2 : Pos} {rl rh : R (Option Int)} (ha : CEw X W ρ a ra) (hl : CO X W ρ lo rl) (hh : CO X W ρ hi rh) : CF X W ρ (.Subscript a (.Slice lo hi none p2) pos) (ra.bind fun x => rl.bind fun l => rh.bind fun h => (lstOf x).map fun ds => cutG ds l h) :=
  ⟨fun pins s σ H Q I ⟨F0, H0, F, S, p⟩ => (pe_slice sl_list ha hl hh).run pins s σ H Q I ⟨F0, H0, F, S, p.bind fun d v F1 H1 _ g r p1 => ⟨F0, H0, F1, S.step g, p1.bind fun l l' F2 H2 _ g2 e2 p2 => ⟨F0, H0, F2, (S.step g).step g2, p2.bind fun u u' F3 H3 _ g3 e3 p3 => by
    subst e2 e3
    have r' := RepW.go (g2.trans g3) r
    cases d with
    | list ds =>
      obtain ⟨q, vs, rfl, h2, h3⟩ := repW_seq g3.xt r'
      exact ⟨q, vs, rfl, h2, fun t ht => p3 t _ F3 H3 (Go.refl g3.xt) ht (h3.cut l u)⟩
    | _ => exact p3.elim⟩⟩⟩⟩
def cutTD (x : D) (l h : Option Int) : R D := match x with
  | .tuple ds => .ok (.tuple (cutG ds l h))
  | _ => .bad
theorem cutG_whole {α : Type} {ds : List α} {l u : Option Int} (hn : HT.sIx ds.length 0 l = 0 ∧ HT.sIx ds.length ds.length u = ds.length) : cutG ds l u = ds := by
  unfold cutG
  rw [hn.1, hn.2, List.drop_zero, Nat.sub_zero, List.take_length]
theorem ce_sliceT {lo hi : Option Expr} {p2 : Pos} {rl rh : R (Option Int)} (ha : CEw X W ρ a ra) (hl : CO X W ρ lo rl) (hh : CO X W ρ hi rh) : CE X W ρ (.Subscript a (.Slice lo hi none p2) pos) (ra.bind fun x => rl.bind fun l => rh.bind fun h => cutTD x l h) :=
  ⟨fun pins s σ H Q I ⟨F0, H0, F, S, p⟩ => (pe_slice sl_tupA ha hl hh).run pins s σ H Q I ⟨F0, H0, F, S, p.bind fun d v F1 H1 _ g r p1 => ⟨F0, H0, F1, S.step g, p1.bind fun l l' F2 H2 _ g2 e2 p2 => ⟨F0, H0, F2, (S.step g).step g2, p2.bind fun u u' F3 H3 _ g3 e3 p3 => by
    subst e2 e3
    have r' := RepW.go (g2.trans g3) r
    unfold cutTD at p3
    split at p3
    · obtain ⟨q, vs, rfl, hF, h3⟩ := rep_tup.mp (repW_flat (fun _ z => nomatch z) r')
      have h2 := ex_t g3.xt hF
      refine ⟨q, vs, rfl, h2, fun hn => ?_, fun hn t ht => p3 _ _ _ (Go.alloc g3.xt ht) (rep_tup.mpr ⟨t, _, rfl, SqT.of upd_same, (h3.cut l u).mono (Ex.new (g3.xt.fresh ht))⟩)⟩
      rw [h3.length] at hn
      have e := cutG_whole hn
      exact p3 _ _ _ (Go.refl g3.xt) (by rw [e]; exact rep_tup.mpr ⟨q, vs, rfl, hF, h3⟩)
    · exact p3.elim⟩⟩⟩⟩
def cutSD (x : D) (l h : Option Int) : R D := match x with
  | .str z => if z.length ≤ sizeLine then .ok (.str (cutS z l h)) else .bad
  | _ => .bad
theorem ce_sliceS {lo hi : Option Expr} {p2 : Pos} {rl rh : R (Option Int)} (ha : CEw X W ρ a ra) (hl : CO X W ρ lo rl) (hh : CO X W ρ hi rh) : CE X W ρ (.Subscript a (.Slice lo hi none p2) pos) (ra.bind fun x => rl.bind fun l => rh.bind fun h => cutSD x l h) :=
  ⟨fun pins s σ H Q I ⟨F0, H0, F, S, p⟩ => (pe_slice sl_str ha hl hh).run pins s σ H Q I ⟨F0, H0, F, S, p.bind fun d v F1 H1 _ g r p1 => ⟨F0, H0, F1, S.step g, p1.bind fun l l' F2 H2 _ g2 e2 p2 => ⟨F0, H0, F2, (S.step g).step g2, p2.bind fun u u' F3 H3 _ g3 e3 p3 => by
    subst e2 e3
    have r' := RepW.go (g2.trans g3) r
    cases d with
    | str z =>
      simp only [cutSD] at p3
      split at p3
      · rename_i hz
        exact ⟨z, rep_str.mp (repW_flat (fun _ z => nomatch z) r'), hz, post_now g3.xt p3 (by simp only [Rep])⟩
      · exact p3.elim
    | _ => exact p3.elim⟩⟩⟩⟩
/-- xs + ys -/
theorem cf_cat (ha : CE X W ρ a ra) (hb : CE X W ρ b rb) : CF X W ρ (.BinOp a .Add b pos) (ra.bind fun x => rb.bind fun y => (lstOf x).bind fun xs => (lstOf y).bind fun ys => small (xs ++ ys)) :=
  ⟨fun pins s σ H Q I ⟨F0, H0, F, S, p⟩ => (pe_op op_cat ha hb).run pins s σ H Q I ⟨F0, H0, F, S, p.bind fun d v F1 H1 _ g r p1 => ⟨F0, H0, F1, S.step g, p1.bind fun d2 v2 F2 H2 _ g2 r2 p2 => by
    unfold RpE at r r2
    cases d with
    | list ds =>
      cases d2 with
      | list es =>
        obtain ⟨q, vs, rfl, h2, h3⟩ := rep_lst.mp (Rep.mono g2.ef _ _ r)
        obtain ⟨q', ws, rfl, k2, k3⟩ := rep_lst.mp r2
        simp only [lstOf, R.bind_ok] at p2
        unfold small at p2
        split at p2
        · rename_i hs
          refine ⟨q, q', vs, ws, rfl, rfl, g2.xt _ _ h2, g2.xt _ _ k2, small_ok (by rw [h3.length, k3.length]; simpa using hs), fun t ht => p2 t _ F2 H2 (Go.refl g2.xt) ht (h3.append k3)⟩
        · exact p2.elim
      | _ => exact p2.elim
    | _ => exact p2.elim⟩⟩⟩
theorem RepAll.rep {K : PySem.W.Frag} {mg : Str → Option Value} {F : Hp} {ds : List D} {vs : List V} (h : RepAll K mg F ds vs) : ∀ n : Nat, RepAll K mg F (List.replicate n ds).flatten (List.replicate n vs).flatten
  | 0 => by simp [RepAll]
  | n + 1 => by
    rw [List.replicate_succ, List.replicate_succ, List.flatten_cons, List.flatten_cons]
    exact h.append (RepAll.rep h n)
def repD (x y : D) : R (List D) := match x, y with
  | .list ds, .int k => if 0 ≤ k ∧ k ≤ 1000 ∧ ds.length ≤ 100 then .ok (List.replicate k.toNat ds).flatten else .bad
  | _, _ => .bad
/-- xs * k -/
theorem cf_rep (ha : CE X W ρ a ra) (hb : CE X W ρ b rb) : CF X W ρ (.BinOp a .Mult b pos) (ra.bind fun x => rb.bind fun y => repD x y) :=
  ⟨fun pins s σ H Q I ⟨F0, H0, F, S, p⟩ => (pe_op op_rep ha hb).run pins s σ H Q I ⟨F0, H0, F, S, p.bind fun d v F1 H1 _ g r p1 => ⟨F0, H0, F1, S.step g, p1.bind fun d2 v2 F2 H2 _ g2 r2 p2 => by
    unfold RpE at r r2
    cases d with
    | list ds =>
     cases d2 with
     | int k =>
      simp only [repD] at p2
      split at p2
      · rename_i hk
        obtain ⟨q, vs, rfl, h2, h3⟩ := rep_lst.mp (Rep.mono g2.ef _ _ r)
        have hl := h3.length
        refine ⟨q, k, vs, rfl, rep_int.mp r2, g2.xt _ _ h2, by omega, by omega, ?_, fun t ht => p2 t _ F2 H2 (Go.refl g2.xt) ht (h3.rep _)⟩
        have h1 : k.toNat ≤ 1000 := by omega
        have h2 : vs.length ≤ 100 := by omega
        exact small_ok (Nat.le_trans (Nat.mul_le_mul h2 h1) (by decide))
      · exact p2.elim
     | _ => exact p2.elim
    | _ => exact p2.elim⟩⟩⟩
end
end RB


set_option Elab.async false
set_option linter.all false
set_option maxRecDepth 100000
set_option maxHeartbeats 2000000
namespace RB
open PySem L2
/-! ### statements -/
inductive Out where
  | nx (ρ : List B)
  | rt (d : D)
  | bk (ρ : List B)
  | ct (ρ : List B)
  | rs (x : Exn) (ρ : List B)
def onE {α : Type} (r : R α) (ρ : List B) (k : α → Option Out) : Option Out := match r with
  | .bad => none
  | .ok a => k a
  | .rs x => some (.rs x ρ)
@[simp] theorem onE_ok {α : Type} (a : α) (ρ : List B) (k : α → Option Out) : onE (.ok a) ρ k = k a := rfl
@[simp] theorem onE_rs {α : Type} (x : Exn) (ρ : List B) (k : α → Option Out) : onE (.rs x) ρ k = some (.rs x ρ) := rfl
@[simp] theorem onE_bad {α : Type} (ρ : List B) (k : α → Option Out) : onE (.bad) ρ k = none := rfl
def seqO (o : Option Out) (k : List B → Option Out) : Option Out := match o with
  | some (.nx ρ) => k ρ
  | o => o
@[simp] theorem seqO_nx (ρ : List B) (k : List B → Option Out) : seqO (some (.nx ρ)) k = k ρ := rfl
@[simp] theorem seqO_rt (d : D) (k : List B → Option Out) : seqO (some (.rt d)) k = some (.rt d) := rfl
@[simp] theorem seqO_rs (x : Exn) (ρ : List B) (k : List B → Option Out) : seqO (some (.rs x ρ)) k = some (.rs x ρ) := rfl
@[simp] theorem seqO_bk (ρ : List B) (k : List B → Option Out) : seqO (some (.bk ρ)) k = some (.bk ρ) := rfl
@[simp] theorem seqO_ct (ρ : List B) (k : List B → Option Out) : seqO (some (.ct ρ)) k = some (.ct ρ) := rfl
@[simp] theorem seqO_none (k : List B → Option Out) : seqO none k = none := rfl
def runO : Option Out → R D
  | some (.nx _) => .ok .none
  | some (.rt d) => .ok d
  | some (.rs x _) => .rs x
  | _ => .bad

section
variable (K : PySem.W.Frag) (mg : Str → Option Value)
def PostS (W : WX) (F0 H0 F : Hp) (o : Option Out) (Dn : Ends) : Prop := match o with
  | none => False
  | some (.nx ρ) => ∀ σ' F' H', RepS K mg F0 H0 F' H' σ' ρ → Ex F F' → Dn.nx σ' H'
  | some (.bk ρ) => ∀ σ' F' H', RepS K mg F0 H0 F' H' σ' ρ → Ex F F' → Dn.bk σ' H'
  | some (.ct ρ) => ∀ σ' F' H', RepS K mg F0 H0 F' H' σ' ρ → Ex F F' → Dn.ct σ' H'
  | some (.rt d) => ∀ v F' H', Go F0 H0 F' H' → Rep K mg F' d v → Dn.rt v H'
  | some (.rs x ρ) => ∀ σ' F' H' cls dd, RepS K mg F0 H0 F' H' σ' ρ → Ex F F' → ExR K mg F' H' x cls dd → W cls dd σ' H'
def cS (W : WX) (ρ : List B) (o : Option Out) : TS := fun Dn σ H => ∃ F0 H0 F, RepS K mg F0 H0 F H σ ρ ∧ PostS K mg W F0 H0 F o Dn
end
def CS (X : Cx) (W : WX) (ρ : List B) (st : Stmt) (o : Option Out) : Prop := PS X st (cS X.K X.mg W ρ o)
def CSs (X : Cx) (W : WX) (ρ : List B) (sts : List Stmt) (o : Option Out) : Prop := PSs X sts (cS X.K X.mg W ρ o)
/-- what is known of a body's context -/
structure Kx (X : Cx) (W : WX) : Prop where
  calm : X.calm = true
  tk : Takes X W
  hp : PassesOwn (model X.prog X.w) X.A X.env X.xe

section
variable {K : PySem.W.Frag} {mg : Str → Option Value} {W : WX} {σ : St} {F H F1 H1 F0 H0 : Hp} {ρ : List B} {Dn : Ends}
theorem PostS.mono {o : Option Out} (e : Ex F F1) (h : PostS K mg W F0 H0 F o Dn) : PostS K mg W F0 H0 F1 o Dn := by
  cases o with
  | none => exact h
  | some o =>
    cases o with
    | nx ρ => exact fun σ' F' H' s e' => h σ' F' H' s (e.trans e')
    | bk ρ => exact fun σ' F' H' s e' => h σ' F' H' s (e.trans e')
    | ct ρ => exact fun σ' F' H' s e' => h σ' F' H' s (e.trans e')
    | rt d => exact h
    | rs x ρ => exact fun σ' F' H' cls dd s e' => h σ' F' H' cls dd s (e.trans e')
theorem PostS.onE {α β : Type} {Rp : Hp → Hp → α → β → Prop} {r : R α} {k : α → Option Out} (S : RepS K mg F0 H0 F H σ ρ) (h : PostS K mg W F0 H0 F (onE r ρ k) Dn) {Q1 : β → Hp → Prop}
    (c : ∀ d v F1 H1, r = .ok d → Go F H F1 H1 → RepS K mg F0 H0 F1 H1 σ ρ → Rp F1 H1 d v → PostS K mg W F0 H0 F1 (k d) Dn → Q1 v H1) : Post K mg Rp W σ F H r Q1 := by
  cases r with
  | bad => exact h
  | ok d => exact fun v F' H' g r => c d v F' H' rfl g (S.step g) r (PostS.mono g.ef h)
  | rs x => exact fun F' H' cls dd g e => h σ F' H' cls dd (S.step g) g.ef e
theorem PostS.onF {r : R (List D)} {k : List D → Option Out} (S : RepS K mg F0 H0 F H σ ρ) (h : PostS K mg W F0 H0 F (RB.onE r ρ k) Dn) {Q1 : VK}
    (c : ∀ ds p vs F1 H1, r = .ok ds → Go F H F1 H1 → RepS K mg F0 H0 F1 H1 σ ρ → H1 p = none → RepAll K mg F1 ds vs → PostS K mg W F0 H0 F1 (k ds) Dn → Q1 (.ref p) (upd H1 p (.lst vs))) : PostF K mg W σ F H r Q1 := by
  cases r with
  | bad => exact h
  | ok d => exact fun p vs F' H' g hp r => c d p vs F' H' rfl g (S.step g) hp r (PostS.mono g.ef h)
  | rs x => exact fun F' H' cls dd g e => h σ F' H' cls dd (S.step g) g.ef e
end

section
variable {X : Cx} {W : WX} {ρ : List B} {a b c e : Expr} {ra rb rc : R D} {pos : Pos} {st : Stmt} {sts : List Stmt}
theorem css_nil : CSs X W ρ [] (some (.nx ρ)) := ⟨fun pins s σ H Dn I ⟨F0, H0, F, S, p⟩ => pss_nil.run pins s σ H Dn I (p σ F H S (Ex.refl _))⟩
theorem css_one {o : Option Out} (h : CS X W ρ st o) : CSs X W ρ [st] o := pss_one h
theorem css_cons {o : Option Out} {k : List B → Option Out} (h : CS X W ρ st o) (hr : ∀ ρ, CSs X W ρ sts (k ρ)) : CSs X W ρ (st :: sts) (seqO o k) := by
  -- the second reading, at any state
  have h2 : PSs X sts (fun D σ H => ∃ ρ', cS X.K X.mg W ρ' (k ρ') D σ H) := ⟨fun pins s σ H Dn I ⟨ρ', q⟩ => (hr ρ').run pins s σ H Dn I q⟩
  refine ⟨fun pins s σ H Dn I ⟨F0, H0, F, S, p⟩ => (pss_cons h h2).run pins s σ H Dn I ⟨F0, H0, F, S, ?_⟩⟩
  cases o with
  | none => exact p
  | some o =>
    cases o with
    | nx ρ' => exact fun σ' F' H' S' e' => ⟨ρ', F0, H0, F', S', PostS.mono e' p⟩
    | rt d => exact p
    | bk ρ' => exact p
    | ct ρ' => exact p
    | rs x ρ' => exact p
/-- a list of one's own that changes no more -/
def frz (i : Nat) (ρ : List B) : List B := match ρ[i]? with
  | some (.own ds) => ρ.set i (.dat (.list ds))
  | _ => ρ
theorem RepS.frz {K : PySem.W.Frag} {mg : Str → Option Value} {σ : St} {F H F0 H0 : Hp} (i : Nat) (S : RepS K mg F0 H0 F H σ ρ) : ∃ F1, Ex F F1 ∧ RepS K mg F0 H0 F1 H σ (frz i ρ) := by
  unfold RB.frz
  split
  · rename_i ds e
    obtain ⟨p, vs, h1, h2, h3, h4, h5⟩ := S.at_ i _ e
    have hl : i < ρ.length := (List.getElem?_eq_some_iff.mp e).1
    have ef : Ex F (upd F p (.lst vs)) := Ex.new h2
    have g : Go F0 H0 (upd F p (.lst vs)) H := ⟨S.go.ef.trans ef, S.go.eh, fun a q1 q2 => by
      by_cases z : a = p
      · subst z
        exact absurd h3 q2
      · rw [upd_ne z]
        exact S.go.nw a q1 q2, fun a o q => by
      by_cases z : a = p
      · subst z
        rw [upd_same] at q
        cases q
        exact h4
      · rw [upd_ne z] at q
        exact S.xt a o q⟩
    refine ⟨_, ef, g, by rw [List.length_set]; exact S.len, fun j b e' => ?_, fun j k b b' q n e1 e2 m1 m2 hq => ?_⟩
    · by_cases z : i = j
      · subst z
        rw [List.getElem?_set_self hl] at e'
        cases e'
        exact ⟨_, h1, rep_lst.mpr ⟨p, vs, rfl, upd_same, h5.mono ef⟩⟩
      · rw [List.getElem?_set_ne z] at e'
        have old := S.at_ j b e'
        have np : b.mine = true → σ[j]? ≠ some (some (V.ref p)) := fun m => S.dis i j _ b p z e e' rfl m h1
        cases b with
        | un => trivial
        | exn a cls dd x => exact ⟨old.1, old.2.go ef fun a fs q => q⟩
        | dat d =>
          obtain ⟨v, q1, q2⟩ := old
          exact ⟨v, q1, q2.mono ef⟩
        | wk ds => exact old
        | own ds =>
          obtain ⟨q, ws, q1, q2, q3, q4, q5⟩ := old
          exact ⟨q, ws, q1, by rw [upd_ne (fun z => np rfl (by rw [q1, z]))]; exact q2, q3, q4, q5.mono ef⟩
        | ownd ds =>
          obtain ⟨q, ws, q1, q2, q3, q4, q5⟩ := old
          exact ⟨q, ws, q1, by rw [upd_ne (fun z => np rfl (by rw [q1, z]))]; exact q2, q3, q4, q5.mono ef⟩
        | ownt ds =>
          obtain ⟨q, ws, q1, q2, q3, q4, q5⟩ := old
          exact ⟨q, ws, q1, by rw [upd_ne (fun z => np rfl (by rw [q1, z]))]; exact q2, q3, q4, q5.mono ef⟩
        | ownI q dx c fs =>
          obtain ⟨C, ws, q1, q2, q3, q4, q5, q6, q7, q8, q9, q10⟩ := old
          exact ⟨C, ws, q1, by rw [upd_ne (fun z => np rfl (by rw [q1, z]))]; exact q2, q3, by rw [upd_ne (fun z => by rw [z, h4] at q9; cases q9)]; exact q4, q5, q6, q7, q8, q9, q10.mono ef⟩
    · have nj : i ≠ j := fun z => by
        subst z
        rw [List.getElem?_set_self hl] at e1
        cases e1
        cases m1
      have nk : i ≠ k := fun z => by
        subst z
        rw [List.getElem?_set_self hl] at e2
        cases e2
        cases m2
      rw [List.getElem?_set_ne nj] at e1
      rw [List.getElem?_set_ne nk] at e2
      exact S.dis j k b b' q n e1 e2 m1 m2 hq
  · exact ⟨F, Ex.refl _, S⟩
theorem css_frz {o : Option Out} (i : Nat) (h : CSs X W (frz i ρ) sts o) : CSs X W ρ sts o := ⟨fun pins s σ H Dn I ⟨F0, H0, F, S, p⟩ => by
  obtain ⟨F1, e, S1⟩ := S.frz i
  exact PSs.run h pins s σ H Dn I ⟨F0, H0, F1, S1, PostS.mono e p⟩⟩

theorem cs_set (i : Nat) {x : Str} {pos' : Pos} (hN : X.N.Nodup) (he : CE X W ρ e ra) (hi : X.N[i]? = some x := by rfl) (hx : Loc X.env.scope x := by first | exact Or.inl rfl | exact Or.inr rfl) (hs : swapsWith e (some (.Name x pos')) pos.line X.env = pure false := by rfl)
    (hf : X.fn x = true ∨ X.env.scope.names.lookup x = some .local := by first | exact .inl rfl | exact .inr rfl | assumption) : CS X W ρ (.Assign [.Name x pos'] e pos) (onE ra ρ fun d => some (.nx (ρ.set i (.dat d)))) :=
  ⟨fun pins s σ H Dn I ⟨F0, H0, F, S, p⟩ => (ps_set hN hi hx he hs hf).run pins s σ H Dn I ⟨F0, H0, F, S, PostS.onE S p fun d v F1 H1 _ g S1 r p1 => p1 _ F1 H1 (S1.set r) (Ex.refl _)⟩⟩
/-- a new list, to be changed -/
theorem cs_setF (i : Nat) {x : Str} {pos' : Pos} {r : R (List D)} (hN : X.N.Nodup) (he : CF X W ρ e r) (hi : X.N[i]? = some x := by rfl) (hx : Loc X.env.scope x := by first | exact Or.inl rfl | exact Or.inr rfl) (hs : swapsWith e (some (.Name x pos')) pos.line X.env = pure false := by rfl)
    (hf : X.fn x = true ∨ X.env.scope.names.lookup x = some .local := by first | exact .inl rfl | exact .inr rfl | assumption) : CS X W ρ (.Assign [.Name x pos'] e pos) (onE r ρ fun ds => some (.nx (ρ.set i (.own ds)))) :=
  ⟨fun pins s σ H Dn I ⟨F0, H0, F, S, p⟩ => (ps_set hN hi hx he hs hf).run pins s σ H Dn I ⟨F0, H0, F, S, PostS.onF S p fun ds q vs F1 H1 _ g S1 hq r p1 =>
    p1 _ F1 _ (S1.setOwn hq ⟨q, vs, rfl, S1.xt.fresh hq, S1.go.eh.fresh hq, upd_same, r⟩) (Ex.refl _)⟩⟩
theorem cs_ret (he : CE X W ρ e ra) : CS X W ρ (.Return (some e) pos) (onE ra ρ fun d => some (.rt d)) :=
  ⟨fun pins s σ H Dn I ⟨F0, H0, F, S, p⟩ => (ps_ret he).run pins s σ H Dn I ⟨F0, H0, F, S, PostS.onE S p fun d v F1 H1 _ g S1 r p1 => p1 v F1 H1 S1.go r⟩⟩
theorem cs_expr (he : CE X W ρ e ra) (hs : swapsWith e none pos.line X.env = pure false := by rfl) : CS X W ρ (.Expr e pos) (onE ra ρ fun _ => some (.nx ρ)) :=
  ⟨fun pins s σ H Dn I ⟨F0, H0, F, S, p⟩ => (ps_expr he hs).run pins s σ H Dn I ⟨F0, H0, F, S, PostS.onE S p fun d v F1 H1 _ g S1 r p1 => p1 σ F1 H1 S1 (Ex.refl _)⟩⟩
theorem cs_doc {x j pos'} : CS X W ρ (.Expr (.Constant (.str x) j pos') pos) (some (.nx ρ)) := ⟨fun pins s σ H Dn I ⟨F0, H0, F, S, p⟩ => ps_doc.run pins s σ H Dn I (p σ F H S (Ex.refl _))⟩
theorem cs_pass : CS X W ρ (.Pass pos) (some (.nx ρ)) := ⟨fun pins s σ H Dn I ⟨F0, H0, F, S, p⟩ => ps_pass.run pins s σ H Dn I (p σ F H S (Ex.refl _))⟩
theorem cs_break : CS X W ρ (.Break pos) (some (.bk ρ)) := ⟨fun pins s σ H Dn I ⟨F0, H0, F, S, p⟩ => ps_break.run pins s σ H Dn I (p σ F H S (Ex.refl _))⟩
theorem cs_continue : CS X W ρ (.Continue pos) (some (.ct ρ)) := ⟨fun pins s σ H Dn I ⟨F0, H0, F, S, p⟩ => ps_continue.run pins s σ H Dn I (p σ F H S (Ex.refl _))⟩
theorem cs_if {t : Expr} {r : R Bool} {th el : List Stmt} {o1 o2 : Option Out} (ht : CT X W ρ t r) (h1 : CSs X W ρ th o1) (h2 : CSs X W ρ el o2) : CS X W ρ (.If t th el pos) (onE r ρ fun k => if k = true then o1 else o2) :=
  ⟨fun pins s σ H Dn I ⟨F0, H0, F, S, p⟩ => (ps_if ht h1 h2).run pins s σ H Dn I ⟨F0, H0, F, S, PostS.onE S p fun d v F1 H1 _ g S1 r p1 => by
    have r' : d = v := r
    subst r'
    cases d with
    | true => exact ⟨F0, H0, F1, S1, p1⟩
    | false => exact ⟨F0, H0, F1, S1, p1⟩⟩⟩
def appE (ρ : List B) (i : Nat) (r : R D) : Option Out := match ρ[i]? with
  | some (.own ds) => onE r ρ fun d => if ds.length < 100000 then some (.nx (ρ.set i (.own (ds ++ [d])))) else none
  | _ => none
/-- xs.append(e) -/
theorem cs_append (i : Nat) {x : Str} {xpos apos cpos : Pos} (he : CE X W ρ e ra) (hN : X.N[i]? = some x := by rfl) (hv : Vis X.env.scope x := by first | exact Or.inl rfl | exact Or.inr (Or.inl rfl) | exact Or.inr (Or.inr rfl))
    (hd : (x == ("__debug__" : Str)) = false := by decide) (hcd : (x == ("__classdict__" : Str)) = false := by decide) (hss : starEach (e :: []) X.env = (false, eval e X.env) :: starEach [] X.env := by rfl)
    (hfew : ((backTo cpos (starEach (e :: []) X.env)).all (fun x => !x.1) && (backToKw cpos (keywordEach [] X.env)).all (fun x => x.1.isSome)
      && decide ((e :: []).length + ([] : List Keyword).length + (if ([] : List Keyword).isEmpty then 0 else 1) < 30)) = true := by rfl)
    (hbase : attributeBase (.Name x xpos) ("append" : Str) X.env (eval (.Name x xpos) X.env) = eval (.Name x xpos) X.env := by rfl) (hs : swapsWith (.Call (.Attribute (.Name x xpos) "append" apos) [e] [] cpos) none pos.line X.env = pure false := by rfl)
    (hline : (apos.endLine == cpos.line) = true := by rfl) :
    CS X W ρ (.Expr (.Call (.Attribute (.Name x xpos) "append" apos) [e] [] cpos) pos) (appE ρ i ra) := by
  have ha : PA X [e] (tCons (cG X.K X.mg (RpE X.K X.mg) W ρ ra) tNil) := pa_cons he pa_nil hss
  refine ⟨fun pins s σ H Dn I ⟨F0, H0, F, S, p⟩ => ?_⟩
  refine (ps_expr (pe_bm PySem.F.plainAttrs_list PySem.F.slot_list_append PySem.F.type_list_append mt_append (pe_var hN hv hd hcd) ha hbase hfew hline hss) hs).run pins s σ H Dn I ?_
  unfold appE at p
  split at p
  · rename_i ds e'
    obtain ⟨q, vs, h1, h2, h3, h4, h5⟩ := S.at_ i _ e'
    refine ⟨.ref q, h1, .inl ⟨rfl, vs, SqL.of h4⟩, F0, H0, F, S, PostS.onE S p fun d v F1 H1 _ g S1 r p1 => ?_⟩
    split at p1
    · rename_i hl
      obtain ⟨q', ws, k1, k2, k3, k4, k5⟩ := S1.at_ i _ e'
      rw [h1] at k1
      cases k1
      refine ⟨q, ws, v, rfl, rfl, k4, Nat.lt_of_lt_of_le (by rw [k5.length]; exact hl) (by decide), ?_⟩
      exact p1 σ F1 _ (S1.change e' rfl h1 k2 k3 k4 (fun _ z => nomatch z) (fun _ z => nomatch z) (fun _ _ _ z => nomatch z) ⟨q, _, rfl, k2, k3, upd_same, k5.append (RepAll.one r)⟩) (Ex.refl _)
    · exact p1.elim
  · exact p.elim

/-! ### targets, what is walked -/
inductive Tg where
  | one (i : Nat)
  | many (is : List Nat)
def setAll : List Nat → List D → List B → List B
  | i :: is, d :: ds, ρ => setAll is ds (ρ.set i (.dat d))
  | _, _, ρ => ρ
def Tg.set (t : Tg) (d : D) (ρ : List B) : Option (List B) := match t with
  | .one i => some (ρ.set i (.dat d))
  | .many is => match d with
    | .tuple ds => if ds.length = is.length then some (setAll is ds ρ) else none
    | _ => none
def Tg.slots : Tg → List Nat
  | .one i => [i]
  | .many is => is
def gMany : List Nat → TGs
  | [] => gNil
  | i :: is => gCons (gName i) (gMany is)
def Tg.g (K : PySem.W.Frag) : Tg → TG
  | .one i => gName i
  | .many is => gTup K is.length (gMany is)
def CG (X : Cx) (tg : Expr) (t : Tg) : Prop := PG X tg (t.g X.K)
theorem wipe_set : ∀ {vs : List Nat} {σ : St} {i : Nat} {v : V}, i ∈ vs → wipe (σ.set i (some v)) vs = wipe σ vs
  | [], σ, i, v, h => by cases h
  | j :: vs, σ, i, v, h => by
    show (wipe (σ.set i (some v)) vs).set j none = (wipe σ vs).set j none
    by_cases z : i ∈ vs
    · rw [wipe_set z]
    · have e : i = j := (List.mem_cons.mp h).resolve_right z
      subst e
      -- a slot that is not among vs passes through
      have key : ∀ (vs : List Nat) (σ : St), (wipe (σ.set i (some v)) vs).set i none = (wipe σ vs).set i none := by
        intro vs
        induction vs with
        | nil => intro σ; show (σ.set i (some v)).set i none = σ.set i none; rw [List.set_set]
        | cons k r ih =>
          intro σ
          show ((wipe (σ.set i (some v)) r).set k none).set i none = ((wipe σ r).set k none).set i none
          by_cases hk : k = i
          · subst hk
            rw [List.set_set, List.set_set]
            exact ih σ
          · rw [List.set_comm _ _ (fun q => hk q), List.set_comm _ _ (fun q => hk q), ih σ]
      exact key vs σ
theorem gMany_ok {K : PySem.W.Frag} {mg : Str → Option Value} {F0 H0 F H : Hp} {Q : St → Hp → Prop} {ws : List Nat} : ∀ {is : List Nat} {ds : List D} {vs : List V} {σ : St} {ρ : List B}, ds.length = is.length → RepAll K mg F ds vs → RepS K mg F0 H0 F H σ ρ → (∀ i ∈ is, i ∈ ws) →
    (∀ σ', RepS K mg F0 H0 F H σ' (setAll is ds ρ) → wipe σ' ws = wipe σ ws → Q σ' H) → gMany is vs σ H Q
  | [], ds, vs, σ, ρ, hl, r, S, hi, k => by
    have : ds = [] := by simpa using hl
    subst this
    simp only [RepAll] at r
    exact ⟨r, k σ S rfl⟩
  | i :: is, [], vs, σ, ρ, hl, r, S, hi, k => by simp at hl
  | i :: is, d :: ds, vs, σ, ρ, hl, r, S, hi, k => by
    simp only [RepAll] at r
    obtain ⟨v, r', rfl, h2, h3⟩ := r
    refine ⟨v, r', rfl, ?_⟩
    exact gMany_ok (by simpa using hl) h3 (S.set h2) (fun j hj => hi j (List.mem_cons_of_mem _ hj)) fun σ' S' w => k σ' S' (by rw [w, wipe_set (hi i List.mem_cons_self)])
theorem Tg.ok {K : PySem.W.Frag} {mg : Str → Option Value} {F0 H0 F H : Hp} {Q : St → Hp → Prop} {ws : List Nat} {t : Tg} {d : D} {v : V} {σ : St} {ρ ρ' : List B} (e : t.set d ρ = some ρ') (r : Rep K mg F d v) (S : RepS K mg F0 H0 F H σ ρ) (hi : ∀ i ∈ t.slots, i ∈ ws)
    (k : ∀ σ', RepS K mg F0 H0 F H σ' ρ' → wipe σ' ws = wipe σ ws → Q σ' H) : t.g K v σ H Q := by
  cases t with
  | one i =>
    simp only [Tg.set, Option.some.injEq] at e
    subst e
    exact k _ (S.set r) (wipe_set (hi i (by simp [Tg.slots])))
  | many is =>
    simp only [Tg.set] at e
    cases d with
    | tuple ds =>
      simp only at e
      split at e
      · rename_i hl
        cases e
        obtain ⟨a, vs, h1, h2, h3⟩ := rep_tup.mp r
        refine ⟨a, vs, h1, ex_t S.xt h2, by rw [h3.length]; exact hl, ?_⟩
        exact gMany_ok hl h3 S (fun j hj => hi j hj) k
      · cases e
    | _ => cases e

/-- what a loop walks: the data ds -/
def ItOk (K : PySem.W.Frag) (mg : Str → Option Value) (H0 F1 : Hp) (J : It) (ds : List D) : Prop := ∀ F' H' (i : Nat), Ex F1 F' → Ex H0 H' → Ex F' H' →
  (∀ d, ds[i]? = some d → J.go i H' ∧ ∀ x H'', J.yld i H' x H'' → ∃ F'', Go F' H' F'' H'' ∧ Rep K mg F'' d x) ∧ (ds.length ≤ i → J.stop i H')
def PostI (K : PySem.W.Frag) (mg : Str → Option Value) (W : WX) (σ : St) (H0 F H : Hp) (r : R (List D)) (Rk : It → Hp → Prop) : Prop := match r with
  | .bad => False
  | .ok ds => ∀ J F' H', Go F H F' H' → ItOk K mg H0 F' J ds → Rk J H'
  | .rs x => ∀ F' H' cls dd, Go F H F' H' → ExR K mg F' H' x cls dd → W cls dd σ H'
def cI (K : PySem.W.Frag) (mg : Str → Option Value) (W : WX) (ρ : List B) (r : R (List D)) : TI := fun σ H Rk => ∃ F0 H0 F, RepS K mg F0 H0 F H σ ρ ∧ PostI K mg W σ H0 F H r Rk
def CI (X : Cx) (W : WX) (tg : Expr) (ρ : List B) (e : Expr) (r : R (List D)) : Prop := PI X tg e (cI X.K X.mg W ρ r)
variable {tg : Expr}
theorem PostI.go {K : PySem.W.Frag} {mg : Str → Option Value} {σ : St} {F H F1 H1 H0 : Hp} {r : R (List D)} {Q : It → Hp → Prop} (g : Go F H F1 H1) (h : PostI K mg W σ H0 F H r Q) : PostI K mg W σ H0 F1 H1 r Q := by
  cases r with
  | bad => exact h
  | ok d => exact fun p F' H' g' => h p F' H' (g.trans g')
  | rs x => exact fun F' H' cls dd g' => h F' H' cls dd (g.trans g')
theorem PostI.bind {K : PySem.W.Frag} {mg : Str → Option Value} {α β : Type} {Rp : Hp → Hp → α → β → Prop} {σ : St} {F H H0 : Hp} {r : R α} {k : α → R (List D)} {Q : It → Hp → Prop} (h : PostI K mg W σ H0 F H (r.bind k) Q) {Q1 : β → Hp → Prop}
    (c : ∀ d v F1 H1, r = .ok d → Go F H F1 H1 → Rp F1 H1 d v → PostI K mg W σ H0 F1 H1 (k d) Q → Q1 v H1) : Post K mg Rp W σ F H r Q1 := by
  cases r with
  | bad => exact h
  | ok d => exact fun v F' H' g r => c d v F' H' rfl g r (PostI.go g h)
  | rs x => exact h
theorem itOk_list {K : PySem.W.Frag} {mg : Str → Option Value} {H0 F1 : Hp} {p : Addr} {vs : List V} {ds : List D} (h : ∀ F' H', Ex F1 F' → Ex H0 H' → Ex F' H' → SqL K H' p vs) (r : RepAll K mg F1 ds vs) : ItOk K mg H0 F1 (Itl K p) ds := fun F' H' i e1 e2 e3 => by
  have hs := h F' H' e1 e2 e3
  refine ⟨fun d hd => ?_, fun hl => ⟨vs, hs, by rw [r.length]; exact hl⟩⟩
  obtain ⟨v, h1, h2⟩ := r.get hd
  refine ⟨⟨vs, v, hs, h1⟩, fun x H'' hy => ?_⟩
  obtain ⟨q1, q2⟩ := hy
  subst q1
  have q3 := q2 vs hs
  rw [h1] at q3
  cases q3
  exact ⟨F', Go.refl e3, h2.mono e1⟩
theorem ci_list (ha : CE X W ρ a ra) : CI X W tg ρ a (ra.bind lstOf) :=
  ⟨fun pins s σ H Rk I ⟨F0, H0, F, S, p⟩ => (pi_list ha).run pins s σ H Rk I ⟨F0, H0, F, S, p.bind fun d v F1 H1 _ g r p1 => by
    unfold RpE at r
    cases d with
    | list ds =>
      obtain ⟨q, vs, rfl, h2, h3⟩ := rep_lst.mp r
      exact ⟨q, rfl, ⟨vs, SqL.of (g.xt _ _ h2)⟩, p1 _ F1 H1 (Go.refl g.xt) (itOk_list (fun F' H' e1 _ e3 => SqL.of (e3 _ _ (e1 _ _ h2))) h3)⟩
    | _ => exact p1.elim⟩⟩
theorem itOk_tup {K : PySem.W.Frag} {mg : Str → Option Value} {H0 F1 : Hp} {p : Addr} {vs : List V} {ds : List D} (h : ∀ F' H', Ex F1 F' → Ex H0 H' → Ex F' H' → SqT K H' p vs) (r : RepAll K mg F1 ds vs) : ItOk K mg H0 F1 (Itt K p) ds := fun F' H' i e1 e2 e3 => by
  have hs := h F' H' e1 e2 e3
  refine ⟨fun d hd => ?_, fun hl => ⟨vs, hs, by rw [r.length]; exact hl⟩⟩
  obtain ⟨v, h1, h2⟩ := r.get hd
  refine ⟨⟨vs, v, hs, h1⟩, fun x H'' hy => ?_⟩
  obtain ⟨q1, q2⟩ := hy
  subst q1
  have q3 := q2 vs hs
  rw [h1] at q3
  cases q3
  exact ⟨F', Go.refl e3, h2.mono e1⟩
def tupOf : D → R (List D)
  | .tuple ds => .ok ds
  | _ => .bad
theorem ci_tup (ha : CE X W ρ a ra) : CI X W tg ρ a (ra.bind tupOf) :=
  ⟨fun pins s σ H Rk I ⟨F0, H0, F, S, p⟩ => (pi_tup ha).run pins s σ H Rk I ⟨F0, H0, F, S, p.bind fun d v F1 H1 _ g r p1 => by
    unfold RpE at r
    cases d with
    | tuple ds =>
      obtain ⟨q, vs, rfl, h2, h3⟩ := rep_tup.mp r
      exact ⟨q, rfl, ⟨vs, ex_t g.xt h2⟩, p1 _ F1 H1 (Go.refl g.xt) (itOk_tup (fun F' H' e1 _ e3 => ex_t e3 (ex_t e1 h2)) h3)⟩
    | _ => exact p1.elim⟩⟩
/-- a name that holds a list, perhaps the caller's -/
def getK (ρ : List B) (i : Nat) : R (List D) := match ρ[i]? with
  | some (.dat (.list ds)) => .ok ds
  | some (.wk ds) => .ok ds
  | _ => .bad
theorem getK_seq {K : PySem.W.Frag} {mg : Str → Option Value} {F0 H0 F H : Hp} {σ : St} {i : Nat} {ds : List D} (S : RepS K mg F0 H0 F H σ ρ) (h : getK ρ i = .ok ds) :
    ∃ p vs, σ[i]? = some (some (.ref p)) ∧ (∀ F' H', Ex F F' → Ex H0 H' → Ex F' H' → SqL K H' p vs) ∧ RepAll K mg F ds vs := by
  unfold getK at h
  split at h
  · rename_i ds' e
    cases h
    obtain ⟨v, h1, h2⟩ := S.at_ i _ e
    obtain ⟨p, vs, rfl, h3, h4⟩ := rep_lst.mp h2
    exact ⟨p, vs, h1, fun F' H' e1 _ e3 => SqL.of (e3 _ _ (e1 _ _ h3)), h4⟩
  · rename_i ds' e
    cases h
    obtain ⟨p, vs, h1, h2, h3⟩ := S.at_ i _ e
    exact ⟨p, vs, h1, fun F' H' _ e2 _ => ex_l e2 h2, h3.mono S.go.ef⟩
  · cases h
theorem ci_var (i : Nat) {x : Str} (hN : X.N[i]? = some x := by rfl) (hv : Vis X.env.scope x := by first | exact Or.inl rfl | exact Or.inr (Or.inl rfl) | exact Or.inr (Or.inr rfl)) (hd : (x == ("__debug__" : Str)) = false := by decide)
    (hcd : (x == ("__classdict__" : Str)) = false := by decide) : CI X W tg ρ (.Name x pos) (getK ρ i) :=
  ⟨fun pins s σ H Rk I ⟨F0, H0, F, S, p⟩ => (pi_list (pe_var hN hv hd hcd)).run pins s σ H Rk I (by
    cases h : getK ρ i with
    | bad =>
      rw [h] at p
      exact p.elim
    | rs x =>
      unfold getK at h
      split at h <;> cases h
    | ok ds =>
      rw [h] at p
      obtain ⟨q, vs, h1, h2, h3⟩ := getK_seq S h
      exact ⟨_, h1, q, rfl, ⟨vs, h2 F H (Ex.refl _) S.go.eh S.xt⟩, p _ F H (Go.refl S.xt) (itOk_list h2 h3)⟩)⟩
/-- enumerate(xs) -/
def enumD (ds : List D) : List D := ds.zipIdx.map fun p => .tuple [.int (p.2 : Nat), p.1]
theorem itOk_enum {K : PySem.W.Frag} {mg : Str → Option Value} {H0 F1 : Hp} {p : Addr} {vs : List V} {ds : List D} (h : ∀ F' H', Ex F1 F' → Ex H0 H' → Ex F' H' → SqL K H' p vs) (r : RepAll K mg F1 ds vs) : ItOk K mg H0 F1 (Ite K p) (enumD ds) := fun F' H' i e1 e2 e3 => by
  have hs := h F' H' e1 e2 e3
  have hlen : (enumD ds).length = ds.length := by simp [enumD]
  refine ⟨fun d hd => ?_, fun hl => ⟨vs, hs, by rw [r.length, ← hlen]; exact hl⟩⟩
  obtain ⟨d0, e0, rfl⟩ : ∃ d0, ds[i]? = some d0 ∧ d = .tuple [.int (i : Nat), d0] := by
    unfold enumD at hd
    rw [List.getElem?_map, List.getElem?_zipIdx] at hd
    cases q : ds[i]? with
    | none =>
      rw [q] at hd
      simp at hd
    | some d0 =>
      rw [q] at hd
      simp at hd
      exact ⟨d0, rfl, hd.symm⟩
  obtain ⟨v, h1, h2⟩ := r.get e0
  refine ⟨⟨vs, v, hs, h1⟩, fun x H'' hy => ?_⟩
  obtain ⟨T, y, rfl, hT, rfl, hy⟩ := hy
  have q3 := hy vs hs
  rw [h1] at q3
  cases q3
  refine ⟨_, Go.alloc e3 hT, rep_tup.mpr ⟨T, _, rfl, SqT.of upd_same, ?_⟩⟩
  simp only [RepAll, Rep]
  exact ⟨_, _, rfl, rfl, _, _, rfl, h2.mono (e1.trans (Ex.new (e3.fresh hT))), rfl⟩
theorem ci_enumV (i : Nat) {x : Str} {p : Pos} {pos' : Pos} {elts : List Expr} {kk : Nat} {tpos : Pos} (hm : X.mg "enumerate" = none) (hg : Gl X "enumerate" := by rfl) (hN : X.N[i]? = some x := by rfl) (hv : Vis X.env.scope x := by first | exact Or.inl rfl | exact Or.inr (Or.inl rfl) | exact Or.inr (Or.inr rfl))
    (hd : (x == ("__debug__" : Str)) = false := by decide) (hcd : (x == ("__classdict__" : Str)) = false := by decide) (hs : starEach [.Name x pos'] X.env = [(false, eval (.Name x pos') X.env)] := by rfl) :
    CI X W (.Tuple elts kk tpos) ρ (.Call (.Name "enumerate" p) [.Name x pos'] [] pos) ((getK ρ i).map enumD) :=
  ⟨fun pins s σ H Rk I ⟨F0, H0, F, S, p⟩ => (pi_enum hg hm (pa_cons (pe_var hN hv hd hcd) pa_nil hs) hs).run pins s σ H Rk I (by
    cases h : getK ρ i with
    | bad =>
      rw [h] at p
      exact p.elim
    | rs x =>
      unfold getK at h
      split at h <;> cases h
    | ok ds =>
      rw [h] at p
      obtain ⟨q, vs, h1, h2, h3⟩ := getK_seq S h
      exact ⟨_, h1, q, vs, rfl, h2 F H (Ex.refl _) S.go.eh S.xt, p _ F H (Go.refl S.xt) (itOk_enum h2 h3)⟩)⟩
theorem ci_enum {p : Pos} {elts : List Expr} {kk : Nat} {tpos : Pos} (hm : X.mg "enumerate" = none) (ha : CE X W ρ a ra) (hg : Gl X "enumerate" := by rfl) (hs : starEach [a] X.env = [(false, eval a X.env)] := by rfl) :
    CI X W (.Tuple elts kk tpos) ρ (.Call (.Name "enumerate" p) [a] [] pos) ((ra.bind lstOf).map enumD) :=
  ⟨fun pins s σ H Rk I ⟨F0, H0, F, S, p⟩ => (pi_enum hg hm (pa_cons ha pa_nil hs) hs).run pins s σ H Rk I ⟨F0, H0, F, S, by
    have p' : PostI X.K X.mg W σ H0 F H (ra.bind fun d => (lstOf d).map enumD) Rk := by
      cases ra <;> exact p
    exact p'.bind fun d v F1 H1 _ g r p1 => by
      unfold RpE at r
      cases d with
      | list ds =>
        obtain ⟨q, vs, rfl, h2, h3⟩ := rep_lst.mp r
        exact ⟨q, vs, rfl, SqL.of (g.xt _ _ h2), p1 _ F1 H1 (Go.refl g.xt) (itOk_enum (fun F' H' e1 _ e3 => SqL.of (e3 _ _ (e1 _ _ h2))) h3)⟩
      | _ => exact p1.elim⟩⟩
/-- range -/
def rangeD (lo : Int) (n : Nat) : List D := (List.range n).map fun k => .int (lo + (k : Nat))
theorem itOk_range {K : PySem.W.Frag} {mg : Str → Option Value} {H0 F1 : Hp} {lo : Int} {n : Nat} : ItOk K mg H0 F1 (Itr lo n) (rangeD lo n) := fun F' H' i e1 e2 e3 => by
  have hlen : (rangeD lo n).length = n := by simp [rangeD]
  refine ⟨fun d hd => ?_, fun hl => by rw [hlen] at hl; exact hl⟩
  have hi : i < n := by
    have := (List.getElem?_eq_some_iff.mp hd).1
    rw [hlen] at this
    exact this
  refine ⟨hi, fun x H'' hy => ?_⟩
  obtain ⟨rfl, rfl⟩ := hy
  refine ⟨F', Go.refl e3, ?_⟩
  have : d = .int (lo + (i : Nat)) := by
    unfold rangeD at hd
    rw [List.getElem?_map, List.getElem?_range hi] at hd
    exact (Option.some.inj hd).symm
  rw [this]
  simp only [Rep]
def rng1 : D → R (List D)
  | .int j => if -(2 ^ 62) ≤ j ∧ j < 2 ^ 62 then .ok (rangeD 0 j.toNat) else .bad
  | _ => .bad
def rng2 (x y : D) : R (List D) := match x, y with
  | .int i, .int j => if -(2 ^ 62) ≤ i ∧ i < 2 ^ 62 ∧ -(2 ^ 62) ≤ j ∧ j < 2 ^ 62 then .ok (rangeD i (j - i).toNat) else .bad
  | _, _ => .bad
theorem ci_range1 {p : Pos} (hm : X.mg "range" = none) (ha : CE X W ρ a ra) (hg : Gl X "range" := by rfl) (hs : starEach [a] X.env = [(false, eval a X.env)] := by rfl) : CI X W tg ρ (.Call (.Name "range" p) [a] [] pos) (ra.bind rng1) :=
  ⟨fun pins s σ H Rk I ⟨F0, H0, F, S, p⟩ => (pi_range1 hg hm (pa_cons ha pa_nil hs) hs).run pins s σ H Rk I ⟨F0, H0, F, S, p.bind fun d v F1 H1 _ g r p1 => by
    unfold RpE at r
    cases d with
    | int j =>
      simp only [rng1] at p1
      split at p1
      · rename_i hj
        rw [rep_int.mp r]
        exact ⟨j, rfl, hj.1, hj.2, p1 _ F1 H1 (Go.refl g.xt) itOk_range⟩
      · exact p1.elim
    | _ => exact p1.elim⟩⟩
theorem ci_range2 {p : Pos} (hm : X.mg "range" = none) (ha : CE X W ρ a ra) (hb : CE X W ρ b rb) (hg : Gl X "range" := by rfl) (hs : starEach [a, b] X.env = [(false, eval a X.env), (false, eval b X.env)] := by rfl) (hs2 : starEach [b] X.env = [(false, eval b X.env)] := by rfl) :
    CI X W tg ρ (.Call (.Name "range" p) [a, b] [] pos) (ra.bind fun x => rb.bind fun y => rng2 x y) :=
  ⟨fun pins s σ H Rk I ⟨F0, H0, F, S, p⟩ => (pi_range2 hg hm (pa_cons ha (pa_cons hb pa_nil hs2) (by rw [hs, hs2])) hs hs2).run pins s σ H Rk I ⟨F0, H0, F, S, p.bind fun d v F1 H1 _ g r p1 => ⟨F0, H0, F1, S.step g, p1.bind fun d2 v2 F2 H2 _ g2 r2 p2 => by
    unfold RpE at r r2
    cases d with
    | int i =>
      cases d2 with
      | int j =>
        simp only [rng2] at p2
        split at p2
        · rename_i hj
          rw [rep_int.mp r, rep_int.mp r2]
          exact ⟨i, j, rfl, hj, p2 _ F2 H2 (Go.refl g2.xt) itOk_range⟩
        · exact p2.elim
      | _ => exact p2.elim
    | _ => exact p2.elim⟩⟩⟩

/-! ### for, while -/
def forO (t : Tg) (body : List B → Option Out) : List D → List B → Option Out
  | [], ρ => some (.nx ρ)
  | d :: ds, ρ => match t.set d ρ with
    | none => none
    | some ρ1 => match body ρ1 with
      | some (.nx ρ') => forO t body ds ρ'
      | some (.ct ρ') => forO t body ds ρ'
      | some (.bk ρ') => some (.nx ρ')
      | o => o
theorem cs_for {t : Tg} {iter : Expr} {body : List Stmt} {r : R (List D)} {bo : List B → Option Out} (kx : Kx X W) (hi : CI X W tg ρ iter r) (hg : CG X tg t) (hb : ∀ ρ, CSs X W ρ body (bo ρ)) (hs : ∀ x, foldedSetIterable iter X.env x = pure x := by intro _; rfl) :
    CS X W ρ (.For tg iter body [] pos) (onE r ρ fun ds => forO t bo ds ρ) := by
  have hb' : PSs X body (fun D σ H => ∃ ρ', cS X.K X.mg W ρ' (bo ρ') D σ H) := ⟨fun pins s σ H Dn I ⟨ρ', q⟩ => (hb ρ').run pins s σ H Dn I q⟩
  refine ⟨fun pins s σ H Dn I ⟨F0, H0, F, S, p⟩ => (ps_for kx.hp kx.calm hi hg hb' hs).run pins s σ H Dn I ⟨F0, H0, F, S, ?_⟩⟩
  cases r with
  | bad => exact p.elim
  | rs x => exact fun F' H' cls dd g e => p σ F' H' cls dd (S.step g) g.ef e
  | ok ds =>
    intro J F1 H1 g it
    simp only [onE_ok] at p
    have S1 := S.step g
    have p1 := PostS.mono g.ef p
    obtain ⟨oo, hO⟩ : ∃ oo, forO t bo ds ρ = oo := ⟨_, rfl⟩
    rw [hO] at p1
    refine ⟨fun i m σ H => m = ds.length - i ∧ i ≤ ds.length ∧ ∃ F' ρ', RepS X.K X.mg F0 H0 F' H σ ρ' ∧ Ex F1 F' ∧ forO t bo (ds.drop i) ρ' = oo, ⟨ds.length, by simp, Nat.zero_le _, F1, ρ, S1, Ex.refl _, hO⟩, ?_⟩
    rintro i m σ' H' ⟨rfl, hi, F', ρ', S', e', eq⟩
    by_cases hlt : i < ds.length
    · refine .inr ?_
      have hd : ds[i]? = some ds[i] := List.getElem?_eq_getElem hlt
      obtain ⟨i1, _⟩ := it F' H' i e' S'.go.eh S'.xt
      obtain ⟨go, yl⟩ := i1 _ hd
      have hdrop : ds.drop i = ds[i] :: ds.drop (i + 1) := (List.drop_eq_getElem_cons hlt)
      rw [hdrop] at eq
      refine ⟨go, fun σ2 H2 => ∃ F2 ρ2, RepS X.K X.mg F0 H0 F2 H2 σ2 ρ2 ∧ Ex F1 F2 ∧ forO t bo (ds.drop (i + 1)) ρ2 = oo, fun σ2 H2 ⟨F2, ρ2, S2, e2, q2⟩ => ⟨ds.length - (i + 1), by omega, rfl, hlt, F2, ρ2, S2, e2, q2⟩, fun x H'' hy => ?_⟩
      obtain ⟨F'', g'', r''⟩ := yl x H'' hy
      have S'' := S'.step g''
      have eF : Ex F1 F'' := e'.trans g''.ef
      unfold forO at eq
      split at eq
      · rw [← eq] at p1
        exact p1.elim
      · rename_i ρ1 et
        refine Tg.ok (ws := t.slots) et r'' S'' (fun j hj => hj) fun σ3 S3 _ => ?_
        refine ⟨ρ1, F0, H0, F'', S3, ?_⟩
        split at eq
        · rename_i ρ2 eb
          rw [eb]
          exact fun σ4 F4 H4 S4 e4 => ⟨F4, ρ2, S4, eF.trans e4, eq⟩
        · rename_i ρ2 eb
          rw [eb]
          exact fun σ4 F4 H4 S4 e4 => ⟨F4, ρ2, S4, eF.trans e4, eq⟩
        · rename_i ρ2 eb
          rw [eb]
          rw [← eq] at p1
          exact fun σ4 F4 H4 S4 e4 => p1 σ4 F4 H4 S4 (eF.trans e4)
        · rename_i n1 n2 n3
          rw [← eq] at p1
          revert p1 n1 n2 n3
          cases bo ρ1 with
          | none => exact fun p1 _ _ _ => p1
          | some o =>
            cases o with
            | nx ρ2 => exact fun _ n1 _ _ => (n1 _ rfl).elim
            | ct ρ2 => exact fun _ _ n2 _ => (n2 _ rfl).elim
            | bk ρ2 => exact fun _ _ _ n3 => (n3 _ rfl).elim
            | rt d => exact fun p1 _ _ _ => p1
            | rs x ρ2 => exact fun p1 _ _ _ σ4 F4 H4 cls dd S4 e4 ex => p1 σ4 F4 H4 cls dd S4 (eF.trans e4) ex
    · have hie : i = ds.length := by omega
      subst hie
      obtain ⟨_, i2⟩ := it F' H' ds.length e' S'.go.eh S'.xt
      refine .inl ⟨i2 (Nat.le_refl _), ?_⟩
      rw [List.drop_length] at eq
      rw [← eq] at p1
      exact p1 σ' F' H' S' e'
def whileO (test : List B → R Bool) (body : List B → Option Out) : Nat → List B → Option Out
  | 0, _ => none
  | n + 1, ρ => onE (test ρ) ρ fun k => if k = true then (match body ρ with
      | some (.nx ρ') => whileO test body n ρ'
      | some (.ct ρ') => whileO test body n ρ'
      | some (.bk ρ') => some (.nx ρ')
      | o => o) else some (.nx ρ)
theorem cs_while (n : Nat) {t : Expr} {body : List Stmt} {te : List B → R Bool} {bo : List B → Option Out} (kx : Kx X W) (ht : ∀ ρ, CT X W ρ t (te ρ)) (hb : ∀ ρ, CSs X W ρ body (bo ρ)) : CS X W ρ (.While t body [] pos) (whileO te bo n ρ) := by
  have hb' : PSs X body (fun D σ H => ∃ ρ', cS X.K X.mg W ρ' (bo ρ') D σ H) := ⟨fun pins s σ H Dn I ⟨ρ', q⟩ => (hb ρ').run pins s σ H Dn I q⟩
  have ht' : PT X t (fun σ H Q => ∃ ρ', cG X.K X.mg RpT W ρ' (te ρ') σ H Q) := ⟨fun pins s σ H Q I ⟨ρ', q⟩ => (ht ρ').run pins s σ H Q I q⟩
  refine ⟨fun pins s σ H Dn I ⟨F0, H0, F, S, p⟩ => (ps_while kx.hp ht' hb').run pins s σ H Dn I ?_⟩
  obtain ⟨oo, hO⟩ : ∃ oo, whileO te bo n ρ = oo := ⟨_, rfl⟩
  rw [hO] at p
  refine ⟨fun m σ H => ∃ F' ρ', RepS X.K X.mg F0 H0 F' H σ ρ' ∧ Ex F F' ∧ whileO te bo m ρ' = oo, ⟨n, F, ρ, S, Ex.refl _, hO⟩, ?_⟩
  rintro m σ' H' ⟨F', ρ', S', e', eq⟩
  cases m with
  | zero =>
    unfold whileO at eq
    rw [← eq] at p
    exact p.elim
  | succ m =>
    unfold whileO at eq
    refine ⟨ρ', F0, H0, F', S', ?_⟩
    rw [← eq] at p
    refine PostS.onE S' (PostS.mono e' p) fun k v F1 H1 ek g S1 r p1 => ?_
    have r' : k = v := r
    subst r'
    rw [ek] at eq
    simp only [onE_ok] at eq
    cases k with
    | false =>
      rw [if_neg Bool.false_ne_true] at p1 ⊢
      exact p1 σ' F1 H1 S1 (Ex.refl _)
    | true =>
      rw [if_pos rfl] at p1 eq ⊢
      refine ⟨fun σ2 H2 => ∃ F2 ρ2, RepS X.K X.mg F0 H0 F2 H2 σ2 ρ2 ∧ Ex F F2 ∧ whileO te bo m ρ2 = oo, fun σ2 H2 q => ⟨m, Nat.lt_succ_self _, q⟩, ρ', F0, H0, F1, S1, ?_⟩
      have eF := e'.trans g.ef
      split at eq
      · rename_i ρ2 eb
        rw [eb]
        exact fun σ4 F4 H4 S4 e4 => ⟨F4, ρ2, S4, eF.trans e4, eq⟩
      · rename_i ρ2 eb
        rw [eb]
        exact fun σ4 F4 H4 S4 e4 => ⟨F4, ρ2, S4, eF.trans e4, eq⟩
      · rename_i ρ2 eb
        rw [eb] at p1 ⊢
        exact fun σ4 F4 H4 S4 e4 => p1 σ4 F4 H4 S4 e4
      · rename_i n1 n2 n3
        revert p1 n1 n2 n3
        cases bo ρ' with
        | none => exact fun p1 _ _ _ => p1
        | some o =>
          cases o with
          | nx ρ2 => exact fun _ n1 _ _ => (n1 _ rfl).elim
          | ct ρ2 => exact fun _ _ n2 _ => (n2 _ rfl).elim
          | bk ρ2 => exact fun _ _ _ n3 => (n3 _ rfl).elim
          | rt d => exact fun p1 _ _ _ => p1
          | rs x ρ2 => exact fun p1 _ _ _ => p1
end
end RB


set_option Elab.async false
set_option linter.all false
set_option maxRecDepth 100000
set_option maxHeartbeats 2000000
namespace RB
open PySem L2 PySem.Spec PyProof.Rows
/-! ### defs -/
def RepFl (K : PySem.W.Frag) (mg : Str → Option Value) (F H : Hp) (fl : List Bool) (ds : List D) (vs : List V) : Prop := ds.length = fl.length ∧ RepArgs K mg F H (fl.zip ds) vs
/-- the promise: called with data ds it does what m ds says -/
def spM (K : PySem.W.Frag) (mg : Str → Option Value) (fl : List Bool) (m : List D → R D) : Sp := fun vs H Q E => ∃ F ds, Ex F H ∧ RepFl K mg F H fl ds vs ∧ Post K mg (RpE K mg) (fun cls dd _ H => E cls dd H) [] F H (m ds) Q
def asW : D → B
  | .list ds => .wk ds
  | d => .dat d
def bind0 : List Bool → List D → List B
  | w :: fl, d :: ds => (if w = true then asW d else .dat d) :: bind0 fl ds
  | _, _ => []
def start0 (n : Nat) (fl : List Bool) (ds : List D) : List B := bind0 fl ds ++ List.replicate (n - fl.length) .un
theorem RepArgs.len {K : PySem.W.Frag} {mg : Str → Option Value} {F H : Hp} : ∀ {xs : List (Bool × D)} {vs : List V}, RepArgs K mg F H xs vs → vs.length = xs.length
  | [], vs, h => by
    have h' : vs = [] := h
    subst h'
    rfl
  | (w, d) :: xs, vs, h => by
    obtain ⟨v, r, rfl, h2, h3⟩ := h
    simp [RepArgs.len h3]
theorem bind0_len : ∀ {fl : List Bool} {ds : List D}, ds.length = fl.length → (bind0 fl ds).length = fl.length
  | [], [], _ => rfl
  | w :: fl, d :: ds, h => by simp [bind0, bind0_len (fl := fl) (ds := ds) (by simpa using h)]
  | [], d :: ds, h => by simp at h
  | w :: fl, [], h => by simp at h
theorem bind0_at {K : PySem.W.Frag} {mg : Str → Option Value} {F H : Hp} (e : Ex F H) : ∀ {fl : List Bool} {ds : List D} {vs : List V} {i : Nat} {b : B}, ds.length = fl.length → RepArgs K mg F H (fl.zip ds) vs → (bind0 fl ds)[i]? = some b → RepB K mg F H F H (vs.map some)[i]? b
  | [], [], vs, i, b, _, _, h => by simp [bind0] at h
  | [], d :: ds, _, _, _, h, _, _ => by simp at h
  | w :: fl, [], _, _, _, h, _, _ => by simp at h
  | w :: fl, d :: ds, vs, i, b, hl, r, h => by
    obtain ⟨v, r', rfl, h2, h3⟩ := r
    cases i with
    | succ i => exact bind0_at e (i := i) (by simpa using hl) h3 (by simpa [bind0] using h)
    | zero =>
      simp only [bind0, List.getElem?_cons_zero, Option.some.injEq] at h
      subst h
      cases w with
      | false => exact ⟨v, rfl, h2⟩
      | true =>
        rw [if_pos rfl] at h2 ⊢
        cases d with
        | list ds' =>
          obtain ⟨p, ws, rfl, q1, q2⟩ := repW_seq e h2
          exact ⟨p, ws, rfl, q1, q2⟩
        | none => exact ⟨v, rfl, repW_flat (fun _ z => nomatch z) h2⟩
        | bool _ => exact ⟨v, rfl, repW_flat (fun _ z => nomatch z) h2⟩
        | int _ => exact ⟨v, rfl, repW_flat (fun _ z => nomatch z) h2⟩
        | str _ => exact ⟨v, rfl, repW_flat (fun _ z => nomatch z) h2⟩
        | tuple _ => exact ⟨v, rfl, repW_flat (fun _ z => nomatch z) h2⟩
        | dict _ => exact ⟨v, rfl, repW_flat (fun _ z => nomatch z) h2⟩
theorem bind0_mine : ∀ {fl : List Bool} {ds : List D} {i : Nat} {b : B}, (bind0 fl ds)[i]? = some b → b.mine = false
  | [], _, i, b, h => by simp [bind0] at h
  | _ :: _, [], i, b, h => by simp [bind0] at h
  | w :: fl, d :: ds, i, b, h => by
    cases i with
    | succ i => exact bind0_mine (i := i) (by simpa [bind0] using h)
    | zero =>
      simp only [bind0, List.getElem?_cons_zero, Option.some.injEq] at h
      subst h
      cases w with
      | false => rfl
      | true => cases d <;> rfl
theorem start_rep {K : PySem.W.Frag} {mg : Str → Option Value} {F H : Hp} {N : List Str} {fl : List Bool} {ds : List D} {vs : List V} (e : Ex F H) (r : RepFl K mg F H fl ds vs) (hN : fl.length ≤ N.length) : RepS K mg F H F H (L2.start N vs) (start0 N.length fl ds) := by
  have hl := r.1
  have hv : vs.length = fl.length := by rw [r.2.len, List.length_zip, hl, Nat.min_self]
  have hb := bind0_len hl
  refine ⟨Go.refl e, ?_, fun i b h => ?_, fun i j b b' p n h1 h2 m1 m2 _ => ?_⟩
  · simp [L2.start, start0, hb, hv]
  · unfold start0 at h
    unfold L2.start
    by_cases hi : i < fl.length
    · rw [List.getElem?_append_left (by rw [hb]; exact hi)] at h
      rw [List.getElem?_append_left (by rw [List.length_map, hv]; exact hi)]
      exact bind0_at e hl r.2 h
    · rw [List.getElem?_append_right (by rw [hb]; omega)] at h
      have := List.getElem?_replicate (n := N.length - fl.length) (a := B.un) (i := i - (bind0 fl ds).length)
      rw [this] at h
      split at h
      · cases h
        trivial
      · cases h
  · have no : ∀ (i : Nat) (b : B), (start0 N.length fl ds)[i]? = some b → b.mine = false := fun i b h => by
      unfold start0 at h
      by_cases hi : i < fl.length
      · rw [List.getElem?_append_left (by rw [hb]; exact hi)] at h
        exact bind0_mine h
      · rw [List.getElem?_append_right (by rw [hb]; omega)] at h
        have := List.getElem?_replicate (n := N.length - fl.length) (a := B.un) (i := i - (bind0 fl ds).length)
        rw [this] at h
        split at h
        · cases h
          rfl
        · cases h
    rw [no i b h1] at m1
    cases m1
/-- the wish of a def that may raise -/
abbrev WD (E : XK) : WX := fun cls d _ H => E cls d H
section
variable {P : Program} {w : World} {K : PySem.W.Frag} {mg : Str → Option Value} {base : Heap}
/-- A DEF: its body as a plain function of its slots -/
theorem def_ok {x qual : Str} {st : Stmt} {f : Addr} {fd : FuncData} {N ps : List Str} {k : Nat} {fl : List Bool} {m : List B → Option Out} (F : Fun K x qual st f fd) (S : FnScope N ps (defScope st)) (hps : ps.length = fl.length) (hN : fl.length ≤ N.length)
    (hb : ∀ (cdv : Value) (A : Around) (outer : List Env) (s : Shared) (H : Hp) (E : XK) (ρ : List B), Room k (A.deeper (envOfC qual (defScope st) s.heap.objs.size f cdv)) →
      Kx (cxOf (L2.CX P w) P w K mg base N qual (defScope st) f cdv A outer s H E) (WD E) → CSs (cxOf (L2.CX P w) P w K mg base N qual (defScope st) f cdv A outer s H E) (WD E) ρ (defBody st) (m ρ)) :
    FnOk P w K mg base (L2.CX P w) (k + 1) f fd ps (spM K mg fl fun ds => runO (m (start0 N.length fl ds))) := by
  refine F.okX S (fun vs H Q E h => ?_) (fun cdv A outer s H vs Q E hr h => ?_)
  · obtain ⟨F, ds, e, r, _⟩ := h
    rw [r.2.len, List.length_zip, r.1, Nat.min_self, hps]
  · obtain ⟨F, ds, e, r, p⟩ := h
    have kx : Kx (cxOf (L2.CX P w) P w K mg base N qual (defScope st) f cdv A outer s H E) (WD E) := ⟨rfl, takes_of rfl rfl rfl rfl, passes_of rfl⟩
    refine ⟨_, hb cdv A outer s H E (start0 N.length fl ds) hr kx, F, H, F, start_rep e r hN, ?_⟩
    have p : Post K mg (RpE K mg) (fun cls dd _ H => E cls dd H) [] F H (runO (m (start0 N.length fl ds))) Q := p
    generalize m (start0 N.length fl ds) = oo at p
    show PostS K mg (WD E) F H F oo { nx := fun _ H' => Q .non H', rt := Q }
    revert p
    cases oo with
    | none => exact fun p => p.elim
    | some o =>
      cases o with
      | nx ρ => exact fun p σ' F' H' S' e' => p .non F' H' S'.go (by show Rep K mg F' .none .non; simp only [Rep])
      | rt d => exact fun p v F' H' g r => p v F' H' g r
      | bk ρ => exact fun p => p.elim
      | ct ρ => exact fun p => p.elim
      | rs x ρ => exact fun p σ' F' H' cls dd S' e' er => p F' H' cls dd S'.go er
end
/-! ### calls -/
/-- a def of the text: what it does with data -/
structure FnT (P : Program) (w : World) (K : PySem.W.Frag) (mg : Str → Option Value) (base : Heap) (x : Str) (k : Nat) (fl : List Bool) (m : List D → R D) : Prop where
  ex : ∃ f fd ps, FnOk P w K mg base (L2.CX P w) k f fd ps (spM K mg fl m) ∧ mg x = some (.ref f) ∧ PySem.W.keepIn K (.ref f) = true ∧ Binds K fd ps []
def okFl : List Bool → List Bool → Bool
  | [], [] => true
  | f :: fl, w :: ws => (!w || f) && okFl fl ws
  | _, _ => false
def callM (fl : List Bool) (m : List D → R D) (xs : List (Bool × D)) : R D := if okFl fl (xs.map (·.1)) = true then m (xs.map (·.2)) else .bad
theorem okFl_rep {K : PySem.W.Frag} {mg : Str → Option Value} {F H : Hp} : ∀ {fl : List Bool} {xs : List (Bool × D)} {vs : List V}, okFl fl (xs.map (·.1)) = true → RepArgs K mg F H xs vs → RepFl K mg F H fl (xs.map (·.2)) vs
  | [], [], vs, _, r => ⟨rfl, r⟩
  | [], x :: xs, vs, h, r => by simp [okFl] at h
  | f :: fl, [], vs, h, r => by simp [okFl] at h
  | f :: fl, (w, d) :: xs, vs, h, r => by
    simp only [List.map_cons, okFl, Bool.and_eq_true] at h
    obtain ⟨v, r', rfl, h2, h3⟩ := r
    have ih := okFl_rep h.2 h3
    refine ⟨by simp [ih.1], v, r', rfl, ?_, ih.2⟩
    cases w with
    | true =>
      have hf : f = true := by simpa using h.1
      subst hf
      exact h2
    | false =>
      cases f with
      | true => exact .inl h2
      | false => exact h2
/-- any wish's shape -/
theorem Post.wish {K : PySem.W.Frag} {mg : Str → Option Value} {W : WX} {σ : L2.St} {F H : Hp} {r : R D} {Q : VK} (h : Post K mg (RpE K mg) W σ F H r Q) : Post K mg (RpE K mg) (fun cls dd _ H => W cls dd σ H) [] F H r Q := by
  cases r <;> exact h
section
variable {X : Cx} {W : WX} {ρ : List B} {a b c e : Expr} {ra rb rc : R D} {pos : Pos}
theorem ce_call {x : Str} {p : Pos} {es : List Expr} {k : Nat} {fl : List Bool} {m : List D → R D} {r : R (List (Bool × D))} (tk : Takes X W) (G : FnT X.prog X.w X.K X.mg X.base x k fl m) (hr : Room k X.A) (ha : CA X W ρ (e :: es) r) (hg : Gl X x := by rfl)
    (hdb : (x == ("__debug__" : Str)) = false := by decide) (he : starEach (e :: es) X.env = (false, eval e X.env) :: starEach es X.env := by rfl) (hpl : (backTo pos (starEach es X.env)).any (·.1) = false := by rfl) :
    CE X W ρ (.Call (.Name x p) (e :: es) [] pos) (r.bind (callM fl m)) := by
  obtain ⟨f, fd, ps, F, hm, hk, hb⟩ := G.ex
  refine ⟨fun pins s σ H Q I ⟨F0, H0, F', S, q⟩ => (pe_callS (E := WE W) F hr hg hm hk hb (fun σ => passAt tk σ) ha hdb he hpl).run pins s σ H Q I ⟨F0, H0, F', S, q.bind fun xs vs F1 H1 _ g r1 p1 => ?_⟩⟩
  unfold callM at p1
  split at p1
  · rename_i ho
    exact ⟨F1, _, g.xt, okFl_rep ho r1, Post.wish p1⟩
  · exact p1.elim
/-- a builtin on values -/
def CallOk (X : Cx) (r : List V → Hp → VK → Prop) (f : List D → R D) : Prop := ∀ (F H : Hp) (W : WX) (σ : L2.St) (xs : List (Bool × D)) (vs : List V) (Q : VK), Ex F H → RepArgs X.K X.mg F H xs vs → Post X.K X.mg (RpE X.K X.mg) W σ F H (f (xs.map (·.2))) Q → r vs H Q
theorem ce_callB {id : String} {x : Str} {p : Pos} {es : List Expr} {rr : List V → Hp → VK → Prop} {f : List D → R D} {r : R (List (Bool × D))} (hc : CallR X (.builtin id) rr) (ok : CallOk X rr f) (hm : X.mg x = none) (hv : bootBuiltins x = some (.builtin id)) (ha : CA X W ρ (e :: es) r) (hg : Gl X x := by rfl) (hn : x ≠ "__name__" := by decide)
    (hdb : (x == ("__debug__" : Str)) = false := by decide) (he : starEach (e :: es) X.env = (false, eval e X.env) :: starEach es X.env := by rfl) (hpl : (backTo pos (starEach es X.env)).any (·.1) = false := by rfl) : CE X W ρ (.Call (.Name x p) (e :: es) [] pos) (r.bind fun xs => f (xs.map (·.2))) :=
  ⟨fun pins s σ H Q I ⟨F0, H0, F', S, q⟩ => (pe_callB hc hg hm hv ha hn hdb he hpl).run pins s σ H Q I ⟨F0, H0, F', S, q.bind fun xs vs F1 H1 _ g r1 p1 => ok F1 H1 W σ xs vs Q g.xt r1 p1⟩⟩
theorem ce_callTy {T : String} {x : Str} {p : Pos} {es : List Expr} {rr : List V → Hp → VK → Prop} {f : List D → R D} {r : R (List (Bool × D))} (hc : CallR X (.type T) rr) (ok : CallOk X rr f) (hm : X.mg x = none) (hv : bootBuiltins x = some (.type T)) (ha : CA X W ρ (e :: es) r) (hg : Gl X x := by rfl) (hn : x ≠ "__name__" := by decide)
    (hdb : (x == ("__debug__" : Str)) = false := by decide) (he : starEach (e :: es) X.env = (false, eval e X.env) :: starEach es X.env := by rfl) (hpl : (backTo pos (starEach es X.env)).any (·.1) = false := by rfl) : CE X W ρ (.Call (.Name x p) (e :: es) [] pos) (r.bind fun xs => f (xs.map (·.2))) :=
  ⟨fun pins s σ H Q I ⟨F0, H0, F', S, q⟩ => (pe_callTy hc hg hm hv ha hn hdb he hpl).run pins s σ H Q I ⟨F0, H0, F', S, q.bind fun xs vs F1 H1 _ g r1 p1 => ok F1 H1 W σ xs vs Q g.xt r1 p1⟩⟩
theorem arg1 {K : PySem.W.Frag} {mg : Str → Option Value} {F H : Hp} {xs : List (Bool × D)} {vs : List V} {d : D} (r : RepArgs K mg F H xs vs) (e : xs.map (·.2) = [d]) : ∃ v, vs = [v] ∧ RepW K mg F H d v := by
  match xs, e with
  | [(w, d')], e =>
    simp only [List.map_cons, List.map_nil, List.cons.injEq, and_true] at e
    subst e
    obtain ⟨v, r', rfl, h2, h3⟩ := r
    have : r' = [] := h3
    subst this
    refine ⟨v, rfl, ?_⟩
    cases w with
    | true => exact h2
    | false => exact .inl h2
theorem arg2 {K : PySem.W.Frag} {mg : Str → Option Value} {F H : Hp} {xs : List (Bool × D)} {vs : List V} {d e' : D} (r : RepArgs K mg F H xs vs) (e : xs.map (·.2) = [d, e']) : ∃ v u, vs = [v, u] ∧ RepW K mg F H d v ∧ RepW K mg F H e' u := by
  match xs, e with
  | (w, d1) :: [(w2, d2)], e =>
    simp only [List.map_cons, List.map_nil, List.cons.injEq, and_true] at e
    obtain ⟨rfl, rfl⟩ := e
    obtain ⟨v, r', rfl, h2, h3⟩ := r
    obtain ⟨u, hu, q2⟩ := arg1 (xs := [(w2, d2)]) h3 rfl
    subst hu
    refine ⟨v, u, rfl, ?_, q2⟩
    cases w with
    | true => exact h2
    | false => exact .inl h2
def lenD : List D → R D
  | [.list ds] => .ok (.int (ds.length : Nat))
  | [.tuple ds] => .ok (.int (ds.length : Nat))
  | [.str z] => if z.length ≤ sizeLine then .ok (.int (z.length : Nat)) else .bad
  | _ => .bad
theorem ok_len : CallOk X (fun xs H Q => ∃ x n, xs = [x] ∧ LenV X.K x H n ∧ Q (.int n) H) lenD := fun F H W σ xs vs Q E r p => by
  generalize hd : xs.map (·.2) = ds at p
  unfold lenD at p
  split at p
  · obtain ⟨v, rfl, h⟩ := arg1 r hd
    obtain ⟨q, ws, rfl, h1, h2⟩ := repW_seq E h
    exact ⟨_, _, rfl, .inl ⟨ws, h1, rfl⟩, post_now E p (by rw [h2.length]; simp only [Rep])⟩
  · obtain ⟨v, rfl, h⟩ := arg1 r hd
    obtain ⟨q, ws, rfl, h1, h2⟩ := repW_tup E h
    exact ⟨_, _, rfl, .inr ⟨ws, h1, rfl⟩, post_now E p (by rw [h2.length]; simp only [Rep])⟩
  · obtain ⟨v, rfl, h⟩ := arg1 r hd
    split at p
    · rename_i hz
      have := rep_str.mp (repW_flat (fun _ z => nomatch z) h)
      subst this
      exact ⟨_, _, rfl, ⟨hz, rfl⟩, post_now E p (by simp only [Rep])⟩
    · exact p.elim
  · exact p.elim
def absD : List D → R D
  | [.int i] => .ok (.int (if i < 0 then -i else i))
  | _ => .bad
theorem ok_abs : CallOk X (fun xs H Q => ∃ i, xs = [.int i] ∧ Q (.int (if i < 0 then -i else i)) H) absD := fun F H W σ xs vs Q E r p => by
  generalize hd : xs.map (·.2) = ds at p
  unfold absD at p
  split at p
  · obtain ⟨v, rfl, h⟩ := arg1 r hd
    have := rep_int.mp (repW_flat (fun _ z => nomatch z) h)
    subst this
    exact ⟨_, rfl, post_now E p (by simp only [Rep])⟩
  · exact p.elim
def intF : List D → R D
  | [.int i] => .ok (.int i)
  | [.bool k] => .ok (.int (if k then 1 else 0))
  | _ => .bad
theorem ok_int : CallOk X (fun xs H Q => (∃ i, xs = [.int i] ∧ Q (.int i) H) ∨ ∃ k, xs = [.bl k] ∧ Q (.int (if k then 1 else 0)) H) intF := fun F H W σ xs vs Q E r p => by
  generalize hd : xs.map (·.2) = ds at p
  unfold intF at p
  split at p
  · obtain ⟨v, rfl, h⟩ := arg1 r hd
    have := rep_int.mp (repW_flat (fun _ z => nomatch z) h)
    subst this
    exact .inl ⟨_, rfl, post_now E p (by simp only [Rep])⟩
  · obtain ⟨v, rfl, h⟩ := arg1 r hd
    have := rep_bl.mp (repW_flat (fun _ z => nomatch z) h)
    subst this
    exact .inr ⟨_, rfl, post_now E p (by simp only [Rep])⟩
  · exact p.elim
def maxD : List D → R D
  | [.int i, .int j] => .ok (.int (if j > i then j else i))
  | _ => .bad
theorem ok_max : CallOk X (fun xs H Q => ∃ i j, xs = [.int i, .int j] ∧ Q (.int (if j > i then j else i)) H) maxD := fun F H W σ xs vs Q E r p => by
  generalize hd : xs.map (·.2) = ds at p
  unfold maxD at p
  split at p
  · obtain ⟨v, u, rfl, h, h'⟩ := arg2 r hd
    have q1 := rep_int.mp (repW_flat (fun _ z => nomatch z) h)
    have q2 := rep_int.mp (repW_flat (fun _ z => nomatch z) h')
    subst q1 q2
    exact ⟨_, _, rfl, post_now E p (by simp only [Rep])⟩
  · exact p.elim
def strD : List D → R D
  | [.int i] => if i.natAbs.log2 < 1920 then .ok (.str (toString i)) else .bad
  | _ => .bad
theorem ok_str : CallOk X (fun xs H Q => ∃ i, xs = [.int i] ∧ i.natAbs.log2 < 1920 ∧ Q (.str (toString i)) H) strD := fun F H W σ xs vs Q E r p => by
  generalize hd : xs.map (·.2) = ds at p
  unfold strD at p
  split at p
  · obtain ⟨v, rfl, h⟩ := arg1 r hd
    split at p
    · rename_i hz
      have := rep_int.mp (repW_flat (fun _ z => nomatch z) h)
      subst this
      exact ⟨_, rfl, hz, post_now E p (by simp only [Rep])⟩
    · exact p.elim
  · exact p.elim
def bools : List D → Option (List Bool)
  | [] => some []
  | .bool b :: r => (bools r).map (b :: ·)
  | _ :: _ => none
theorem bools_rep {K : PySem.W.Frag} {mg : Str → Option Value} {F : Hp} : ∀ {ds : List D} {vs : List V} {ss : List Bool}, bools ds = some ss → RepAll K mg F ds vs → vs = ss.map V.bl
  | [], vs, ss, h, r => by
    simp only [bools, Option.some.injEq] at h
    subst h
    simp only [RepAll] at r
    simpa using r
  | d :: ds, vs, ss, h, r => by
    cases d with
    | bool s =>
      simp only [bools, Option.map_eq_some_iff] at h
      obtain ⟨ss', h1, rfl⟩ := h
      simp only [RepAll, Rep] at r
      obtain ⟨v, r', rfl, rfl, h3⟩ := r
      rw [bools_rep h1 h3]
      rfl
    | _ => simp [bools] at h
def allD : List D → R D
  | [.list ds] => match bools ds with
    | some bs => .ok (.bool (bs.all id))
    | none => .bad
  | _ => .bad
def anyD : List D → R D
  | [.list ds] => match bools ds with
    | some bs => .ok (.bool (bs.any id))
    | none => .bad
  | _ => .bad
theorem ok_all : CallOk X (rAll X.K) allD := fun F H W σ xs vs Q E r p => by
  generalize hd : xs.map (·.2) = ds at p
  unfold allD at p
  split at p
  · obtain ⟨v, rfl, h⟩ := arg1 r hd
    obtain ⟨q, ws, rfl, h1, h2⟩ := repW_seq E h
    split at p
    · rename_i bs hb
      rw [bools_rep hb h2] at h1
      exact ⟨q, bs, rfl, h1, post_now E p (by simp only [Rep])⟩
    · exact p.elim
  · exact p.elim
theorem ok_any : CallOk X (rAny X.K) anyD := fun F H W σ xs vs Q E r p => by
  generalize hd : xs.map (·.2) = ds at p
  unfold anyD at p
  split at p
  · obtain ⟨v, rfl, h⟩ := arg1 r hd
    obtain ⟨q, ws, rfl, h1, h2⟩ := repW_seq E h
    split at p
    · rename_i bs hb
      rw [bools_rep hb h2] at h1
      exact ⟨q, bs, rfl, h1, post_now E p (by simp only [Rep])⟩
    · exact p.elim
  · exact p.elim

/-! ### comprehensions -/
abbrev WF : WX := fun _ _ _ _ => False
def wipeB (ρ : List B) : List Nat → List B
  | [] => ρ
  | v :: vs => (wipeB ρ vs).set v .un
theorem RepS.unset {K : PySem.W.Frag} {mg : Str → Option Value} {F0 H0 F H : Hp} {σ : L2.St} {i : Nat} (S : RepS K mg F0 H0 F H σ ρ) : RepS K mg F0 H0 F H (σ.set i none) (ρ.set i .un) := by
  have no : ∀ (j : Nat) (b : B), (ρ.set i .un)[j]? = some b → b.mine = true → ρ[j]? = some b ∧ i ≠ j := fun j b h m => by
    by_cases z : i = j
    · subst z
      have hl : i < ρ.length := by
        have := (List.getElem?_eq_some_iff.mp h).1
        simpa using this
      rw [List.getElem?_set_self hl] at h
      cases h
      cases m
    · rw [List.getElem?_set_ne z] at h
      exact ⟨h, z⟩
  refine ⟨S.go, by rw [List.length_set, List.length_set, S.len], fun j b h => ?_, fun j k b b' p n e e' m m' q => ?_⟩
  · by_cases z : i = j
    · subst z
      have hl : i < ρ.length := by
        have := (List.getElem?_eq_some_iff.mp h).1
        simpa using this
      rw [List.getElem?_set_self hl] at h
      cases h
      trivial
    · rw [List.getElem?_set_ne z] at h ⊢
      exact S.at_ j b h
  · obtain ⟨e1, z1⟩ := no j b e m
    obtain ⟨e2, z2⟩ := no k b' e' m'
    rw [List.getElem?_set_ne z1] at q
    rw [List.getElem?_set_ne z2]
    exact S.dis j k b b' p n e1 e2 m m' q
theorem RepS.wipe {K : PySem.W.Frag} {mg : Str → Option Value} {F0 H0 F H : Hp} {σ : L2.St} (S : RepS K mg F0 H0 F H σ ρ) : ∀ vs : List Nat, RepS K mg F0 H0 F H (wipe σ vs) (wipeB ρ vs)
  | [] => S
  | v :: vs => (RepS.wipe S vs).unset
/-- what a comprehension makes of the data that it walks -/
def compM (cond : D → R Bool) (elt : D → R D) : List D → R (List D)
  | [] => .ok []
  | d :: ds => (cond d).bind fun k => if k = true then (elt d).bind fun y => (compM cond elt ds).map (y :: ·) else compM cond elt ds
def CPs (X : Cx) (W : WX) (ρ : List B) (es : List Expr) (r : R Bool) : Prop := PTs X es (cG X.K X.mg RpT W ρ r)
theorem cps_nil : CPs X W ρ [] (.ok true) := ⟨fun pins s σ H Q I ⟨F0, H0, F, S, p⟩ => pts_nil.run pins s σ H Q I (p true F H (Go.refl S.xt) rfl)⟩
theorem cps_one {r : R Bool} (h : CT X W ρ e r) : CPs X W ρ [e] r := pts_one h
/-- at a datum of the walked list -/
def tgR {α : Type} (t : Tg) (ρ : List B) (d : D) (k : List B → R α) : R α := match t.set d ρ with
  | some ρ' => k ρ'
  | none => .bad
theorem wipe_get : ∀ {vs : List Nat} {σ : L2.St} {i : Nat}, i ∈ vs → i < σ.length → (wipe σ vs)[i]? = some none
  | [], _, _, h, _ => by cases h
  | v :: vs, σ, i, h, hl => by
    show ((wipe σ vs).set v none)[i]? = some none
    by_cases z : v = i
    · subst z
      rw [List.getElem?_set_self (by rw [wipe_length]; exact hl)]
    · rw [List.getElem?_set_ne z]
      exact wipe_get ((List.mem_cons.mp h).resolve_left (fun q => z q.symm)) hl
theorem wipe_get_ne : ∀ {vs : List Nat} {σ : L2.St} {i : Nat}, i ∉ vs → (wipe σ vs)[i]? = σ[i]?
  | [], _, _, _ => rfl
  | v :: vs, σ, i, h => by
    show ((wipe σ vs).set v none)[i]? = σ[i]?
    rw [List.getElem?_set_ne (fun q => h (by rw [q]; exact List.mem_cons_self))]
    exact wipe_get_ne fun q => h (List.mem_cons_of_mem _ q)
theorem wipe_wipe (σ : L2.St) (vs : List Nat) : wipe (wipe σ vs) vs = wipe σ vs := by
  apply List.ext_getElem?
  intro i
  by_cases h : i ∈ vs
  · by_cases hl : i < σ.length
    · rw [wipe_get h hl, wipe_get h (by rw [wipe_length]; exact hl)]
    · rw [List.getElem?_eq_none (by rw [wipe_length, wipe_length]; omega), List.getElem?_eq_none (by rw [wipe_length]; omega)]
  · rw [wipe_get_ne h, wipe_get_ne h]
theorem del_upd {H : Hp} {a : Addr} {o : HO} : upd (delH H a) a o = upd H a o := by
  funext b
  by_cases h : b = a
  · subst h
    rw [upd_same, upd_same]
  · rw [upd_ne h, upd_ne h, delH_ne h]
/-- the data and then what is known at each turn: a comprehension's reading -/
theorem lc_data {K : PySem.W.Frag} {mg : Str → Option Value} {t : Tg} {vs : List Nat} {cond : D → R Bool} {elt : D → R D} {cb : List B → R Bool} {eb : List B → R D} {σ : L2.St} {F0 H0 F H : Hp} {Q : VK} {ds : List D} {J : It} {D0 : Addr} {res : List D}
    (hc : ∀ d, cond d = tgR t (wipeB ρ vs) d cb) (he : ∀ d, elt d = tgR t (wipeB ρ vs) d eb) (hvs : ∀ i ∈ t.slots, i ∈ vs) (S : RepS K mg F0 H0 F H σ ρ) (it : ItOk K mg H0 F J ds) (hsmall : ds.length ≤ 100000) (hD : H D0 = none) (hres : compM cond elt ds = .ok res)
    (hQ : ∀ ws F1 H1, Go F H F1 H1 → H1 D0 = none → RepAll K mg F1 res ws → Q (.ref D0) (upd H1 D0 (.lst ws))) :
    ∃ Wv : Nat → Nat → Hp → Prop, (∃ m, Wv 0 m (upd H D0 (.lst []))) ∧ ∀ i m H, Wv i m H →
      (J.stop i H ∧ Q (.ref D0) H) ∨ (J.go i H ∧ ∃ Nx : Hp → Prop, (∀ H', Nx H' → ∃ m', m' < m ∧ Wv (i + 1) m' H') ∧ ∀ x H', J.yld i H x H' → t.g K x (wipe σ vs) H' fun σ2 H2 => wipe σ2 vs = wipe σ vs ∧
        (fun σ H Q => ∃ ρ', cG K mg RpT WF ρ' (cb ρ') σ H Q) σ2 H2 fun b H3 =>
        if b = true then (fun σ H Q => ∃ ρ', cG K mg (RpE K mg) WF ρ' (eb ρ') σ H Q) σ2 H3 fun y H4 => ∃ acc, H4 D0 = some (.lst acc) ∧ acc.length < sizeLine ∧ Nx (upd H4 D0 (.lst (acc ++ [y]))) else Nx H3) := by
  refine ⟨fun i m Hc => m = ds.length - i ∧ i ≤ ds.length ∧ ∃ F1 H1 ws dn, Go F H F1 H1 ∧ H1 D0 = none ∧ Hc = upd H1 D0 (.lst ws) ∧ RepAll K mg F1 dn ws ∧ dn.length ≤ i ∧ (compM cond elt (ds.drop i)).map (dn ++ ·) = .ok res,
    ⟨ds.length, by simp, Nat.zero_le _, F, H, [], [], Go.refl S.xt, hD, rfl, by simp [RepAll], Nat.zero_le _, by rw [List.drop_zero, hres]; rfl⟩, ?_⟩
  rintro i m Hc ⟨rfl, hi, F1, H1, ws, dn, g, h1, rfl, ra, hdn, eq⟩
  have gc : Go F1 H1 F1 (upd H1 D0 (.lst ws)) := Go.lay g.xt h1
  have gF : Go F H F1 (upd H1 D0 (.lst ws)) := g.trans gc
  have Sc := (S.step gF).wipe vs
  by_cases hlt : i < ds.length
  · refine .inr ?_
    have hd : ds[i]? = some ds[i] := List.getElem?_eq_getElem hlt
    obtain ⟨i1, _⟩ := it F1 _ i g.ef Sc.go.eh Sc.xt
    obtain ⟨go, yl⟩ := i1 _ hd
    have hdrop : ds.drop i = ds[i] :: ds.drop (i + 1) := List.drop_eq_getElem_cons hlt
    rw [hdrop] at eq
    refine ⟨go, fun Hn => ∃ F1 H1 ws dn, Go F H F1 H1 ∧ H1 D0 = none ∧ Hn = upd H1 D0 (.lst ws) ∧ RepAll K mg F1 dn ws ∧ dn.length ≤ i + 1 ∧ (compM cond elt (ds.drop (i + 1))).map (dn ++ ·) = .ok res,
      fun H' q => ⟨ds.length - (i + 1), by omega, rfl, hlt, q⟩, fun x H'' hy => ?_⟩
    obtain ⟨F2, g2, r2⟩ := yl x H'' hy
    have S2 := Sc.step g2
    -- behind any later moment D0 still holds ws
    have later : ∀ {F3 H3 : Hp}, Go F1 (upd H1 D0 (.lst ws)) F3 H3 → H3 D0 = some (.lst ws) ∧ F3 D0 = none ∧ Go F H F3 (delH H3 D0) := fun {F3 H3} g3 => by
      have hF : F1 D0 = none := g.xt.fresh h1
      have a1 : H3 D0 = some (.lst ws) := g3.eh _ _ upd_same
      have a2 : F3 D0 = none := g3.nw D0 hF (by rw [upd_same]; simp)
      refine ⟨a1, a2, g.ef.trans g3.ef, fun a o q => ?_, fun a q1 q2 => ?_, fun a o q => ?_⟩
      · have ne : a ≠ D0 := ne_of_none q hD
        rw [delH_ne ne]
        exact g3.eh _ _ (by rw [upd_ne ne]; exact g.eh _ _ q)
      · have ne : a ≠ D0 := fun z => q2 (by rw [z]; exact hD)
        refine g3.nw a (g.nw a q1 q2) ?_
        rw [upd_ne ne]
        cases e : H a with
        | none => exact absurd e q2
        | some o => rw [g.eh _ _ e]; simp
      · have ne : a ≠ D0 := ne_of_none q a2
        rw [delH_ne ne]
        exact g3.xt _ _ q
    simp only [compM, hc, he] at eq
    unfold tgR at eq
    cases et : t.set ds[i] (wipeB ρ vs) with
    | none =>
      rw [et] at eq
      cases eq
    | some ρ1 =>
      rw [et] at eq
      simp only at eq
      refine Tg.ok (ws := vs) et r2 S2 hvs fun σ3 S3 w3 => ⟨by rw [w3, wipe_wipe], ρ1, F0, H0, F2, S3, ?_⟩
      cases ec : cb ρ1 with
      | bad => rw [ec] at eq; cases eq
      | rs x => rw [ec] at eq; cases eq
      | ok k =>
        rw [ec] at eq
        simp only [R.bind_ok] at eq
        intro v F3 H3 g3 ev
        have ev' : k = v := ev
        subst ev'
        cases k with
        | false =>
          rw [if_neg Bool.false_ne_true] at eq ⊢
          obtain ⟨a1, a2, a3⟩ := later (g2.trans g3)
          refine ⟨F3, delH H3 D0, ws, dn, a3, delH_same, ?_, ra.mono (g2.trans g3).ef, by omega, eq⟩
          rw [del_upd]
          funext b
          by_cases z : b = D0
          · rw [z, upd_same, a1]
          · rw [upd_ne z]
        | true =>
          rw [if_pos rfl] at eq ⊢
          refine ⟨ρ1, F0, H0, F3, S3.step g3, ?_⟩
          cases ee : eb ρ1 with
          | bad => rw [ee] at eq; cases eq
          | rs x => rw [ee] at eq; cases eq
          | ok y =>
            rw [ee] at eq
            simp only [R.bind_ok] at eq
            intro v F4 H4 g4 r4
            obtain ⟨a1, a2, a3⟩ := later ((g2.trans g3).trans g4)
            refine ⟨ws, a1, Nat.lt_of_lt_of_le (by rw [ra.length]; omega : ws.length < 100000 + 1 - 0) (by decide), F4, delH H4 D0, ws ++ [v], dn ++ [y], a3, delH_same, by rw [del_upd], (ra.mono ((g2.trans g3).trans g4).ef).append (RepAll.one r4), by simp; omega, ?_⟩
            cases er : compM cond elt (ds.drop (i + 1)) with
            | bad =>
              rw [er] at eq
              cases eq
            | rs x =>
              rw [er] at eq
              cases eq
            | ok rest =>
              rw [er] at eq
              simpa using eq
  · have hie : i = ds.length := by omega
    subst hie
    obtain ⟨_, i2⟩ := it F1 _ ds.length g.ef Sc.go.eh Sc.xt
    refine .inl ⟨i2 (Nat.le_refl _), ?_⟩
    rw [List.drop_length] at eq
    have : dn = res := by simpa [compM, R.map, R.bind] using eq
    subst this
    exact hQ ws F1 H1 g h1 ra
def noRs {α : Type} : R α → R α
  | .ok a => .ok a
  | _ => .bad
def lcM (t : Tg) (vs : List Nat) (cb : List B → R Bool) (eb : List B → R D) (ρ : List B) (ds : List D) : R (List D) :=
  if ds.length ≤ 100000 then noRs (compM (fun d => tgR t (wipeB ρ vs) d cb) (fun d => tgR t (wipeB ρ vs) d eb) ds) else .bad
theorem lcM_ok {t : Tg} {vs : List Nat} {cb : List B → R Bool} {eb : List B → R D} {ds : List D} {α : Type} {Pf : R (List D) → Prop} (h : Pf (lcM t vs cb eb ρ ds)) (hb : ¬ Pf .bad) :
    ds.length ≤ 100000 ∧ ∃ res, compM (fun d => tgR t (wipeB ρ vs) d cb) (fun d => tgR t (wipeB ρ vs) d eb) ds = .ok res ∧ Pf (.ok res) := by
  unfold lcM at h
  split at h
  · rename_i hl
    refine ⟨hl, ?_⟩
    cases e : compM (fun d => tgR t (wipeB ρ vs) d cb) (fun d => tgR t (wipeB ρ vs) d eb) ds with
    | bad => rw [e] at h; exact absurd h hb
    | rs x => rw [e] at h; exact absurd h hb
    | ok res => rw [e] at h; exact ⟨res, rfl, h⟩
  · exact absurd h hb
section
variable {elt tg iter : Expr} {ifs : List Expr} {scope : Scope} {own : List (Str × Nat)} {t : Tg} {r : R (List D)} {cb : List B → R Bool} {eb : List B → R D}
theorem lc_read {σ : L2.St} {H : Hp} {Q : VK} (hsl : ∀ i ∈ t.slots, i ∈ own.map (·.2)) (h : cF X.K X.mg W ρ (r.bind fun ds => lcM t (own.map (·.2)) cb eb ρ ds) σ H Q) :
    tLc (cI X.K X.mg W ρ r) (t.g X.K) (fun σ H Q => ∃ ρ', cG X.K X.mg RpT WF ρ' (cb ρ') σ H Q) (fun σ H Q => ∃ ρ', cG X.K X.mg (RpE X.K X.mg) WF ρ' (eb ρ') σ H Q) (own.map (·.2)) σ H Q := by
  obtain ⟨F0, H0, F, S, p⟩ := h
  refine ⟨F0, H0, F, S, ?_⟩
  cases r with
  | bad => exact p
  | rs x => exact p
  | ok ds =>
    intro J F1 H1 g it D0 hD0
    have p1 : PostF X.K X.mg W σ F1 H1 (lcM t (own.map (·.2)) cb eb ρ ds) Q := PostF.go g p
    obtain ⟨hl, res, hres, pr⟩ := lcM_ok (α := Unit) (Pf := fun r => PostF X.K X.mg W σ F1 H1 r Q) p1 id
    exact lc_data (fun _ => rfl) (fun _ => rfl) hsl (S.step g) it hl hD0 hres fun ws F2 H2 g2 h2 ra => pr D0 ws F2 H2 g2 h2 ra
theorem cf_lc (hc : X.calm = true) (hN : X.N.Nodup) (hi : CI X W tg ρ iter r) (ok : BlkOk X.N X.env.scope scope own)
    (hg : ∀ (s : Shared) (H : Hp) (C : Addr) (cl : List (Str × Addr)) (fp : List Addr), CG (X.blk s H scope (compEnvC scope cl C X.env) fp) tg t)
    (ht : ∀ (s : Shared) (H : Hp) (C : Addr) (cl : List (Str × Addr)) (fp : List Addr) (ρ : List B), CPs (X.blk s H scope (compEnvC scope cl C X.env) fp) WF ρ ifs (cb ρ))
    (he : ∀ (s : Shared) (H : Hp) (C : Addr) (cl : List (Str × Addr)) (fp : List Addr) (ρ : List B), CE (X.blk s H scope (compEnvC scope cl C X.env) fp) WF ρ elt (eb ρ))
    (hsl : ∀ i ∈ t.slots, i ∈ own.map (·.2) := by decide) (hs : ∀ x, foldedSetIterable iter X.env x = pure x := by intro _; rfl) :
    CF X W ρ (.ListComp elt [⟨tg, iter, ifs, 0⟩] scope pos) (r.bind fun ds => lcM t (own.map (·.2)) cb eb ρ ds) :=
  ⟨fun pins s σ H Q I h => (pe_lc (g := t.g X.K) hc hN hi ok hg (fun s H C cl fp => ⟨fun pins s' σ H' Q I ⟨ρ', q⟩ => (ht s H C cl fp ρ').run pins s' σ H' Q I q⟩) (fun s H C cl fp => ⟨fun pins s' σ H' Q I ⟨ρ', q⟩ => (he s H C cl fp ρ').run pins s' σ H' Q I q⟩) hs).run pins s σ H Q I (lc_read hsl h)⟩
/-- y = [..]: a value for good -/
theorem cs_setLc (i : Nat) {y : Str} {py : Pos} {spos : Pos} (hc : X.calm = true) (hN : X.N.Nodup) (hi : CI X W tg ρ iter r) (ok : BlkOk X.N X.env.scope scope own)
    (hg : ∀ (s : Shared) (H : Hp) (C : Addr) (cl : List (Str × Addr)) (fp : List Addr), CG (X.blk s H scope (compEnvC scope cl C X.env) fp) tg t)
    (ht : ∀ (s : Shared) (H : Hp) (C : Addr) (cl : List (Str × Addr)) (fp : List Addr) (ρ : List B), CPs (X.blk s H scope (compEnvC scope cl C X.env) fp) WF ρ ifs (cb ρ))
    (he : ∀ (s : Shared) (H : Hp) (C : Addr) (cl : List (Str × Addr)) (fp : List Addr) (ρ : List B), CE (X.blk s H scope (compEnvC scope cl C X.env) fp) WF ρ elt (eb ρ))
    (hsw : swapsWith (.ListComp elt [⟨tg, iter, ifs, 0⟩] scope pos) (some (.Name y py)) spos.line X.env = pure true)
    (hy : X.N[i]? = some y := by rfl) (hyl : X.env.scope.names.lookup y = some .local := by rfl)
    (hsl : ∀ i ∈ t.slots, i ∈ own.map (·.2) := by decide) (hs : ∀ x, foldedSetIterable iter X.env x = pure x := by intro _; rfl) :
    CS X W ρ (.Assign [.Name y py] (.ListComp elt [⟨tg, iter, ifs, 0⟩] scope pos) spos) (onE (r.bind fun ds => lcM t (own.map (·.2)) cb eb ρ ds) ρ fun ds => some (.nx (ρ.set i (.dat (.list ds))))) :=
  ⟨fun pins s σ H Dn I ⟨F0, H0, F, S, p⟩ => (ps_setLc (g := t.g X.K) hc hN hy hyl hsw hi ok hg (fun s H C cl fp => ⟨fun pins s' σ H' Q I ⟨ρ', q⟩ => (ht s H C cl fp ρ').run pins s' σ H' Q I q⟩) (fun s H C cl fp => ⟨fun pins s' σ H' Q I ⟨ρ', q⟩ => (he s H C cl fp ρ').run pins s' σ H' Q I q⟩) hs).run pins s σ H Dn I
    (lc_read (Q := fun x H1 => gName i x σ H1 Dn.nx) hsl ⟨F0, H0, F, S, PostS.onF S p fun ds q vs F1 H1 _ g S1 hq r p1 => by
      have g2 := Go.alloc (o := .lst vs) g.xt hq
      exact p1 _ _ _ ((S1.step g2).set (rep_lst.mpr ⟨q, vs, rfl, upd_same, r.mono g2.ef⟩)) g2.ef⟩)⟩
end
end
end RB


set_option Elab.async false
set_option linter.all false
set_option maxRecDepth 100000
set_option maxHeartbeats 2000000
namespace RB
open PySem L2 PySem.Spec PyProof.Rows
/-! ### short forms of the functions -/
abbrev consF (r : R D) (rs : R (List (Bool × D))) : R (List (Bool × D)) := r.bind fun x => rs.map fun xs => (false, x) :: xs
abbrev consT (r : R D) (rs : R (List (Bool × D))) : R (List (Bool × D)) := r.bind fun x => rs.map fun xs => (true, x) :: xs
abbrev b2 {α : Type} (f : D → D → R α) (ra rb : R D) : R α := ra.bind fun x => rb.bind fun y => f x y
abbrev lstM (r : R (List (Bool × D))) : R (List D) := r.bind fun xs => (unfl xs).bind small
abbrev tupM (r : R (List (Bool × D))) : R D := r.bind fun xs => (unfl xs).bind fun ds => (small ds).map .tuple
abbrev sliceM (ra : R D) (rl rh : R (Option Int)) : R (List D) := ra.bind fun x => rl.bind fun l => rh.bind fun h => (lstOf x).map fun ds => cutG ds l h
abbrev sliceTM (ra : R D) (rl rh : R (Option Int)) : R D := ra.bind fun x => rl.bind fun l => rh.bind fun h => cutTD x l h
abbrev sliceSM (ra : R D) (rl rh : R (Option Int)) : R D := ra.bind fun x => rl.bind fun l => rh.bind fun h => cutSD x l h
abbrev catM (ra rb : R D) : R (List D) := ra.bind fun x => rb.bind fun y => (lstOf x).bind fun xs => (lstOf y).bind fun ys => small (xs ++ ys)
abbrev repM (ra rb : R D) : R (List D) := ra.bind fun x => rb.bind fun y => repD x y
abbrev notM (ra : R D) : R D := ra.bind fun x => (asB x).map fun k => .bool (!k)
abbrev notT (r : R Bool) : R Bool := r.map (! ·)
abbrev iteM (r : R Bool) (ra rb : R D) : R D := r.bind fun k => if k = true then ra else rb
abbrev ifO (r : R Bool) (ρ : List B) (o1 o2 : Option Out) : Option Out := onE r ρ fun k => if k = true then o1 else o2
abbrev letρ (ρ : List B) (k : List B → Option Out) : Option Out := k ρ
abbrev bcall (f : List D → R D) (r : R (List (Bool × D))) : R D := r.bind fun xs => f (xs.map (·.2))
abbrev ltD : D → D → R D := intB fun i j => decide (i < j)
abbrev leD : D → D → R D := intB fun i j => decide (i ≤ j)
abbrev gtD : D → D → R D := intB fun i j => decide (j < i)
abbrev geD : D → D → R D := intB fun i j => decide (j ≤ i)
theorem hu64 {k : Nat} {A : Around} (r : Room k A) : A.units + 64 < cLine := r.units
theorem hu65 {k : Nat} {A : Around} (r : Room k A) : A.units + 65 < cLine := by have := r.un; omega
theorem okfdiv (i j : Int) (h : (decide (j ≠ 0) && decide (j.natAbs < 1073741824)) = true) : CDivN i j := by
  simp only [Bool.and_eq_true, decide_eq_true_eq] at h
  exact h
theorem okmul (i j : Int) (h : decide (i.natAbs.log2 + j.natAbs.log2 < 1000000) = true) : CMulW i j := of_decide_eq_true (p := i.natAbs.log2 + j.natAbs.log2 < 1000000) h
theorem okmod (i j : Int) (h : decide (j ≠ 0) = true) : (fun _ j => j ≠ 0 : Int → Int → Prop) i j := of_decide_eq_true h
theorem okpow (i j : Int) (h : (decide (0 ≤ j) && decide (j ≤ 1000000) && decide (i.natAbs < 2 ^ 64)) = true) : CPow i j := by
  simp only [Bool.and_eq_true, decide_eq_true_eq] at h
  exact ⟨h.1.1, h.1.2, h.2⟩
/-- a module's constant -/
def GlobC (K : PySem.W.Frag) (mg : Str → Option Value) (x : Str) (d : D) : Prop := ∃ v u, mg x = some u ∧ RelV v u ∧ ∀ F, Rep K mg F d v
section
variable {X : Cx} {W : WX} {ρ : List B} {a b c e : Expr} {ra rb rc : R D} {pos : Pos}
theorem ce_glob {x : Str} {d : D} (G : GlobC X.K X.mg x d) (hg : Gl X x := by rfl) (hd : (x == ("__debug__" : Str)) = false := by decide) : CE X W ρ (.Name x pos) (.ok d) := by
  obtain ⟨v, u, h1, h2, h3⟩ := G
  exact ce_const (pe_glob hg h1 h2 hd) h3
def negD : D → R D
  | .int i => .ok (.int (-i))
  | _ => .bad
theorem ce_neg (ha : CE X W ρ a ra) : CE X W ρ (.UnaryOp .USub a pos) (ra.bind negD) :=
  ⟨fun pins s σ H Q I ⟨F0, H0, F, S, p⟩ => (pe_un un_neg ha).run pins s σ H Q I ⟨F0, H0, F, S, p.bind fun d v F1 H1 _ g r p1 => by
    unfold RpE at r
    cases d with
    | int i => exact ⟨i, rep_int.mp r, post_now g.xt p1 (by simp only [Rep])⟩
    | _ => exact p1.elim⟩⟩
end
end RB


set_option Elab.async false
set_option linter.all false
set_option maxRecDepth 100000
set_option maxHeartbeats 2000000
namespace RB
open PySem L2 PySem.Spec PyProof.Rows
section
variable {X : Cx} {W : WX} {ρ : List B} {a b c e : Expr} {ra rb rc : R D} {pos : Pos}
/-! ### list(x) -/
def listOf : D → R (List D)
  | .list ds => .ok ds
  | .tuple ds => .ok ds
  | _ => .bad
abbrev listM (r : R D) : R (List D) := r.bind listOf
theorem cf_list {p : Pos} (hm : X.mg "list" = none) (ha : CEw X W ρ a ra) (hg : Gl X "list" := by rfl) (hs : starEach (a :: []) X.env = (false, eval a X.env) :: starEach [] X.env := by rfl) (hpl : (backTo pos (starEach [] X.env)).any (·.1) = false := by rfl) :
    CF X W ρ (.Call (.Name "list" p) [a] [] pos) (ra.bind listOf) :=
  ⟨fun pins s σ H Q I ⟨F0, H0, F, S, p⟩ => (pe_callTy call_list_of hg hm (by decide +kernel) (pa_cons ha pa_nil hs) (by decide) (by decide) hs hpl).run pins s σ H Q I ⟨F0, H0, F, S, p.bind fun d v F1 H1 _ g r p1 => by
    cases d with
    | list ds =>
      obtain ⟨q, vs, rfl, h2, h3⟩ := repW_seq g.xt r
      exact ⟨q, vs, rfl, .inl h2, fun l hl => p1 l vs F1 H1 (Go.refl g.xt) hl h3⟩
    | tuple ds =>
      obtain ⟨q, vs, rfl, h2, h3⟩ := repW_tup g.xt r
      exact ⟨q, vs, rfl, .inr h2, fun l hl => p1 l vs F1 H1 (Go.refl g.xt) hl h3⟩
    | _ => exact p1.elim⟩⟩

/-! ### f-strings -/
def fmtD : D → R Str
  | .str s => if s.length ≤ sizeLine then .ok s else .bad
  | .int i => if i.natAbs.log2 < 1920 then .ok (toString i) else .bad
  | _ => .bad
/-- the parts one behind the other, from a text -/
def joinR : List (R Str) → Str → R Str
  | [], acc => .ok acc
  | r :: rs, acc => r.bind fun y => if (acc ++ y).length ≤ sizeLine then joinR rs (acc ++ y) else .bad
inductive CJ (X : Cx) (W : WX) (ρ : List B) : List Expr → List (R Str) → Prop where
  | nil : CJ X W ρ [] []
  | cons {e : Expr} {r : R Str} {es : List Expr} {rs : List (R Str)} (h : PE X e (cG X.K X.mg (fun _ _ s v => v = V.str s) W ρ r)) (t : CJ X W ρ es rs) : CJ X W ρ (e :: es) (r :: rs)
theorem cj_str {i j} : PE X (.Constant (.str i) j pos) (cG X.K X.mg (fun _ _ s v => v = V.str s) W ρ (.ok i)) := ⟨fun pins s σ H Q I ⟨F0, H0, F, S, p⟩ => pe_str.run pins s σ H Q I (p (.str i) F H (Go.refl S.xt) rfl)⟩
theorem cj_fmt (h : CE X W ρ a ra) : PE X (.FormattedValue a (-1) none pos) (cG X.K X.mg (fun _ _ s v => v = V.str s) W ρ (ra.bind fmtD)) :=
  ⟨fun pins s σ H Q I ⟨F0, H0, F, S, p⟩ => (pe_fmt h).run pins s σ H Q I ⟨F0, H0, F, S, p.bind fun d v F1 H1 _ g r p1 => by
    unfold RpE at r
    cases d with
    | str z =>
      simp only [fmtD] at p1
      split at p1
      · rename_i hz
        exact .inl ⟨z, rep_str.mp r, hz, p1 _ F1 H1 (Go.refl g.xt) rfl⟩
      · exact p1.elim
    | int i =>
      simp only [fmtD] at p1
      split at p1
      · rename_i hz
        exact .inr ⟨i, rep_int.mp r, hz, p1 _ F1 H1 (Go.refl g.xt) rfl⟩
      · exact p1.elim
    | _ => exact p1.elim⟩⟩
def cjT (K : PySem.W.Frag) (mg : Str → Option Value) (W : WX) (ρ : List B) (rs : List (R Str)) : List TE := rs.map fun r => cG K mg (fun _ _ s v => v = V.str s) W ρ r
theorem cj_pj {es : List Expr} {rs : List (R Str)} (h : CJ X W ρ es rs) : PJ X es (cjT X.K X.mg W ρ rs) := by
  induction h with
  | nil => exact .nil
  | cons h t ih => exact .cons h ih
theorem cj_run {K : PySem.W.Frag} {mg : Str → Option Value} {σ : L2.St} : ∀ {rs : List (R Str)} {acc : Str} {F0 H0 F H : Hp} {Q : VK}, RepS K mg F0 H0 F H σ ρ → Post K mg (RpE K mg) W σ F H ((joinR rs acc).map .str) Q → tJs (cjT K mg W ρ rs) acc σ H fun out H1 => Q (.str out) H1
  | [], acc, F0, H0, F, H, Q, S, p => p (.str acc) F H (Go.refl S.xt) (by show Rep K mg F (.str acc) (.str acc); simp only [Rep])
  | r :: rs, acc, F0, H0, F, H, Q, S, p => by
    have p' : Post K mg (RpE K mg) W σ F H (r.bind fun y => (if (acc ++ y).length ≤ sizeLine then joinR rs (acc ++ y) else .bad : R Str).map .str) Q := by
      cases r with
      | bad => exact p
      | ok y => exact p
      | rs x => exact p
    refine ⟨F0, H0, F, S, p'.bind fun d v F1 H1 _ g rv p1 => ?_⟩
    refine ⟨d, rv, ?_⟩
    by_cases hl : (acc ++ d).length ≤ sizeLine
    · rw [if_pos hl] at p1
      exact ⟨hl, cj_run (S.step g) p1⟩
    · rw [if_neg hl] at p1
      exact p1.elim
theorem ce_fstr {v1 v2 : Expr} {rest : List Expr} {rs : List (R Str)} (h : CJ X W ρ (v1 :: v2 :: rest) rs) : CE X W ρ (.JoinedStr (v1 :: v2 :: rest) pos) ((joinR rs Str.empty).map .str) :=
  ⟨fun pins s σ H Q I ⟨F0, H0, F, S, p⟩ => (pe_joined (cj_pj h)).run pins s σ H Q I (cj_run S p)⟩

/-! ### raise, try -/
/-- an own exception class without an own __init__ -/
structure ExcT (K : PySem.W.Frag) (mg : Str → Option Value) (x : Str) : Prop where
  ex : ∃ C, mg x = some (.ref C) ∧ PySem.W.excIn K C [.type "ValueError", .type "Exception", .type "BaseException", .type "object"] "ValueError.__new__" = true ∧ PySem.W.keepIn K (.ref C) = true ∧ PySem.W.subIn K (.ref C) (.type "BaseException") = some true ∧ PySem.W.typeIn K (.ref C) = some (.type "type")
theorem cs_raise1 {x : Str} {p rp : Pos} (kx : Kx X W) (T : ExcT X.K X.mg x) (he : CE X W ρ e ra) (hg : Gl X x := by rfl) (hs : starEach [e] X.env = (false, eval e X.env) :: starEach [] X.env := by rfl) (hdb : (x == ("__debug__" : Str)) = false := by decide) :
    CS X W ρ (.Raise (some (.Call (.Name x p) [e] [] pos)) none rp) (onE ra ρ fun _ => some (.rs ⟨x, none⟩ ρ)) := by
  obtain ⟨C, gC, xC, kC, bC, tC⟩ := T.ex
  exact ⟨fun pins s σ H Dn I ⟨F0, H0, F, S, q⟩ => (ps_raise kx.calm kx.tk (SkE.pmk_own1 PySem.F.excBase_ValueError xC gC kC (raises_own bC tC) hg he hs hdb)).run pins s σ H Dn I ⟨F0, H0, F, S, PostS.onE S q fun d v F1 H1 _ g S1 r p1 =>
    p1 σ F1 H1 (.ref C) none S1 (Ex.refl _) ⟨C, rfl, gC, rfl⟩⟩⟩
/-- which exceptions a clause takes: of the class itself; of no other one of the text -/
structure Takes1 (K : PySem.W.Frag) (mg : Str → Option Value) (x : Str) : Prop where
  own : ∃ C, mg x = some (.ref C) ∧ PySem.W.exmOne K (.ref C) (.ref C) = some true
def tryO (x : Str) (o : Option Out) (h : List B → Option Out) : Option Out := match o with
  | some (.rs e ρ) => if e.cls = x then h ρ else none
  | o => o
theorem cs_try_only {x : Str} {body suite : List Stmt} {b₀ : Stmt} {np pos' : Pos} {o : Option Out} {h : List B → Option Out} (kx : Kx X W) (hst : X.stack = X.env :: X.outer) (hfr : X.env.frame = some X.env.locals) (T : Takes1 X.K X.mg x)
    (hb : ∀ (W : WX) (pn : List (Addr × Obj)) (xe : Value → Shared → Prop), Kx (X.tr pn xe) W → CSs (X.tr pn xe) W ρ body o)
    (hh : ∀ (a : Addr) (oe : Obj) (cls : Value) (d : Option Addr) (pn : List (Addr × Obj)) (ρ : List B), Zc cls d oe → (∃ vs, oe.data = .fields vs) → CSs (X.suite a ((a, oe) :: pn)) W ρ (b₀ :: suite) (h ρ))
    (hg : Gl X x := by rfl) (hdb : (x == ("__debug__" : Str)) = false := by decide) :
    CS X W ρ (.Try body [.ExceptHandler (some (.Name x np)) none (b₀ :: suite) pos'] [] [] pos) (tryO x o h) := by
  obtain ⟨C, gC, tC⟩ := T.own
  refine ⟨fun pins s σ H Dn I hyp => ?_⟩
  refine (ps_try_only (c := .ref C) (Wout := W) (tb := fun W' => cS X.K X.mg W' ρ o) (ts := fun a cls d D σ H => ∃ ρ', cS X.K X.mg W ρ' (h ρ') D σ H) hst hfr ⟨hg, hdb, .inl gC⟩ kx.tk
    (fun W' pn xe tk hp => hb W' pn xe ⟨kx.calm, tk, hp⟩) (fun a oe cls d pn hz hf => ⟨fun pins s σ H Dn I ⟨ρ', q⟩ => (hh a oe cls d pn ρ' hz hf).run pins s σ H Dn I q⟩)).run pins s σ H Dn I ?_
  obtain ⟨F0, H0, F, S, p⟩ := hyp
  refine ⟨F0, H0, F, S, ?_⟩
  cases o with
  | none => exact p
  | some o =>
    cases o with
    | nx ρ' => exact p
    | rt d => exact p
    | bk ρ' => exact p
    | ct ρ' => exact p
    | rs ex ρ' =>
      intro σ' F' H' cls dd S' e' er
      simp only [tryO] at p
      split at p
      · rename_i hx
        obtain ⟨C', rfl, g', _⟩ := er
        rw [hx, gC] at g'
        cases g'
        exact ⟨true, tC, fun _ a ha => ⟨ρ', F0, H0, F', S', PostS.mono e' p⟩, fun z => nomatch z⟩
      · exact p.elim

/-! ### instances -/
structure ClsF (K : PySem.W.Frag) (mg : Str → Option Value) (c f : Str) : Prop where
  ok : ∀ C, mg c = some (.ref C) → Cls K C ∧ NoAttr K C f
def lookKV (f : Str) : List (D × D) → Option D
  | [] => none
  | (k, d) :: r => match k with
    | .str s => if f = s then some d else lookKV f r
    | _ => lookKV f r
def fldD (c f : Str) : D → R D
  | .dict ((.none, .str c') :: kvs) => if c' = c then R.of (lookKV f kvs) else .bad
  | _ => .bad
theorem lookKV_rep {K : PySem.W.Frag} {mg : Str → Option Value} {F : Hp} {f : Str} {d : D} : ∀ {kvs : List (D × D)} {fs : List (Str × V)}, RepKV K mg F kvs (fs.map fun p => (PyData.str p.1, p.2)) → lookKV f kvs = some d → ∃ v, fs.lookup f = some v ∧ Rep K mg F d v
  | [], fs, r, h => by simp [lookKV] at h
  | (k, d0) :: kvs, fs, r, h => by
    simp only [RepKV] at r
    obtain ⟨v, r', h1, h2, h3⟩ := r
    cases fs with
    | nil => simp at h1
    | cons p fs =>
      simp only [List.map_cons, List.cons.injEq, Prod.mk.injEq] at h1
      obtain ⟨⟨rfl, rfl⟩, rfl⟩ := h1
      simp only [lookKV] at h
      by_cases hf : f = p.1
      · rw [if_pos hf] at h
        cases h
        refine ⟨p.2, ?_, h2⟩
        rw [List.lookup_cons, hf]
        simp
      · rw [if_neg hf] at h
        obtain ⟨v, q1, q2⟩ := lookKV_rep h3 h
        refine ⟨v, ?_, q2⟩
        rw [List.lookup_cons]
        have : (f == p.1) = false := by simpa using hf
        rw [this]
        exact q1
theorem ins_rep {K : PySem.W.Frag} {mg : Str → Option Value} {F : Hp} {c : Str} {kvs : List (D × D)} {v : V} (r : Rep K mg F (.dict ((.none, .str c) :: kvs)) v) :
    ∃ (a C dx : Addr) (fs : List (Str × V)), v = .ref a ∧ mg c = some (.ref C) ∧ F a = some (.ins C dx fs) ∧ RepKV K mg F kvs (fs.map fun p => (PyData.str p.1, p.2)) := by
  obtain ⟨a, ws, rfl, h, k⟩ := rep_dict.mp r
  simp only [RepKV] at k
  obtain ⟨v0, r', h1, h2, h3⟩ := k
  rcases h with ⟨kv, h4, _⟩ | ⟨kv, h4, _⟩ | ⟨c', C, dx, fs, h4, h5, h6⟩
  · rw [h4] at h1
    cases kv with
    | nil => simp at h1
    | cons p kv =>
      obtain ⟨k1, k2⟩ := p
      cases k1 <;> simp [keyD] at h1
  · rw [h4] at h1
    simp at h1
  · rw [h4] at h1
    simp only [List.cons.injEq, Prod.mk.injEq, true_and] at h1
    obtain ⟨rfl, rfl⟩ := h1
    simp only [Rep, V.str.injEq] at h2
    subst h2
    exact ⟨a, C, dx, fs, rfl, h5, h6, h3⟩
theorem fldD_ok {c f : Str} {d r : D} (h : fldD c f d = .ok r) : ∃ kvs, d = .dict ((.none, .str c) :: kvs) ∧ lookKV f kvs = some r := by
  unfold fldD at h
  split at h
  · rename_i c' kvs
    split at h
    · rename_i e
      subst e
      refine ⟨kvs, rfl, ?_⟩
      cases q : lookKV f kvs with
      | none => rw [q] at h; cases h
      | some x => rw [q] at h; cases h; rfl
    · cases h
  · cases h
theorem fldD_nors {c f : Str} {d : D} {x : Exn} : fldD c f d ≠ .rs x := by
  unfold fldD
  split
  · split
    · rename_i kvs _
      cases lookKV f kvs <;> exact fun z => nomatch z
    · exact fun z => nomatch z
  · exact fun z => nomatch z
theorem ce_fld {c f : Str} (T : ClsF X.K X.mg c f) (he : CE X W ρ e ra) (hb : attributeBase e f X.env (eval e X.env) = eval e X.env := by rfl) : CE X W ρ (.Attribute e f pos) (ra.bind (fldD c f)) :=
  ⟨fun pins s σ H Q I ⟨F0, H0, F, S, p⟩ => (pe_fld he hb).run pins s σ H Q I ⟨F0, H0, F, S, p.bind fun d v F1 H1 _ g r p1 => by
    cases q : fldD c f d with
    | bad => rw [q] at p1; exact p1.elim
    | rs x => exact absurd q fldD_nors
    | ok y =>
      rw [q] at p1
      obtain ⟨kvs, rfl, hl⟩ := fldD_ok q
      obtain ⟨a', C, dx, fs, rfl, h1, h2, h3⟩ := ins_rep r
      obtain ⟨cl, na⟩ := T.ok C h1
      obtain ⟨u, h4, h5⟩ := lookKV_rep h3 hl
      exact ⟨a', C, dx, fs, u, rfl, g.xt _ _ h2, cl, na, h4, post_now g.xt p1 h5⟩⟩⟩
/-- a method of the text -/
structure MethT (P : Program) (w : World) (K : PySem.W.Frag) (mg : Str → Option Value) (base : Heap) (c m : Str) (k : Nat) (fl : List Bool) (f : List D → R D) : Prop where
  ex : ∃ C fa fd ps, mg c = some (.ref C) ∧ Cls K C ∧ FnOk P w K mg base (L2.CX P w) k fa fd ps (spM K mg (false :: fl) f) ∧ Meth K C m fa ∧ Binds K fd ps []
/-- the shape of a method's call, with plain arguments -/
abbrev MForm (X : Cx) (o : Expr) (m : Str) (apos : Pos) (es : List Expr) (pos : Pos) (pl : Sem Bool) : Prop :=
  eval (.Call (.Attribute o m apos) es [] pos) X.env = (do let v ← eval o X.env; standAt apos.atName; let (g, one) ← holding [v] (getMethod v m pl); callWith pos g one (backTo pos (starEach es X.env)) (backToKw pos (keywordEach [] X.env)))
/-- the object, then its method, then whatever the call does -/
theorem meth_both {o : Expr} {m : Str} {apos : Pos} {es : List Expr} {C f : Addr} {ta : TE} {pl : Sem Bool} {tt : V → L2.St → Hp → VK → Prop} (he : PE X o ta) (c : Cls X.K C) (hm : Meth X.K C m f) (mf : MForm X o m apos es pos pl)
    (go : ∀ {pins : List (Addr × Obj)} {σ : L2.St} {H : Hp} {s : Shared} {Q : VK} {a : Addr}, L2.Inv X pins σ H s → tt (.ref a) σ H Q → wpAny (model X.prog X.w) X.A (callWith pos (.ref f) [.ref a] (backTo pos (starEach es X.env)) (backToKw pos (keywordEach [] X.env))) (EP X pins σ Q) X.xe s) :
    PE X (.Call (.Attribute o m apos) es [] pos) (fun σ H Q => ta σ H fun x H1 => ∃ a dx fs, x = .ref a ∧ H1 a = some (.ins C dx fs) ∧ fs.lookup m = none ∧ tt x σ H1 Q) := by
  constructor
  intro pins s σ H Q I h
  refine PySem.W.methodCall_KW (pl := pl) (thn (PE.run he pins s σ H _ I h) ?_) mf
  rintro w t ⟨_, G, J, hw, q, dq, fq, rfl, at_q, out, rest⟩
  cases (show w = Value.ref q from hw)
  exact getmeth_ok J at_q c hm out (go J rest)
theorem pe_methS {o : Expr} {m : Str} {apos : Pos} {es : List Expr} {C f : Addr} {k : Nat} {fd : FuncData} {ps : List Str} {sp : Sp} {E : L2.St → XK} {ta : TE} {t : TA} {pl : Sem Bool} (he : PE X o ta) (c : Cls X.K C) (hm : Meth X.K C m f) (F : FnOk X.prog X.w X.K X.mg X.base (L2.CX X.prog X.w) k f fd ps sp) (hr : Room k X.A) (hb : Binds X.K fd ps []) (hx : ∀ σ, PassesAt (L2.CX X.prog X.w) X σ (E σ)) (ha : PA X (e :: es) t)
    (hst : starEach (e :: es) X.env = (false, eval e X.env) :: starEach es X.env) (hpl : (backTo pos (starEach es X.env)).any (·.1) = false) (mf : MForm X o m apos (e :: es) pos pl) :
    PE X (.Call (.Attribute o m apos) (e :: es) [] pos) (fun σ H Q => ta σ H fun x H1 => ∃ a dx fs, x = .ref a ∧ H1 a = some (.ins C dx fs) ∧ fs.lookup m = none ∧ t σ H1 fun vs H2 => sp (x :: vs) H2 Q (E σ)) :=
  meth_both he c hm mf (tt := fun x σ H Q => t σ H fun vs H2 => sp (x :: vs) H2 Q (E σ)) fun {_ σ _ _ _ q} J rest =>
    PySem.W.callWith_K (h₀ := X.base) (first := [.ref q]) J.ok.mod.kin hm.kp (thn (PA.run ha pos _ _ σ _ _ J rest) fun us _ ⟨vs, _, J2, rel, want⟩ => ⟨J2.kIn, run_fnS (us := .ref q :: us) (vs := .ref q :: vs) F hr hb (hx σ) J2 (.cons rfl rel) want⟩) hst hpl
theorem pe_methS0 {o : Expr} {m : Str} {apos : Pos} {C f : Addr} {k : Nat} {fd : FuncData} {ps : List Str} {sp : Sp} {E : L2.St → XK} {ta : TE} {pl : Sem Bool} (he : PE X o ta) (c : Cls X.K C) (hm : Meth X.K C m f) (F : FnOk X.prog X.w X.K X.mg X.base (L2.CX X.prog X.w) k f fd ps sp) (hr : Room k X.A) (hb : Binds X.K fd ps []) (hx : ∀ σ, PassesAt (L2.CX X.prog X.w) X σ (E σ)) (mf : MForm X o m apos [] pos pl) :
    PE X (.Call (.Attribute o m apos) [] [] pos) (fun σ H Q => ta σ H fun x H1 => ∃ a dx fs, x = .ref a ∧ H1 a = some (.ins C dx fs) ∧ fs.lookup m = none ∧ sp [x] H1 Q (E σ)) :=
  meth_both he c hm mf (tt := fun x σ H Q => sp [x] H Q (E σ)) fun {_ σ _ _ _ q} J want => PySem.W.callWith_K0 (first := [.ref q]) J.kIn hm.kp (run_fnS (us := [.ref q]) (vs := [.ref q]) F hr hb (hx σ) J (.cons rfl .nil) want)
/-- the object has no field of the method's name -/
def insOf (c m : Str) (d : D) : R D := match d with
  | .dict ((.none, .str c') :: kvs) => if c' = c ∧ lookKV m kvs = none then .ok d else .bad
  | _ => .bad
theorem lookKV_none {K : PySem.W.Frag} {mg : Str → Option Value} {F : Hp} {f : Str} : ∀ {kvs : List (D × D)} {fs : List (Str × V)}, RepKV K mg F kvs (fs.map fun p => (PyData.str p.1, p.2)) → lookKV f kvs = none → fs.lookup f = none
  | [], fs, r, h => by
    simp only [RepKV] at r
    cases fs with
    | nil => rfl
    | cons p fs => simp at r
  | (k, d0) :: kvs, fs, r, h => by
    simp only [RepKV] at r
    obtain ⟨v, r', h1, h2, h3⟩ := r
    cases fs with
    | nil => simp at h1
    | cons p fs =>
      simp only [List.map_cons, List.cons.injEq, Prod.mk.injEq] at h1
      obtain ⟨⟨rfl, rfl⟩, rfl⟩ := h1
      simp only [lookKV] at h
      by_cases hf : f = p.1
      · rw [if_pos hf] at h
        cases h
      · rw [if_neg hf] at h
        rw [List.lookup_cons]
        have : (f == p.1) = false := by simpa using hf
        rw [this]
        exact lookKV_none h3 h
theorem insOf_ok {c m : Str} {d y : D} (h : insOf c m d = .ok y) : y = d ∧ ∃ kvs, d = .dict ((.none, .str c) :: kvs) ∧ lookKV m kvs = none := by
  unfold insOf at h
  split at h
  · split at h
    · rename_i e
      cases h
      obtain ⟨rfl, h2⟩ := e
      exact ⟨rfl, _, rfl, h2⟩
    · cases h
  · cases h
theorem insOf_nors {c m : Str} {d : D} {x : Exn} : insOf c m d ≠ .rs x := by
  unfold insOf
  split
  · split <;> exact fun z => nomatch z
  · exact fun z => nomatch z
theorem ce_meth {o : Expr} {c m : Str} {apos : Pos} {es : List Expr} {k : Nat} {fl : List Bool} {f : List D → R D} {r : R (List (Bool × D))} {pl : Sem Bool} (tk : Takes X W) (T : MethT X.prog X.w X.K X.mg X.base c m k fl f) (hr : Room k X.A) (ho : CE X W ρ o ra) (ha : CA X W ρ (e :: es) r)
    (hst : starEach (e :: es) X.env = (false, eval e X.env) :: starEach es X.env := by rfl) (hpl : (backTo pos (starEach es X.env)).any (·.1) = false := by rfl)
    (ht : MForm X o m apos (e :: es) pos pl := by rfl) :
    CE X W ρ (.Call (.Attribute o m apos) (e :: es) [] pos) (ra.bind fun d => (insOf c m d).bind fun d => r.bind fun xs => callM (false :: fl) f ((false, d) :: xs)) := by
  obtain ⟨C, fa, fd, ps, gC, cl, G, hm, hb⟩ := T.ex
  refine ⟨fun pins s σ H Q I ⟨F0, H0, F, S, p⟩ => (pe_methS (pl := pl) (E := WE W) ho cl hm G hr hb (fun σ => passAt tk σ) ha hst hpl ht).run pins s σ H Q I ⟨F0, H0, F, S, p.bind fun d v F1 H1 _ g rv p1 => ?_⟩⟩
  cases q : insOf c m d with
  | bad => rw [q] at p1; exact p1.elim
  | rs x => exact absurd q insOf_nors
  | ok y =>
    rw [q] at p1
    obtain ⟨rfl, kvs, rfl, hl⟩ := insOf_ok q
    obtain ⟨a', C', dx, fs, rfl, h1, h2, h3⟩ := ins_rep rv
    rw [gC] at h1
    cases h1
    have p1' : Post X.K X.mg (RpE X.K X.mg) W σ F1 H1 (r.bind fun xs => callM (false :: fl) f ((false, PyData.dict ((.none, .str c) :: kvs)) :: xs)) Q := p1
    refine ⟨a', dx, fs, rfl, g.xt _ _ h2, lookKV_none h3 hl, F0, H0, F1, S.step g, p1'.bind fun xs vs F2 H2 _ g2 r2 p2 => ?_⟩
    unfold callM at p2
    split at p2
    · rename_i hok
      have ra' : RepArgs X.K X.mg F2 H2 ((false, PyData.dict ((.none, .str c) :: kvs)) :: xs) (V.ref a' :: vs) := ⟨_, _, rfl, Rep.mono g2.ef _ _ rv, r2⟩
      exact ⟨F2, _, g2.xt, okFl_rep hok ra', Post.wish p2⟩
    · exact p2.elim
theorem ce_meth0 {o : Expr} {c m : Str} {apos : Pos} {k : Nat} {f : List D → R D} {pl : Sem Bool} (tk : Takes X W) (T : MethT X.prog X.w X.K X.mg X.base c m k [] f) (hr : Room k X.A) (ho : CE X W ρ o ra)
    (ht : MForm X o m apos [] pos pl := by rfl) :
    CE X W ρ (.Call (.Attribute o m apos) [] [] pos) (ra.bind fun d => (insOf c m d).bind fun d => f [d]) := by
  obtain ⟨C, fa, fd, ps, gC, cl, G, hm, hb⟩ := T.ex
  refine ⟨fun pins s σ H Q I ⟨F0, H0, F, S, p⟩ => (pe_methS0 (pl := pl) (E := WE W) ho cl hm G hr hb (fun σ => passAt tk σ) ht).run pins s σ H Q I ⟨F0, H0, F, S, p.bind fun d v F1 H1 _ g rv p1 => ?_⟩⟩
  cases q : insOf c m d with
  | bad => rw [q] at p1; exact p1.elim
  | rs x => exact absurd q insOf_nors
  | ok y =>
    rw [q] at p1
    obtain ⟨rfl, kvs, rfl, hl⟩ := insOf_ok q
    obtain ⟨a', C', dx, fs, rfl, h1, h2, h3⟩ := ins_rep rv
    rw [gC] at h1
    cases h1
    have p1' : Post X.K X.mg (RpE X.K X.mg) W σ F1 H1 (f [PyData.dict ((.none, .str c) :: kvs)]) Q := p1
    exact ⟨a', dx, fs, rfl, g.xt _ _ h2, lookKV_none h3 hl, F1, [PyData.dict ((.none, .str c) :: kvs)], g.xt, ⟨rfl, _, _, rfl, rv, rfl⟩, Post.wish p1'⟩
/-- a property of the text -/
structure PropT (P : Program) (w : World) (K : PySem.W.Frag) (mg : Str → Option Value) (base : Heap) (c m : Str) (k : Nat) (f : List D → R D) : Prop where
  ex : ∃ C p fa fd ps, mg c = some (.ref C) ∧ Cls K C ∧ FnOk P w K mg base (L2.CX P w) k fa fd ps (spM K mg [false] f) ∧ PropOf K C m p fa ∧ Binds K fd ps []
def propOf (c : Str) (d : D) : R D := match d with
  | .dict ((.none, .str c') :: _) => if c' = c then .ok d else .bad
  | _ => .bad
theorem propOf_ok {c : Str} {d y : D} (h : propOf c d = .ok y) : y = d ∧ ∃ kvs, d = .dict ((.none, .str c) :: kvs) := by
  unfold propOf at h
  split at h
  · split at h
    · rename_i e
      cases h
      subst e
      exact ⟨rfl, _, rfl⟩
    · cases h
  · cases h
theorem propOf_nors {c : Str} {d : D} {x : Exn} : propOf c d ≠ .rs x := by
  unfold propOf
  split
  · split <;> exact fun z => nomatch z
  · exact fun z => nomatch z
theorem ce_prop {o : Expr} {c m : Str} {k : Nat} {f : List D → R D} (T : PropT X.prog X.w X.K X.mg X.base c m k f) (hr : Room (k + 1) X.A) (ho : CE X W ρ o ra) (hab : attributeBase o m X.env (eval o X.env) = eval o X.env := by rfl) :
    CE X W ρ (.Attribute o m pos) (ra.bind fun d => (propOf c d).bind fun d => noRs (f [d])) := by
  obtain ⟨C, pp, fa, fd, ps, gC, cl, G, hp, hb⟩ := T.ex
  refine ⟨fun pins s σ H Q I ⟨F0, H0, F, S, p⟩ => (pe_prop (E := E0) ho cl hp G hr hb .nil passL hab).run pins s σ H Q I ⟨F0, H0, F, S, p.bind fun d v F1 H1 _ g rv p1 => ?_⟩⟩
  cases q : propOf c d with
  | bad => rw [q] at p1; exact p1.elim
  | rs x => exact absurd q propOf_nors
  | ok y =>
    rw [q] at p1
    obtain ⟨rfl, kvs, rfl⟩ := propOf_ok q
    obtain ⟨a', C', dx, fs, rfl, h1, h2, h3⟩ := ins_rep rv
    rw [gC] at h1
    cases h1
    refine ⟨a', dx, fs, rfl, g.xt _ _ h2, F1, [PyData.dict ((.none, .str c) :: kvs)], g.xt, ⟨rfl, _, _, rfl, rv, rfl⟩, ?_⟩
    have p1' : Post X.K X.mg (RpE X.K X.mg) W σ F1 H1 (noRs (f [PyData.dict ((.none, .str c) :: kvs)])) Q := p1
    revert p1'
    cases f [PyData.dict ((.none, .str c) :: kvs)] with
    | bad => exact id
    | rs x => exact fun z => z.elim
    | ok y => exact id
/-- a, b = e -/
theorem cs_unpack {es : List Expr} {kk : Nat} {tpos : Pos} {is : List Nat} (he : CE X W ρ e ra) (hg : CG X (.Tuple es kk tpos) (.many is)) (hs : swapsWithSole [.Tuple es kk tpos] e pos.line X.env = pure false := by rfl) (hw : swappedStores [.Tuple es kk tpos] e X.env = pure none := by rfl)
    (h1 : (assignEach [.Tuple es kk tpos] X.env).map (·.2) = [assign (.Tuple es kk tpos) X.env] := by rfl) : CS X W ρ (.Assign [.Tuple es kk tpos] e pos) (onE ra ρ fun d => ((Tg.many is).set d ρ).map .nx) :=
  ⟨fun pins s σ H Dn I ⟨F0, H0, F, S, p⟩ => (ps_asg he hg hs hw h1).run pins s σ H Dn I ⟨F0, H0, F, S, PostS.onE S p fun d v F1 H1 _ g S1 r p1 => by
    cases q : (Tg.many is).set d ρ with
    | none => rw [q] at p1; exact p1.elim
    | some ρ' =>
      rw [q] at p1
      exact Tg.ok (ws := is) q r S1 (fun j hj => hj) fun σ' S' _ => p1 σ' F1 H1 S' (Ex.refl _)⟩⟩
end
end RB


set_option Elab.async false
set_option linter.all false
set_option maxRecDepth 100000
set_option maxHeartbeats 2000000
namespace RB
open PySem L2 PySem.Spec PyProof.Rows
/-! ### instances made -/
def putG {α : Type} (f : Str) (v : α) : List (Str × α) → List (Str × α)
  | [] => [(f, v)]
  | (g, u) :: r => if g = f then (g, v) :: r else (g, u) :: putG f v r
theorem putG_F (f : Str) (v : V) : ∀ fs : List (Str × V), putF f v fs = putG f v fs
  | [] => rfl
  | (g, u) :: r => by
    show (if g = f then _ else _) = (if g = f then _ else _)
    split
    · rfl
    · rw [putG_F f v r]
theorem putG_len {α : Type} (f : Str) (v : α) : ∀ fs : List (Str × α), (putG f v fs).length ≤ fs.length + 1
  | [] => Nat.le_refl _
  | (g, u) :: r => by
    unfold putG
    split
    · simp
    · simp [putG_len f v r]
theorem RepKs.putG {K : PySem.W.Frag} {mg : Str → Option Value} {F : Hp} {f : Str} {d : D} {v : V} (r : Rep K mg F d v) : ∀ {ds : List (Str × D)} {vs : List (Str × V)}, RepKs K mg F ds vs → RepKs K mg F (RB.putG f d ds) (RB.putG f v vs)
  | [], vs, h => by
    have : vs = [] := by simpa [RepKs] using h.1
    subst this
    exact ⟨rfl, RepAll.one r⟩
  | (k, d0) :: ds, [], h => by simp [RepKs] at h
  | (k, d0) :: ds, (k', v0) :: vs, h => by
    obtain ⟨h1, h2⟩ := h
    simp only [List.map_cons, List.cons.injEq] at h1
    obtain ⟨rfl, h1⟩ := h1
    simp only [List.map_cons, RepAll, List.cons.injEq] at h2
    obtain ⟨v1, r1, ⟨rfl, rfl⟩, h3, h4⟩ := h2
    unfold RB.putG
    split
    · refine ⟨by simp [h1], ?_⟩
      simp only [List.map_cons, RepAll]
      exact ⟨_, _, rfl, r, h4⟩
    · obtain ⟨q1, q2⟩ := RepKs.putG (f := f) r (ds := ds) (vs := vs) ⟨h1, h4⟩
      refine ⟨by simp [q1], ?_⟩
      simp only [List.map_cons, RepAll]
      exact ⟨_, _, rfl, h3, q2⟩
theorem RepKs.len {κ : Type} {K : PySem.W.Frag} {mg : Str → Option Value} {F : Hp} {ds : List (κ × D)} {vs : List (κ × V)} (h : RepKs K mg F ds vs) : vs.length = ds.length := by
  have := congrArg List.length h.1
  simpa using this.symm
def insD (c : Str) (fs : List (Str × D)) : D := .dict ((.none, .str c) :: fs.map fun p => (.str p.1, p.2))
theorem repKV_ins {K : PySem.W.Frag} {mg : Str → Option Value} {F : Hp} : ∀ {fs : List (Str × D)} {vs : List (Str × V)}, RepKs K mg F fs vs → RepKV K mg F (fs.map fun p => (PyData.str p.1, p.2)) (vs.map fun p => (PyData.str p.1, p.2))
  | [], vs, h => by
    have : vs = [] := by simpa [RepKs] using h.1
    subst this
    simp [RepKV]
  | (k, d0) :: ds, [], h => by simp [RepKs] at h
  | (k, d0) :: ds, (k', v0) :: vs, h => by
    obtain ⟨h1, h2⟩ := h
    simp only [List.map_cons, List.cons.injEq] at h1
    obtain ⟨rfl, h1⟩ := h1
    simp only [List.map_cons, RepAll, List.cons.injEq] at h2
    obtain ⟨v1, r1, ⟨rfl, rfl⟩, h3, h4⟩ := h2
    simp only [List.map_cons, RepKV]
    exact ⟨_, _, rfl, h3, repKV_ins ⟨h1, h4⟩⟩
theorem rep_ins {K : PySem.W.Frag} {mg : Str → Option Value} {F : Hp} {c : Str} {C a dx : Addr} {fs : List (Str × D)} {vs : List (Str × V)} (gC : mg c = some (.ref C)) (h : F a = some (.ins C dx vs)) (r : RepKs K mg F fs vs) : Rep K mg F (insD c fs) (.ref a) := by
  refine rep_dict.mpr ⟨a, _, rfl, .inr (.inr ⟨c, C, dx, vs, rfl, gC, h⟩), ?_⟩
  simp only [RepKV]
  exact ⟨_, _, rfl, by simp only [Rep], repKV_ins r⟩
/-- __init__'s promise: with the data ds of its arguments the fields are m ds -/
def PostInit (K : PySem.W.Frag) (mg : Str → Option Value) (F Hc : Hp) (x dx C : Addr) (r : R (List (Str × D))) (Q : VK) (E : XK) : Prop := match r with
  | .bad => False
  | .ok fs => ∀ F' H' vs', Go F Hc F' H' → F' x = none → H' x = some (.ins C dx vs') → RepKs K mg F' fs vs' → Q .non H'
  | .rs e => ∀ F' H' cls dd, Go F Hc F' H' → ExR K mg F' H' e cls dd → E cls dd H'
def spI (K : PySem.W.Frag) (mg : Str → Option Value) (c : Str) (fl : List Bool) (m : Addr → Addr → List D → R (List (Str × D))) : Sp := fun vs H Q E => ∃ (F Hc : Hp) (ds : List D) (x dx C : Addr) (ws : List V),
  vs = .ref x :: ws ∧ mg c = some (.ref C) ∧ H = upd (upd Hc dx (.own x)) x (.ins C dx []) ∧ Hc x = none ∧ Hc dx = none ∧ dx ≠ x ∧ Ex F Hc ∧ RepFl K mg F Hc fl ds ws ∧ PostInit K mg F Hc x dx C (m x dx ds) Q E
def runI (x dx : Addr) (c : Str) : Option Out → R (List (Str × D))
  | some (.nx ρ) => match ρ[0]? with
    | some (B.ownI y dy cy fs) => if x = y ∧ dx = dy ∧ c = cy then .ok fs else .bad
    | _ => .bad
  | some (.rs x _) => .rs x
  | _ => .bad
def startI (x dx : Addr) (n : Nat) (c : Str) (fl : List Bool) (ds : List D) : List B := .ownI x dx c [] :: start0 (n - 1) fl ds
theorem startI_rep {K : PySem.W.Frag} {mg : Str → Option Value} {F Hc : Hp} {c : Str} {x dx C : Addr} {fl : List Bool} {ds : List D} {ws : List V} {n : Nat} (e : Ex F Hc) (r : RepFl K mg F Hc fl ds ws) (gC : mg c = some (.ref C)) (hx : Hc x = none) (hdx : Hc dx = none) (ne : dx ≠ x) (hN : fl.length + 1 ≤ n) {N : List Str} (hn : N.length = n) :
    RepS K mg F Hc F (upd (upd Hc dx (.own x)) x (.ins C dx [])) (L2.start N (.ref x :: ws)) (startI x dx n c fl ds) := by
  have hl := r.1
  have hv : ws.length = fl.length := by rw [r.2.len, List.length_zip, hl, Nat.min_self]
  have hb := bind0_len hl
  have g : Go F Hc F (upd (upd Hc dx (.own x)) x (.ins C dx [])) := by
    have g1 : Go F Hc F (upd Hc dx (.own x)) := Go.lay e hdx
    exact g1.trans (Go.lay g1.xt (by rw [upd_ne ne.symm]; exact hx))
  have est : L2.start N (.ref x :: ws) = some (.ref x) :: (ws.map some ++ List.replicate (n - 1 - fl.length) none) := by
    unfold L2.start
    rw [hn]
    simp only [List.map_cons, List.length_cons, hv, List.cons_append]
    congr 3
    omega
  rw [est]
  have at1 : ∀ (i : Nat) (b : B), (start0 (n - 1) fl ds)[i]? = some b → RepB K mg F Hc F Hc (ws.map some ++ List.replicate (n - 1 - fl.length) none)[i]? b ∧ b.mine = false := fun i b h => by
    unfold start0 at h
    by_cases hi : i < fl.length
    · rw [List.getElem?_append_left (by rw [hb]; exact hi)] at h
      rw [List.getElem?_append_left (by rw [List.length_map, hv]; exact hi)]
      exact ⟨bind0_at e hl r.2 h, bind0_mine h⟩
    · rw [List.getElem?_append_right (by rw [hb]; omega)] at h
      have := List.getElem?_replicate (n := n - 1 - fl.length) (a := B.un) (i := i - (bind0 fl ds).length)
      rw [this] at h
      split at h
      · cases h
        exact ⟨trivial, rfl⟩
      · cases h
  refine ⟨g, ?_, fun i b h => ?_, fun i j b b' p nij h1 h2 m1 m2 _ => ?_⟩
  · simp [startI, start0, hb, hv]
  · cases i with
    | zero =>
      simp only [startI, List.getElem?_cons_zero, Option.some.injEq] at h
      subst h
      exact ⟨C, [], rfl, e.fresh hx, hx, e.fresh hdx, hdx, ne, gC, upd_same, by rw [upd_ne ne, upd_same], rfl, by simp [RepAll]⟩
    | succ i =>
      have h' : (start0 (n - 1) fl ds)[i]? = some b := by simpa [startI] using h
      obtain ⟨q1, q2⟩ := at1 i b h'
      have := q1.go g
      simpa using this
  · cases i with
    | zero =>
      cases j with
      | zero => exact absurd rfl nij
      | succ j =>
        have h' : (start0 (n - 1) fl ds)[j]? = some b' := by simpa [startI] using h2
        rw [(at1 j b' h').2] at m2
        cases m2
    | succ i =>
      have h' : (start0 (n - 1) fl ds)[i]? = some b := by simpa [startI] using h1
      rw [(at1 i b h').2] at m1
      cases m1
section
variable {P : Program} {w : World} {K : PySem.W.Frag} {mg : Str → Option Value} {base : Heap}
theorem init_ok {x qual c : Str} {st : Stmt} {f : Addr} {fd : FuncData} {N ps : List Str} {k : Nat} {fl : List Bool} {m : List B → Option Out} (F : Fun K x qual st f fd) (S : FnScope N ps (defScope st)) (hps : ps.length = fl.length + 1) (hN : fl.length + 1 ≤ N.length)
    (hb : ∀ (cdv : Value) (A : Around) (outer : List Env) (s : Shared) (H : Hp) (E : XK) (ρ : List B), Room k (A.deeper (envOfC qual (defScope st) s.heap.objs.size f cdv)) →
      Kx (cxOf (L2.CX P w) P w K mg base N qual (defScope st) f cdv A outer s H E) (WD E) → CSs (cxOf (L2.CX P w) P w K mg base N qual (defScope st) f cdv A outer s H E) (WD E) ρ (defBody st) (m ρ)) :
    FnOk P w K mg base (L2.CX P w) (k + 1) f fd ps (spI K mg c fl fun x dx ds => runI x dx c (m (startI x dx N.length c fl ds))) := by
  refine F.okX S (fun vs H Q E h => ?_) (fun cdv A outer s H vs Q E hr h => ?_)
  · obtain ⟨F, Hc, ds, x, dx, C, ws, rfl, _, _, _, _, _, e, r, _⟩ := h
    rw [List.length_cons, r.2.len, List.length_zip, r.1, Nat.min_self, hps]
  · obtain ⟨F, Hc, ds, x, dx, C, ws, rfl, gC, rfl, hx, hdx, ne, e, r, p⟩ := h
    have kx : Kx (cxOf (L2.CX P w) P w K mg base N qual (defScope st) f cdv A outer s (upd (upd Hc dx (.own x)) x (.ins C dx [])) E) (WD E) := ⟨rfl, takes_of rfl rfl rfl rfl, passes_of rfl⟩
    have S0 := startI_rep e r gC hx hdx ne hN (N := N) rfl
    refine ⟨_, hb cdv A outer s _ E (startI x dx N.length c fl ds) hr kx, F, Hc, F, S0, ?_⟩
    have p : PostInit K mg F Hc x dx C (runI x dx c (m (startI x dx N.length c fl ds))) Q E := p
    generalize m (startI x dx N.length c fl ds) = oo at p
    show PostS K mg (WD E) F Hc F oo { nx := fun _ H' => Q .non H', rt := Q }
    revert p
    cases oo with
    | none => exact fun p => p.elim
    | some o =>
      cases o with
      | nx ρ =>
        intro p σ' F' H' S' e'
        unfold runI at p
        simp only at p
        split at p
        · rename_i y dy cy fs e0
          split at p
          · rename_i exy
            obtain ⟨rfl, rfl, rfl⟩ := exy
            obtain ⟨C', vs, h1, h2, h3, h4, h5, h6, h7, h8, h9, h10⟩ := S'.at_ 0 _ e0
            rw [gC] at h7
            cases h7
            exact p F' H' vs S'.go h2 h8 h10
          · exact p.elim
        · exact p.elim
      | rt d => exact fun p => p.elim
      | bk ρ => exact fun p => p.elim
      | ct ρ => exact fun p => p.elim
      | rs x ρ => exact fun p σ' F' H' cls dd S' e' er => p F' H' cls dd S'.go er
end
/-- a class of the text that is made by its __init__ -/
structure MakeT (P : Program) (w : World) (K : PySem.W.Frag) (mg : Str → Option Value) (base : Heap) (c : Str) (k : Nat) (fl : List Bool) (f : List D → R (List (Str × D))) : Prop where
  ex : ∃ C fa fd ps m, mg c = some (.ref C) ∧ FnOk P w K mg base (L2.CX P w) k fa fd ps (spI K mg c fl m) ∧ Mk K C fa ∧ Binds K fd ps [] ∧ ∀ x dx ds, ds.length = fl.length → m x dx ds = f ds
section
variable {X : Cx} {W : WX} {ρ : List B} {a b c e : Expr} {ra rb rc : R D} {pos : Pos}
theorem run_makeS {CX : CXT} {k : Nat} {f C : Addr} {fd : FuncData} {ps : List Str} {sp : Sp} {E : XK} {pins : List (Addr × Obj)} {σ : L2.St} {H : Hp} {s : Shared} {Q : VK} {us : List Value} {vs : List V} (M : Mk X.K C f) (F : FnOk X.prog X.w X.K X.mg X.base CX k f fd ps sp) (hr : Room (k + 1) X.A) (hb : Binds X.K fd ps [])
    (hx : PassesAt CX X σ E) (I : L2.Inv X pins σ H s) (r : Vals vs us)
    (h : ∀ x dx, H x = none → H dx = none → dx ≠ x → sp (.ref x :: vs) (upd (upd H dx (.own x)) x (.ins C dx [])) (fun v H2 => v = .non ∧ Q (.ref x) H2) E) :
    wpAny (model X.prog X.w) X.A (PySem.call (.ref C) us) (EP X pins σ Q) X.xe s := by
  -- the dict comes to the end of the heap, the object right behind it
  let n := s.heap.objs.size
  have free : ∀ d, n ≤ d → H d = none := fun d le => I.hok.fresh le
  have promise := h (n + 1) n (free _ (Nat.le_succ n)) (free _ (Nat.le_refl n)) (Nat.ne_of_lt (Nat.lt_succ_self n))
  have J : L2.Inv X pins σ _ _ := L2.Inv.made (C := C) I
  have rel : Vals (V.ref (n + 1) :: vs) (Value.ref (n + 1) :: us) := .cons rfl r
  have many : (Value.ref (n + 1) :: us).length = ps.length := rel.length.symm.trans (F.len _ _ _ _ promise)
  have bound := hb _ (Value.ref (n + 1) :: us) J.kIn (by rw [List.append_nil]; exact many)
  rw [List.append_nil] at bound
  have ran := F.run _ X.stack _ _ ⟨Value.ref (n + 1) :: us, []⟩ (Value.ref (n + 1) :: us) _ _ E (hr.make C us []) (J.env0.make C us []) bound rel promise
  refine wpAny_call (make_map (f := f) I.kIn M.makes M.init (beq_iff_eq.mp M.fn) (codeAny_mono ran fun out s2 done => ?_))
  match out, done with
  | .error e, done => exact hx pins _ _ e s2 J done
  | .ok (.ret u), done =>
    obtain ⟨_, H2, J2, ru, rfl, want⟩ := J.after done
    exact ⟨ru, .ref (n + 1), H2, J2, rfl, want⟩
def callMk (c : Str) (fl : List Bool) (f : List D → R (List (Str × D))) (xs : List (Bool × D)) : R D := if okFl fl (xs.map (·.1)) = true then (f (xs.map (·.2))).map (insD c) else .bad
theorem ce_make {c : Str} {p : Pos} {es : List Expr} {k : Nat} {fl : List Bool} {f : List D → R (List (Str × D))} {r : R (List (Bool × D))} (tk : Takes X W) (T : MakeT X.prog X.w X.K X.mg X.base c k fl f) (hr : Room (k + 1) X.A) (ha : CA X W ρ (e :: es) r) (hg : Gl X c := by rfl)
    (hdb : (c == ("__debug__" : Str)) = false := by decide) (he : starEach (e :: es) X.env = (false, eval e X.env) :: starEach es X.env := by rfl) (hpl : (backTo pos (starEach es X.env)).any (·.1) = false := by rfl) :
    CE X W ρ (.Call (.Name c p) (e :: es) [] pos) (r.bind (callMk c fl f)) := by
  obtain ⟨C, fa, fd, ps, m, gC, G, M, hb, hm⟩ := T.ex
  refine ⟨fun pins s σ H Q I ⟨F0, H0, F, S, p⟩ => ?_⟩
  refine wpAny_Call_Name_kw (ld_glob I hg gC ?_ hdb)
  refine PySem.W.callWith_K (h₀ := X.base) I.ok.mod.kin M.kp (thn (PA.run ha pos pins s σ H _ I ⟨F0, H0, F, S, p.bind (Q1 := fun (vs : List V) H1 => ∀ x dx, H1 x = none → H1 dx = none → dx ≠ x → spI X.K X.mg c fl m (.ref x :: vs) (upd (upd H1 dx (.own x)) x (.ins C dx [])) (fun v H2 => v = .non ∧ Q (.ref x) H2) (WE W σ)) fun xs vs F1 H1 _ g r1 p1 => ?_⟩) fun us s1 ⟨vs, H1, I1, r, q⟩ => ⟨I1.kIn, ?_⟩) he hpl
  · intro x dx hx hdx ne
    unfold callMk at p1
    split at p1
    · rename_i ho
      have rr := okFl_rep ho r1
      refine ⟨F1, H1, xs.map (·.2), x, dx, C, vs, rfl, gC, rfl, hx, hdx, ne, g.xt, rr, ?_⟩
      rw [hm x dx _ rr.1]
      revert p1
      cases f (xs.map (·.2)) with
      | bad => exact id
      | rs ex => exact fun p1 F' H' cls dd g' e' => p1 F' H' cls dd g' e'
      | ok fs =>
        intro p1 F' H' vs' g' fx hx' rk
        refine ⟨rfl, ?_⟩
        have hxF : F1 x = none := g.xt.fresh hx
        refine p1 (.ref x) (upd F' x (.ins C dx vs')) H' ⟨g'.ef.trans (Ex.new fx), g'.eh, fun a q1 q2 => ?_, fun a o q => ?_⟩ (rep_ins gC upd_same (rk.mono (Ex.new fx)))
        · have : a ≠ x := fun z => q2 (by rw [z]; exact hx)
          rw [upd_ne this]
          exact g'.nw a q1 q2
        · by_cases z : a = x
          · subst z
            rw [upd_same] at q
            cases q
            exact hx'
          · rw [upd_ne z] at q
            exact g'.xt a o q
    · exact p1.elim
  · exact run_makeS M G hr hb (passAt tk σ) I1 r q
/-- self.f = e, in __init__ -/
def setF (c : Str) (ρ : List B) (i : Nat) (f : Str) (r : R D) : Option Out := onE r ρ fun d => match ρ[i]? with
  | some (.ownI x dx c' fs) => if fs.length < 100 ∧ c' = c then some (.nx (ρ.set i (.ownI x dx c' (putG f d fs)))) else none
  | _ => none
structure ClsS (K : PySem.W.Frag) (mg : Str → Option Value) (c f : Str) : Prop where
  ok : ∀ C, mg c = some (.ref C) → Cls K C ∧ NoAttr K C f
theorem cs_setF' (i : Nat) {x f c : Str} {xpos pos' : Pos} (T : ClsF X.K X.mg c f) (he : CE X W ρ e ra) (hN : X.N[i]? = some x := by rfl) (hv : Vis X.env.scope x := by first | exact Or.inl rfl | exact Or.inr (Or.inl rfl) | exact Or.inr (Or.inr rfl))
    (hd : (x == ("__debug__" : Str)) = false := by decide) (hcd : (x == ("__classdict__" : Str)) = false := by decide) (hs : swapsWith e (some (.Attribute (.Name x xpos) f pos')) pos.line X.env = pure false := by rfl) :
    CS X W ρ (.Assign [.Attribute (.Name x xpos) f pos'] e pos) (setF c ρ i f ra) :=
  ⟨fun pins s σ H Dn I ⟨F0, H0, F, S, p⟩ => (ps_fld (pe_var hN hv hd hcd) he hs).run pins s σ H Dn I ⟨F0, H0, F, S, PostS.onE S p fun d v F1 H1 _ g S1 r p1 => by
    split at p1
    · rename_i x dx c' fs e0
      split at p1
      · rename_i hl
        obtain ⟨hl, rfl⟩ := hl
        obtain ⟨C, vs, h1, h2, h3, h4, h5, h6, h7, h8, h9, h10⟩ := S1.at_ i _ e0
        obtain ⟨cl, na⟩ := T.ok C h7
        refine ⟨.ref x, h1, x, C, dx, vs, rfl, h8, cl, na, by rw [h10.len]; omega, ?_⟩
        rw [putG_F]
        refine p1 σ F1 _ (S1.change e0 rfl h1 h2 h3 h8 (fun _ z => nomatch z) (fun _ z => nomatch z) (fun C dx fs z => by cases z; exact h9) ⟨C, _, rfl, h2, h3, h4, h5, h6, h7, upd_same, by rw [upd_ne h6]; exact h9, RepKs.putG r h10⟩) (Ex.refl _)
      · exact p1.elim
    · exact p1.elim⟩⟩
end
end RB


set_option Elab.async false
set_option linter.all false
set_option maxRecDepth 100000
set_option maxHeartbeats 2000000
namespace RB
open PySem L2 PySem.Spec PyProof.Rows
/-! ### dicts -/
def asK : D → Option Key
  | .int i => some (.inl i)
  | .str s => some (.inr s)
  | _ => none
theorem asK_rep {K : PySem.W.Frag} {mg : Str → Option Value} {F H : Hp} {d : D} {k : Key} {v : V} (h : asK d = some k) (r : RepW K mg F H d v) : v = kV k := by
  cases d with
  | int i =>
    simp only [asK, Option.some.injEq] at h
    subst h
    exact rep_int.mp (repW_flat (fun _ z => nomatch z) r)
  | str s =>
    simp only [asK, Option.some.injEq] at h
    subst h
    exact rep_str.mp (repW_flat (fun _ z => nomatch z) r)
  | _ => cases h
theorem asK_keyD (k : Key) : asK (keyD k) = some k := by cases k <;> rfl
def putD {κ α : Type} [DecidableEq κ] (kvs : List (κ × α)) (k : κ) (v : α) : List (κ × α) :=
  if (kvs.any fun q => decide (q.1 = k)) = true then kvs.map (fun q => if q.1 = k then (q.1, v) else q) else kvs ++ [(k, v)]
theorem putD_V {κ : Type} [DecidableEq κ] (kvs : List (κ × V)) (k : κ) (v : V) : putK kvs k v = putD kvs k v := rfl
theorem putD_len {κ α : Type} [DecidableEq κ] (kvs : List (κ × α)) (k : κ) (v : α) : (putD kvs k v).length ≤ kvs.length + 1 := by
  unfold putD
  split <;> simp
def lookD {κ α : Type} [DecidableEq κ] (kvs : List (κ × α)) (k : κ) : Option α := (kvs.find? fun kv => decide (kv.1 = k)).map (·.2)
section
variable {K : PySem.W.Frag} {mg : Str → Option Value} {F : Hp} {κ : Type} [DecidableEq κ]
theorem RepKs.cons {k : κ} {d : D} {v : V} {ds : List (κ × D)} {vs : List (κ × V)} (r : Rep K mg F d v) (h : RepKs K mg F ds vs) : RepKs K mg F ((k, d) :: ds) ((k, v) :: vs) := by
  refine ⟨by simp [h.1], ?_⟩
  simp only [List.map_cons, RepAll]
  exact ⟨_, _, rfl, r, h.2⟩
theorem RepKs.inv {k : κ} {d : D} {ds : List (κ × D)} {ws : List (κ × V)} (h : RepKs K mg F ((k, d) :: ds) ws) : ∃ v vs, ws = (k, v) :: vs ∧ Rep K mg F d v ∧ RepKs K mg F ds vs := by
  cases ws with
  | nil => simp [RepKs] at h
  | cons p vs =>
    obtain ⟨k', v⟩ := p
    obtain ⟨h1, h2⟩ := h
    simp only [List.map_cons, List.cons.injEq] at h1
    obtain ⟨rfl, h1⟩ := h1
    simp only [List.map_cons, RepAll, List.cons.injEq] at h2
    obtain ⟨v1, r1, ⟨rfl, rfl⟩, h3, h4⟩ := h2
    exact ⟨_, _, rfl, h3, h1, h4⟩
theorem RepKs.nil_inv {ws : List (κ × V)} (h : RepKs K mg F ([] : List (κ × D)) ws) : ws = [] := by simpa [RepKs] using h.1
theorem RepKs.any (k : κ) : ∀ {ds : List (κ × D)} {vs : List (κ × V)}, RepKs K mg F ds vs → (ds.any fun kv => decide (kv.1 = k)) = (vs.any fun kv => decide (kv.1 = k))
  | [], vs, h => by rw [h.nil_inv]; rfl
  | (k', d) :: ds, vs, h => by
    obtain ⟨v, vs, rfl, _, h2⟩ := h.inv
    simp [RepKs.any k h2]
theorem RepKs.append : ∀ {ds es : List (κ × D)} {vs ws : List (κ × V)}, RepKs K mg F ds vs → RepKs K mg F es ws → RepKs K mg F (ds ++ es) (vs ++ ws)
  | [], es, vs, ws, h, k => by rw [h.nil_inv]; exact k
  | (k', d) :: ds, es, vs, ws, h, k => by
    obtain ⟨v, vs, rfl, h1, h2⟩ := h.inv
    exact RepKs.cons h1 (RepKs.append h2 k)
theorem RepKs.upd {k : κ} {d : D} {v : V} (r : Rep K mg F d v) : ∀ {ds : List (κ × D)} {vs : List (κ × V)}, RepKs K mg F ds vs → RepKs K mg F (ds.map fun kv => if kv.1 = k then (kv.1, d) else kv) (vs.map fun kv => if kv.1 = k then (kv.1, v) else kv)
  | [], vs, h => by rw [h.nil_inv]; simp [RepKs, RepAll]
  | (k', d0) :: ds, vs, h => by
    obtain ⟨v0, vs, rfl, h1, h2⟩ := h.inv
    simp only [List.map_cons]
    split
    · exact RepKs.cons r (RepKs.upd r h2)
    · exact RepKs.cons h1 (RepKs.upd r h2)
theorem RepKs.put {k : κ} {d : D} {v : V} (r : Rep K mg F d v) {ds : List (κ × D)} {vs : List (κ × V)} (h : RepKs K mg F ds vs) : RepKs K mg F (putD ds k d) (putK vs k v) := by
  rw [putD_V]
  unfold putD
  rw [h.any k]
  split
  · exact h.upd r
  · exact h.append (RepKs.cons r (by simp [RepKs, RepAll]))
theorem RepKs.look {k : κ} : ∀ {ds : List (κ × D)} {vs : List (κ × V)}, RepKs K mg F ds vs → match lookD ds k with
    | none => valV vs k = none
    | some d => ∃ v, valV vs k = some v ∧ Rep K mg F d v
  | [], vs, h => by rw [h.nil_inv]; rfl
  | (k', d) :: ds, vs, h => by
    obtain ⟨v, vs, rfl, h1, h2⟩ := h.inv
    by_cases e : k' = k
    · have : lookD ((k', d) :: ds) k = some d := by simp [lookD, e]
      rw [this]
      exact ⟨v, valV_pos e, h1⟩
    · have : lookD ((k', d) :: ds) k = lookD ds k := by simp [lookD, e]
      rw [this, valV_neg e]
      exact RepKs.look h2
/-- a dict for good, keys ints and texts -/
def dicD (kvs : List (Key × D)) : D := .dict (kvs.map fun p => (keyD p.1, p.2))
theorem repKV_dic : ∀ {ds : List (Key × D)} {vs : List (Key × V)}, RepKs K mg F ds vs → RepKV K mg F (ds.map fun p => (keyD p.1, p.2)) (vs.map fun p => (keyD p.1, p.2))
  | [], vs, h => by rw [h.nil_inv]; simp [RepKV]
  | (k, d) :: ds, vs, h => by
    obtain ⟨v, vs, rfl, h1, h2⟩ := h.inv
    simp only [List.map_cons, RepKV]
    exact ⟨_, _, rfl, h1, repKV_dic h2⟩
theorem rep_dic {a : Addr} {ds : List (Key × D)} {vs : List (Key × V)} (h : F a = some (.dK vs)) (r : RepKs K mg F ds vs) : Rep K mg F (dicD ds) (.ref a) := rep_dict.mpr ⟨a, _, rfl, .inl ⟨vs, rfl, h⟩, repKV_dic r⟩
/-- the pairs of such a dict -/
def pairsK : List (D × D) → Option (List (Key × D))
  | [] => some []
  | (x, d) :: r => (asK x).bind fun k => (pairsK r).map ((k, d) :: ·)
theorem pairsK_dic : ∀ ds : List (Key × D), pairsK (ds.map fun p => (keyD p.1, p.2)) = some ds
  | [] => rfl
  | (k, d) :: ds => by
    simp only [List.map_cons, pairsK, asK_keyD, Option.bind_some, pairsK_dic ds]
    rfl
theorem keyD_asK {d : D} {k : Key} (h : asK d = some k) : keyD k = d := by
  cases d with
  | int i => simp only [asK, Option.some.injEq] at h; subst h; rfl
  | str s => simp only [asK, Option.some.injEq] at h; subst h; rfl
  | _ => cases h
theorem keyD_inj {a b : Key} (h : keyD a = keyD b) : a = b := by
  have := congrArg asK h
  rw [asK_keyD, asK_keyD] at this
  exact Option.some.inj this
theorem pairsK_rep : ∀ {kvs : List (D × D)} {ps : List (Key × D)} {vs : List (Key × V)}, pairsK kvs = some ps → RepKV K mg F kvs (vs.map fun p => (keyD p.1, p.2)) → RepKs K mg F ps vs
  | [], ps, vs, h, r => by
    simp only [pairsK, Option.some.injEq] at h
    subst h
    simp only [RepKV] at r
    have : vs = [] := by simpa using r
    subst this
    simp [RepKs, RepAll]
  | (x, d) :: kvs, ps, vs, h, r => by
    simp only [pairsK] at h
    cases q : asK x with
    | none => rw [q] at h; cases h
    | some k =>
      rw [q] at h
      simp only [Option.bind_some, Option.map_eq_some_iff] at h
      obtain ⟨ps', h1, rfl⟩ := h
      simp only [RepKV] at r
      obtain ⟨v, r', h2, h3, h4⟩ := r
      cases vs with
      | nil => simp at h2
      | cons p vs =>
        simp only [List.map_cons, List.cons.injEq, Prod.mk.injEq] at h2
        obtain ⟨⟨e1, rfl⟩, rfl⟩ := h2
        rw [← keyD_asK q] at e1
        have e2 := keyD_inj e1
        obtain ⟨k0, v0⟩ := p
        simp only at e2
        subst e2
        exact RepKs.cons h3 (pairsK_rep h1 h4)
theorem pairsK_none {kvs : List (D × D)} {c : Str} : pairsK ((PyData.none, PyData.str c) :: kvs) = none := rfl
theorem dic_rep {kvs : List (D × D)} {ps : List (Key × D)} {v : V} (h : pairsK kvs = some ps) (r : Rep K mg F (.dict kvs) v) : ∃ a vs, v = .ref a ∧ F a = some (.dK vs) ∧ RepKs K mg F ps vs := by
  obtain ⟨a, ws, rfl, h1, h2⟩ := rep_dict.mp r
  rcases h1 with ⟨vs, rfl, h3⟩ | ⟨vs, rfl, h3⟩ | ⟨c, C, dx, fs, rfl, _, h3⟩
  · exact ⟨a, vs, rfl, h3, pairsK_rep h h2⟩
  · cases kvs with
    | nil => simp [RepKV] at h2
    | cons p kvs =>
      obtain ⟨x, d⟩ := p
      simp only [RepKV, List.cons.injEq, Prod.mk.injEq] at h2
      obtain ⟨v, r', ⟨⟨e1, e2⟩, e3⟩, _⟩ := h2
      subst e1
      simp [pairsK, asK] at h
  · cases kvs with
    | nil => simp [RepKV] at h2
    | cons p kvs =>
      obtain ⟨x, d⟩ := p
      simp only [RepKV, List.cons.injEq, Prod.mk.injEq] at h2
      obtain ⟨v, r', ⟨⟨e1, e2⟩, e3⟩, _⟩ := h2
      subst e1
      simp [pairsK, asK] at h
end
section
variable {X : Cx} {W : WX} {ρ : List B} {a b c e : Expr} {ra rb rc : R D} {pos : Pos}
def dictOf : D → R (List (Key × D))
  | .dict kvs => R.of (pairsK kvs)
  | _ => .bad
theorem dictOf_ok {d : D} {ps : List (Key × D)} (h : dictOf d = .ok ps) : ∃ kvs, d = .dict kvs ∧ pairsK kvs = some ps := by
  unfold dictOf at h
  split at h
  · rename_i kvs
    cases q : pairsK kvs with
    | none => rw [q] at h; cases h
    | some x => rw [q] at h; cases h; exact ⟨kvs, rfl, q⟩
  · cases h
theorem dictOf_nors {d : D} {x : Exn} : dictOf d ≠ .rs x := by
  unfold dictOf
  split
  · rename_i kvs
    cases pairsK kvs <;> exact fun z => nomatch z
  · exact fun z => nomatch z
/-- d[k] | k in d | k not in d, of a dict for good -/
def getDD (d k : D) : R D := (dictOf d).bind fun ps => (R.of (asK k)).bind fun k => R.of (lookD ps k)
def inDD (neg : Bool) (k d : D) : R D := (dictOf d).bind fun ps => (R.of (asK k)).map fun k => .bool (if neg = true then !(lookD ps k).isSome else (lookD ps k).isSome)
theorem dget_at {K : PySem.W.Frag} {mg : Str → Option Value} {F H : Hp} {d k : D} {ps : List (Key × D)} {kk : Key} {x y : V} (E : Ex F H) (h : dictOf d = .ok ps) (hk : asK k = some kk) (r1 : Rep K mg F d x) (r2 : Rep K mg F k y) :
    ∃ a vs, x = .ref a ∧ H a = some (.dK vs) ∧ y = kV kk ∧ RepKs K mg F ps vs := by
  obtain ⟨kvs, rfl, hp⟩ := dictOf_ok h
  obtain ⟨a, vs, rfl, h3, h4⟩ := dic_rep hp r1
  exact ⟨a, vs, rfl, E _ _ h3, asK_rep (H := H) hk (.inl r2), h4⟩
theorem ce_dget {k : Nat} (hr : Room k X.A) (ha : CE X W ρ a ra) (hb : CE X W ρ b rb) (hs : NoSl b := by exact fun _ _ => rfl) : CE X W ρ (.Subscript a b pos) (ra.bind fun x => rb.bind fun y => getDD x y) :=
  ⟨fun pins s σ H Q I ⟨F0, H0, F, S, p⟩ => (pe_dget (hu_of hr) ha hb hs).run pins s σ H Q I ⟨F0, H0, F, S, p.bind fun d v F1 H1 _ g r p1 => ⟨F0, H0, F1, S.step g, p1.bind fun d2 v2 F2 H2 _ g2 r2 p2 => by
    unfold RpE at r r2
    unfold getDD at p2
    cases h : dictOf d with
    | bad => rw [h] at p2; exact p2.elim
    | rs x => exact absurd h dictOf_nors
    | ok ps =>
      rw [h] at p2
      cases hk : asK d2 with
      | none => rw [hk] at p2; exact p2.elim
      | some kk =>
        rw [hk] at p2
        obtain ⟨q, vs, rfl, h3, rfl, h4⟩ := dget_at g2.xt h hk (Rep.mono g2.ef _ _ r) r2
        have hl := RepKs.look (k := kk) h4
        simp only [R.bind_ok, R.of_some] at p2
        cases hv : lookD ps kk with
        | none => rw [hv] at p2; exact p2.elim
        | some z =>
          rw [hv] at p2 hl
          obtain ⟨u, q1, q2⟩ := hl
          refine ⟨q, u, rfl, ?_, post_now g2.xt p2 q2⟩
          rw [← q1]
          exact DGet.k h3⟩⟩⟩
theorem din_t {neg : Bool} {σ : L2.St} {H : Hp} {Q : VK} (h : cG X.K X.mg (RpE X.K X.mg) W ρ (ra.bind fun x => rb.bind fun y => inDD neg x y) σ H Q) :
    (cG X.K X.mg (RpE X.K X.mg) W ρ ra) σ H fun y H1 => (cG X.K X.mg (RpE X.K X.mg) W ρ rb) σ H1 fun x H2 => ∃ a o, x = .ref a ∧ DGet H2 a y o ∧ Q (.bl (if neg = true then !o.isSome else o.isSome)) H2 := by
  obtain ⟨F0, H0, F, S, p⟩ := h
  refine ⟨F0, H0, F, S, p.bind fun d v F1 H1 _ g r p1 => ⟨F0, H0, F1, S.step g, p1.bind fun d2 v2 F2 H2 _ g2 r2 p2 => ?_⟩⟩
  unfold RpE at r r2
  unfold inDD at p2
  cases h : dictOf d2 with
  | bad => rw [h] at p2; exact p2.elim
  | rs x => exact absurd h dictOf_nors
  | ok ps =>
    rw [h] at p2
    cases hk : asK d with
    | none => rw [hk] at p2; exact p2.elim
    | some kk =>
      rw [hk] at p2
      obtain ⟨q, vs, rfl, h3, rfl, h4⟩ := dget_at g2.xt h hk r2 (Rep.mono g2.ef _ _ r)
      have hl := RepKs.look (k := kk) h4
      have e : (lookD ps kk).isSome = (valV vs kk).isSome := by
        cases hv : lookD ps kk with
        | none => rw [hv] at hl; rw [hl]; rfl
        | some z => rw [hv] at hl; obtain ⟨u, q1, _⟩ := hl; rw [q1]; rfl
      refine ⟨q, _, rfl, DGet.k h3, ?_⟩
      rw [← e]
      exact post_now g2.xt p2 (by simp only [Rep])
theorem ce_din {k : Nat} (hr : Room k X.A) (ha : CE X W ρ a ra) (hb : CE X W ρ b rb) (hm : behindInMarks .In b = false := by rfl) : CE X W ρ (.Compare a [.In] [b] pos) (ra.bind fun x => rb.bind fun y => inDD false x y) :=
  ⟨fun pins s σ H Q I h => (pe_cmp (pc_din (hu_of hr) ha hb) hm).run pins s σ H Q I (din_t (neg := false) h)⟩
theorem ce_dnotin {k : Nat} (hr : Room k X.A) (ha : CE X W ρ a ra) (hb : CE X W ρ b rb) (hm : behindInMarks .NotIn b = false := by rfl) : CE X W ρ (.Compare a [.NotIn] [b] pos) (ra.bind fun x => rb.bind fun y => inDD true x y) :=
  ⟨fun pins s σ H Q I h => (pe_cmp (pc_dnotin (hu_of hr) ha hb) hm).run pins s σ H Q I (din_t (neg := true) h)⟩
theorem ct_din {k : Nat} (hr : Room k X.A) (ha : CE X W ρ a ra) (hb : CE X W ρ b rb) (hm : behindInMarks .In b = false := by rfl) : CT X W ρ (.Compare a [.In] [b] pos) ((ra.bind fun x => rb.bind fun y => inDD false x y).bind asB) :=
  ⟨fun pins s σ H Q I ⟨F0, H0, F, S, p⟩ => (pt_cmp (pc_din (hu_of hr) ha hb) hm).run pins s σ H Q I (din_t (Q := fun x H' => ∃ c, x = V.bl c ∧ Q c H') (neg := false) ⟨F0, H0, F, S, p.bind fun d v F1 H1 _ g r p1 => by
    unfold RpE at r
    cases d with
    | bool k => exact ⟨k, by simpa [Rep] using r, p1 k F1 H1 (Go.refl g.xt) rfl⟩
    | _ => exact p1.elim⟩)⟩
theorem ct_dnotin {k : Nat} (hr : Room k X.A) (ha : CE X W ρ a ra) (hb : CE X W ρ b rb) (hm : behindInMarks .NotIn b = false := by rfl) : CT X W ρ (.Compare a [.NotIn] [b] pos) ((ra.bind fun x => rb.bind fun y => inDD true x y).bind asB) :=
  ⟨fun pins s σ H Q I ⟨F0, H0, F, S, p⟩ => (pt_cmp (pc_dnotin (hu_of hr) ha hb) hm).run pins s σ H Q I (din_t (Q := fun x H' => ∃ c, x = V.bl c ∧ Q c H') (neg := true) ⟨F0, H0, F, S, p.bind fun d v F1 H1 _ g r p1 => by
    unfold RpE at r
    cases d with
    | bool k => exact ⟨k, by simpa [Rep] using r, p1 k F1 H1 (Go.refl g.xt) rfl⟩
    | _ => exact p1.elim⟩)⟩
/-- x = {} -/
theorem cs_dnew (i : Nat) {x : Str} {pos' p2 : Pos} (hN : X.N.Nodup) (hi : X.N[i]? = some x := by rfl) (hx : Loc X.env.scope x := by first | exact Or.inl rfl | exact Or.inr rfl) (hs : swapsWith (.Dict [] [] p2) (some (.Name x pos')) pos.line X.env = pure false := by rfl)
    (hf : X.fn x = true ∨ X.env.scope.names.lookup x = some .local := by first | exact .inl rfl | exact .inr rfl | assumption) : CS X W ρ (.Assign [.Name x pos'] (.Dict [] [] p2) pos) (some (.nx (ρ.set i (.ownd [])))) :=
  ⟨fun pins s σ H Dn I ⟨F0, H0, F, S, p⟩ => (ps_set hN hi hx pe_dnewK hs hf).run pins s σ H Dn I fun q hq => p _ F _ (S.setOwn hq ⟨q, [], rfl, S.xt.fresh hq, S.go.eh.fresh hq, upd_same, by simp [RepKs, RepAll]⟩) (Ex.refl _)⟩
/-- d.get(k, x), d a dict of one's own -/
def getOwn (ρ : List B) (i : Nat) (rk rx : R D) : R D := match ρ[i]? with
  | some (.ownd kvs) => rk.bind fun k => rx.bind fun x => (R.of (asK k)).map fun k => (lookD kvs k).getD x
  | _ => .bad
theorem ce_get2 (i : Nat) {x : Str} {xpos apos : Pos} {k : Nat} (hr : Room k X.A) (ha : CE X W ρ a ra) (hb : CE X W ρ b rb) (m : M2 X (.Name x xpos) "get" apos a b pos := by exact ⟨rfl, rfl, rfl, rfl⟩) (hN : X.N[i]? = some x := by rfl) (hv : Vis X.env.scope x := by first | exact Or.inl rfl | exact Or.inr (Or.inl rfl) | exact Or.inr (Or.inr rfl))
    (hd : (x == ("__debug__" : Str)) = false := by decide) (hcd : (x == ("__classdict__" : Str)) = false := by decide) : CE X W ρ (.Call (.Attribute (.Name x xpos) "get" apos) [a, b] [] pos) (getOwn ρ i ra rb) :=
  ⟨fun pins s σ H Q I ⟨F0, H0, F, S, p⟩ => (pe_dget2 (hu_of hr) (pe_var hN hv hd hcd) ha hb m).run pins s σ H Q I (by
    unfold getOwn at p
    split at p
    · rename_i kvs e
      obtain ⟨q, vs, h1, h2, h3, h4, h5⟩ := S.at_ i _ e
      refine ⟨.ref q, h1, q, rfl, .inl ⟨vs, .inl h4⟩, F0, H0, F, S, p.bind fun d v F1 H1 _ g r p1 => ⟨F0, H0, F1, S.step g, p1.bind fun d2 v2 F2 H2 _ g2 r2 p2 => ?_⟩⟩
      unfold RpE at r r2
      cases hk : asK d with
      | none => rw [hk] at p2; exact p2.elim
      | some kk =>
        rw [hk] at p2
        simp only [R.of_some, R.map_ok] at p2
        have hy := asK_rep (H := H1) hk (.inl r)
        subst hy
        have g3 := g.trans g2
        have hl := RepKs.look (k := kk) (h5.mono g3.ef)
        refine ⟨_, DGet.k (g3.eh _ _ h4), ?_⟩
        cases hv : lookD kvs kk with
        | none =>
          rw [hv] at hl p2
          rw [hl]
          exact post_now g2.xt p2 r2
        | some z =>
          rw [hv] at hl p2
          obtain ⟨u, q1, q2⟩ := hl
          rw [q1]
          exact post_now g2.xt p2 q2
    · exact p.elim)⟩
/-- d[k] = e, d a dict of one's own -/
def putOwn (ρ : List B) (i : Nat) (rk rv : R D) : Option Out := onE rv ρ fun v => match ρ[i]? with
  | some (.ownd kvs) => onE rk ρ fun k => match asK k with
    | some k => if kvs.length < 100000 then some (.nx (ρ.set i (.ownd (putD kvs k v)))) else none
    | none => none
  | _ => none
theorem cs_dput (i : Nat) {x : Str} {xpos pos' : Pos} {k : Nat} (hr : Room k X.A) (hv : CE X W ρ a ra) (hk : CE X W ρ b rb) (hN : X.N[i]? = some x := by rfl) (hvx : Vis X.env.scope x := by first | exact Or.inl rfl | exact Or.inr (Or.inl rfl) | exact Or.inr (Or.inr rfl))
    (hd : (x == ("__debug__" : Str)) = false := by decide) (hcd : (x == ("__classdict__" : Str)) = false := by decide) (hs : swapsWith a (some (.Subscript (.Name x xpos) b pos')) pos.line X.env = pure false := by rfl) :
    CS X W ρ (.Assign [.Subscript (.Name x xpos) b pos'] a pos) (putOwn ρ i rb ra) :=
  ⟨fun pins s σ H Dn I ⟨F0, H0, F, S, p⟩ => (ps_dput (hu_of hr) (pe_var hN hvx hd hcd) hk hv hs).run pins s σ H Dn I ⟨F0, H0, F, S, PostS.onE S p fun d v F1 H1 _ g S1 r p1 => by
    unfold RpE at r
    split at p1
    · rename_i kvs e
      obtain ⟨q, vs, h1, h2, h3, h4, h5⟩ := S1.at_ i _ e
      refine ⟨.ref q, h1, F0, H0, F1, S1, PostS.onE S1 p1 fun d2 v2 F2 H2 _ g2 S2 r2 p2 => ?_⟩
      unfold RpE at r2
      split at p2
      · rename_i kk hkk
        split at p2
        · rename_i hl
          obtain ⟨q', ws, k1, k2, k3, k4, k5⟩ := S2.at_ i _ e
          rw [h1] at k1
          cases k1
          have hy := asK_rep (H := H2) hkk (.inl r2)
          subst hy
          refine ⟨q, _, rfl, DPut.k k4 (Nat.lt_of_lt_of_le (by rw [k5.len]; exact hl) (by decide)), ?_⟩
          exact p2 σ F2 _ (S2.change e rfl h1 k2 k3 k4 (fun _ z => nomatch z) (fun _ z => nomatch z) (fun _ _ _ z => nomatch z) ⟨q, _, rfl, k2, k3, upd_same, RepKs.put (Rep.mono g2.ef _ _ r) k5⟩) (Ex.refl _)
        · exact p2.elim
      · exact p2.elim
    · exact p1.elim⟩⟩
end
end RB


set_option Elab.async false
set_option linter.all false
set_option maxRecDepth 100000
set_option maxHeartbeats 2000000
namespace RB
open PySem L2 PySem.Spec PyProof.Rows
section
variable {X : Cx} {W : WX} {ρ : List B} {a b c e : Expr} {ra rb rc : R D} {pos : Pos}
/-! ### {k: v for ..} -/
def compD (cond : D → R Bool) (ek ev : D → R D) : List D → List (Key × D) → R (List (Key × D))
  | [], acc => .ok acc
  | d :: ds, acc => (cond d).bind fun q => if q = true then (ek d).bind fun k => (ev d).bind fun v => (R.of (asK k)).bind fun k => compD cond ek ev ds (putD acc k v) else compD cond ek ev ds acc
theorem dc_data {K : PySem.W.Frag} {mg : Str → Option Value} {t : Tg} {vs : List Nat} {cond : D → R Bool} {ek ev : D → R D} {cb : List B → R Bool} {kb vb : List B → R D} {σ : L2.St} {F0 H0 F H : Hp} {Q : VK} {ds : List D} {J : It} {D0 : Addr} {res : List (Key × D)}
    (hc : ∀ d, cond d = tgR t (wipeB ρ vs) d cb) (hk : ∀ d, ek d = tgR t (wipeB ρ vs) d kb) (he : ∀ d, ev d = tgR t (wipeB ρ vs) d vb) (hvs : ∀ i ∈ t.slots, i ∈ vs) (S : RepS K mg F0 H0 F H σ ρ) (it : ItOk K mg H0 F J ds) (hsmall : ds.length ≤ 100000) (hD : H D0 = none) (hres : compD cond ek ev ds [] = .ok res)
    (hQ : ∀ ws F1 H1, Go F H F1 H1 → H1 D0 = none → RepKs K mg F1 res ws → Q (.ref D0) (upd H1 D0 (.dK ws))) :
    ∃ Wv : Nat → Nat → Hp → Prop, (∃ m, Wv 0 m (upd H D0 (.dK []))) ∧ ∀ i m H, Wv i m H →
      (J.stop i H ∧ Q (.ref D0) H) ∨ (J.go i H ∧ ∃ Nx : Hp → Prop, (∀ H', Nx H' → ∃ m', m' < m ∧ Wv (i + 1) m' H') ∧ ∀ x H', J.yld i H x H' → t.g K x (wipe σ vs) H' fun σ2 H2 => wipe σ2 vs = wipe σ vs ∧
        (fun σ H Q => ∃ ρ', cG K mg RpT WF ρ' (cb ρ') σ H Q) σ2 H2 fun b H3 =>
        if b = true then (fun σ H Q => ∃ ρ', cG K mg (RpE K mg) WF ρ' (kb ρ') σ H Q) σ2 H3 fun y H4 => (fun σ H Q => ∃ ρ', cG K mg (RpE K mg) WF ρ' (vb ρ') σ H Q) σ2 H4 fun z H5 => ∃ kvs k, y = kV k ∧ H5 D0 = some (.dK kvs) ∧ kvs.length < sizeLine ∧ Nx (upd H5 D0 (.dK (putK kvs k z))) else Nx H3) := by
  refine ⟨fun i m Hc => m = ds.length - i ∧ i ≤ ds.length ∧ ∃ F1 H1 ws dn, Go F H F1 H1 ∧ H1 D0 = none ∧ Hc = upd H1 D0 (.dK ws) ∧ RepKs K mg F1 dn ws ∧ dn.length ≤ i ∧ compD cond ek ev (ds.drop i) dn = .ok res,
    ⟨ds.length, by simp, Nat.zero_le _, F, H, [], [], Go.refl S.xt, hD, rfl, by simp [RepKs, RepAll], Nat.zero_le _, by rw [List.drop_zero, hres]⟩, ?_⟩
  rintro i m Hc ⟨rfl, hi, F1, H1, ws, dn, g, h1, rfl, ra, hdn, eq⟩
  have gc : Go F1 H1 F1 (upd H1 D0 (.dK ws)) := Go.lay g.xt h1
  have gF : Go F H F1 (upd H1 D0 (.dK ws)) := g.trans gc
  have Sc := (S.step gF).wipe vs
  by_cases hlt : i < ds.length
  · refine .inr ?_
    have hd : ds[i]? = some ds[i] := List.getElem?_eq_getElem hlt
    obtain ⟨i1, _⟩ := it F1 _ i g.ef Sc.go.eh Sc.xt
    obtain ⟨go, yl⟩ := i1 _ hd
    have hdrop : ds.drop i = ds[i] :: ds.drop (i + 1) := List.drop_eq_getElem_cons hlt
    rw [hdrop] at eq
    refine ⟨go, fun Hn => ∃ F1 H1 ws dn, Go F H F1 H1 ∧ H1 D0 = none ∧ Hn = upd H1 D0 (.dK ws) ∧ RepKs K mg F1 dn ws ∧ dn.length ≤ i + 1 ∧ compD cond ek ev (ds.drop (i + 1)) dn = .ok res,
      fun H' q => ⟨ds.length - (i + 1), by omega, rfl, hlt, q⟩, fun x H'' hy => ?_⟩
    obtain ⟨F2, g2, r2⟩ := yl x H'' hy
    have S2 := Sc.step g2
    have later : ∀ {F3 H3 : Hp}, Go F1 (upd H1 D0 (.dK ws)) F3 H3 → H3 D0 = some (.dK ws) ∧ F3 D0 = none ∧ Go F H F3 (delH H3 D0) := fun {F3 H3} g3 => by
      have hF : F1 D0 = none := g.xt.fresh h1
      have a1 : H3 D0 = some (.dK ws) := g3.eh _ _ upd_same
      have a2 : F3 D0 = none := g3.nw D0 hF (by rw [upd_same]; simp)
      refine ⟨a1, a2, g.ef.trans g3.ef, fun a o q => ?_, fun a q1 q2 => ?_, fun a o q => ?_⟩
      · have ne : a ≠ D0 := ne_of_none q hD
        rw [delH_ne ne]
        exact g3.eh _ _ (by rw [upd_ne ne]; exact g.eh _ _ q)
      · have ne : a ≠ D0 := fun z => q2 (by rw [z]; exact hD)
        refine g3.nw a (g.nw a q1 q2) ?_
        rw [upd_ne ne]
        cases e : H a with
        | none => exact absurd e q2
        | some o => rw [g.eh _ _ e]; simp
      · have ne : a ≠ D0 := ne_of_none q a2
        rw [delH_ne ne]
        exact g3.xt _ _ q
    simp only [compD, hc, hk, he] at eq
    unfold tgR at eq
    cases et : t.set ds[i] (wipeB ρ vs) with
    | none =>
      rw [et] at eq
      cases eq
    | some ρ1 =>
      rw [et] at eq
      simp only at eq
      refine Tg.ok (ws := vs) et r2 S2 hvs fun σ3 S3 w3 => ⟨by rw [w3, wipe_wipe], ρ1, F0, H0, F2, S3, ?_⟩
      cases ec : cb ρ1 with
      | bad => rw [ec] at eq; cases eq
      | rs x => rw [ec] at eq; cases eq
      | ok k =>
        rw [ec] at eq
        simp only [R.bind_ok] at eq
        intro v F3 H3 g3 ev'
        have ev'' : k = v := ev'
        subst ev''
        cases k with
        | false =>
          rw [if_neg Bool.false_ne_true] at eq ⊢
          obtain ⟨a1, a2, a3⟩ := later (g2.trans g3)
          refine ⟨F3, delH H3 D0, ws, dn, a3, delH_same, ?_, ra.mono (g2.trans g3).ef, by omega, eq⟩
          rw [del_upd]
          funext b
          by_cases z : b = D0
          · rw [z, upd_same, a1]
          · rw [upd_ne z]
        | true =>
          rw [if_pos rfl] at eq ⊢
          refine ⟨ρ1, F0, H0, F3, S3.step g3, ?_⟩
          cases ee : kb ρ1 with
          | bad => rw [ee] at eq; cases eq
          | rs x => rw [ee] at eq; cases eq
          | ok y =>
            rw [ee] at eq
            simp only [R.bind_ok] at eq
            intro v F4 H4 g4 r4
            refine ⟨ρ1, F0, H0, F4, (S3.step g3).step g4, ?_⟩
            cases ee2 : vb ρ1 with
            | bad => rw [ee2] at eq; cases eq
            | rs x => rw [ee2] at eq; cases eq
            | ok z =>
              rw [ee2] at eq
              simp only [R.bind_ok] at eq
              cases hkk : asK y with
              | none => rw [hkk] at eq; cases eq
              | some kk =>
                rw [hkk] at eq
                simp only [R.of_some, R.bind_ok] at eq
                intro u F5 H5 g5 r5
                obtain ⟨a1, a2, a3⟩ := later (((g2.trans g3).trans g4).trans g5)
                have hy := asK_rep (H := H4) hkk (.inl r4)
                refine ⟨ws, kk, hy, a1, Nat.lt_of_lt_of_le (by rw [ra.len]; omega : ws.length < 100000 + 1) (by decide), F5, delH H5 D0, putK ws kk u, putD dn kk z, a3, delH_same, by rw [del_upd],
                  RepKs.put r5 (ra.mono (((g2.trans g3).trans g4).trans g5).ef), Nat.le_trans (putD_len dn kk z) (by omega), eq⟩
  · have hie : i = ds.length := by omega
    subst hie
    obtain ⟨_, i2⟩ := it F1 _ ds.length g.ef Sc.go.eh Sc.xt
    refine .inl ⟨i2 (Nat.le_refl _), ?_⟩
    rw [List.drop_length] at eq
    have : dn = res := by simpa [compD] using eq
    subst this
    exact hQ ws F1 H1 g h1 ra
def dcM (t : Tg) (vs : List Nat) (cb : List B → R Bool) (kb vb : List B → R D) (ρ : List B) (ds : List D) : R D :=
  if ds.length ≤ 100000 then (noRs (compD (fun d => tgR t (wipeB ρ vs) d cb) (fun d => tgR t (wipeB ρ vs) d kb) (fun d => tgR t (wipeB ρ vs) d vb) ds [])).map dicD else .bad
theorem dcM_ok {t : Tg} {vs : List Nat} {cb : List B → R Bool} {kb vb : List B → R D} {ds : List D} {Pf : R D → Prop} (h : Pf (dcM t vs cb kb vb ρ ds)) (hb : ¬ Pf .bad) :
    ds.length ≤ 100000 ∧ ∃ res, compD (fun d => tgR t (wipeB ρ vs) d cb) (fun d => tgR t (wipeB ρ vs) d kb) (fun d => tgR t (wipeB ρ vs) d vb) ds [] = .ok res ∧ Pf (.ok (dicD res)) := by
  unfold dcM at h
  split at h
  · rename_i hl
    refine ⟨hl, ?_⟩
    cases e : compD (fun d => tgR t (wipeB ρ vs) d cb) (fun d => tgR t (wipeB ρ vs) d kb) (fun d => tgR t (wipeB ρ vs) d vb) ds [] with
    | bad => rw [e] at h; exact absurd h hb
    | rs x => rw [e] at h; exact absurd h hb
    | ok res => rw [e] at h; exact ⟨res, rfl, h⟩
  · exact absurd h hb
section
variable {kx vx tg iter : Expr} {ifs : List Expr} {scope : Scope} {own : List (Str × Nat)} {t : Tg} {r : R (List D)} {cb : List B → R Bool} {kb vb : List B → R D}
theorem ce_dc (hc : X.calm = true) (hN : X.N.Nodup) (hi : CI X W tg ρ iter r) (ok : BlkOk X.N X.env.scope scope own)
    (hg : ∀ (s : Shared) (H : Hp) (C : Addr) (cl : List (Str × Addr)) (fp : List Addr), CG (X.blk s H scope (compEnvC scope cl C X.env) fp) tg t)
    (ht : ∀ (s : Shared) (H : Hp) (C : Addr) (cl : List (Str × Addr)) (fp : List Addr) (ρ : List B), CPs (X.blk s H scope (compEnvC scope cl C X.env) fp) WF ρ ifs (cb ρ))
    (hk : ∀ (s : Shared) (H : Hp) (C : Addr) (cl : List (Str × Addr)) (fp : List Addr) (ρ : List B), CE (X.blk s H scope (compEnvC scope cl C X.env) fp) WF ρ kx (kb ρ))
    (he : ∀ (s : Shared) (H : Hp) (C : Addr) (cl : List (Str × Addr)) (fp : List Addr) (ρ : List B), CE (X.blk s H scope (compEnvC scope cl C X.env) fp) WF ρ vx (vb ρ))
    (hsl : ∀ i ∈ t.slots, i ∈ own.map (·.2) := by decide) (hs : ∀ x, foldedSetIterable iter X.env x = pure x := by intro _; rfl) :
    CE X W ρ (.DictComp kx vx [⟨tg, iter, ifs, 0⟩] scope pos) (r.bind fun ds => dcM t (own.map (·.2)) cb kb vb ρ ds) :=
  ⟨fun pins s σ H Q I ⟨F0, H0, F, S, p⟩ => (pe_dc (wi := cI X.K X.mg W ρ r) (g := t.g X.K) (tt := fun σ H Q => ∃ ρ', cG X.K X.mg RpT WF ρ' (cb ρ') σ H Q) (tk := fun σ H Q => ∃ ρ', cG X.K X.mg (RpE X.K X.mg) WF ρ' (kb ρ') σ H Q) (tv := fun σ H Q => ∃ ρ', cG X.K X.mg (RpE X.K X.mg) WF ρ' (vb ρ') σ H Q) hc hN hi ok hg (fun s H C cl fp => ⟨fun pins s' σ H' Q I ⟨ρ', q⟩ => (ht s H C cl fp ρ').run pins s' σ H' Q I q⟩)
    (fun s H C cl fp => ⟨fun pins s' σ H' Q I ⟨ρ', q⟩ => (hk s H C cl fp ρ').run pins s' σ H' Q I q⟩) (fun s H C cl fp => ⟨fun pins s' σ H' Q I ⟨ρ', q⟩ => (he s H C cl fp ρ').run pins s' σ H' Q I q⟩) hs).run pins s σ H Q I ⟨F0, H0, F, S, by
    cases r with
    | bad => exact p
    | rs x => exact p
    | ok ds =>
      intro J F1 H1 g it D0 hD0
      have p1 : Post X.K X.mg (RpE X.K X.mg) W σ F1 H1 (dcM t (own.map (·.2)) cb kb vb ρ ds) Q := Post.go g p
      obtain ⟨hl, res, hres, pr⟩ := dcM_ok (Pf := fun r => Post X.K X.mg (RpE X.K X.mg) W σ F1 H1 r Q) p1 id
      exact dc_data (fun _ => rfl) (fun _ => rfl) (fun _ => rfl) hsl (S.step g) it hl hD0 hres fun ws F2 H2 g2 h2 rk =>
        pr (.ref D0) _ _ (g2.trans (Go.alloc (o := .dK ws) g2.xt h2)) (rep_dic upd_same (rk.mono (Ex.new (g2.xt.fresh h2))))⟩⟩
end
end
end RB


set_option Elab.async false
set_option linter.all false
set_option maxRecDepth 100000
set_option maxHeartbeats 2000000
namespace RB
open PySem L2 PySem.Spec PyProof.Rows
/-! ### own exceptions with a field -/
/-- the promise of «self.f = f» -/
def spX (C : Addr) (f : Str) : Sp := fun vs H Q _ => ∃ (a : Addr) (v : V), vs = [.ref a, v] ∧ H a = some (exo a C none) ∧ ∀ dx, H dx = none → dx ≠ a → Q .non (upd (upd H dx (exd dx [(f, v)])) a (exo a C (some dx)))
structure ExcI (P : Program) (w : World) (K : PySem.W.Frag) (mg : Str → Option Value) (base : Heap) (x f : Str) : Prop where
  ex : ∃ C fI fd ps, mg x = some (.ref C) ∧ OexC K C ∧ PySem.W.findIn K (.ref C) "__init__" = some (some (.ref fI)) ∧ PySem.W.typeIn K (.ref fI) = some (.type "function") ∧ FnOk P w K mg base (L2.CX P w) 1 fI fd ps (spX C f) ∧ Binds K fd ps []
theorem del_eq_delH {H : Hp} {a : Addr} : del H a = delH H a := rfl
section
variable {X : Cx} {W : WX} {ρ : List B} {a b c e : Expr} {ra rb rc : R D} {pos : Pos}
theorem cs_raiseI {x f : Str} {p rp : Pos} {k : Nat} (kx : Kx X W) (T : ExcI X.prog X.w X.K X.mg X.base x f) (hr : Room (k + 2) X.A) (he : CE X W ρ e ra) (hg : Gl X x := by rfl) (hs : starEach [e] X.env = (false, eval e X.env) :: starEach [] X.env := by rfl) (hdb : (x == ("__debug__" : Str)) = false := by decide)
    (hpl : (backTo pos (starEach [] X.env)).any (·.1) = false := by rfl) :
    CS X W ρ (.Raise (some (.Call (.Name x p) [e] [] pos)) none rp) (onE ra ρ fun d => some (.rs ⟨x, some (f, d)⟩ ρ)) := by
  obtain ⟨C, fI, fd, ps, gC, oC, iC, tI, F1, hb⟩ := T.ex
  refine ⟨fun pins s σ H Dn I ⟨F0, H0, F, S, q⟩ => (ps_raise kx.calm kx.tk (pmk_oex (ds := []) (dvs := []) oC iC tI F1 (hr.mono (by omega)) hb .nil passL hg gC (pa_cons he pa_nil hs) hdb hs hpl)).run pins s σ H Dn I ⟨F0, H0, F, S, PostS.onE S q fun d v F1 H1 _ g S1 r p1 => ?_⟩⟩
  unfold RpE at r
  refine ⟨by show 1 ≤ 1000; decide, fun a ha => ⟨a, v, rfl, upd_same, fun dx hdx ne => ⟨rfl, dx, [(f, v)], upd_same, by rw [upd_ne ne, upd_same], ?_, ?_⟩⟩⟩
  · rw [upd_ne ne] at hdx
    exact hdx
  · have hdx1 : H1 dx = none := by
      rw [upd_ne ne] at hdx
      exact hdx
    -- the heap behind: as before, and the exception's dict
    have e1 : upd (del (upd (upd (upd H1 a (exo a C none)) dx (exd dx [(f, v)])) a (exo a C (some dx))) a) dx (.xd [(f, v)]) = upd H1 dx (.xd [(f, v)]) := by
      funext b
      by_cases hb1 : b = dx
      · subst hb1
        rw [upd_same, upd_same]
      · rw [upd_ne hb1, upd_ne hb1]
        by_cases hb2 : b = a
        · subst hb2
          rw [del_same, ha]
        · rw [del_ne hb2, upd_ne hb2, upd_ne hb1, upd_ne hb2]
    rw [e1]
    have g2 : Go F1 H1 F1 (upd H1 dx (.xd [(f, v)])) := Go.lay g.xt hdx1
    exact p1 σ F1 _ (.ref C) (some dx) (S1.step g2) (Ex.refl _) ⟨C, rfl, gC, dx, v, rfl, upd_same, r⟩

/-! ### except X as n -/
def wipeO (i : Nat) : Option Out → Option Out
  | some (.nx ρ) => some (.nx (ρ.set i .un))
  | some (.bk ρ) => some (.bk (ρ.set i .un))
  | some (.ct ρ) => some (.ct (ρ.set i .un))
  | some (.rt d) => some (.rt d)
  | _ => none
def exn0 (x : Exn) : B := .exn 0 .none none x
/-- the handler does not ask where the exception stands -/
def HPar (i : Nat) (h : List B → Option Out) : Prop := ∀ (ρ : List B) (x : Exn) (a : Addr) (cls : Value) (d : Option Addr), wipeO i (h (ρ.set i (.exn a cls d x))) = wipeO i (h (ρ.set i (exn0 x)))
def tryAsO (i : Nat) (x : Str) (o : Option Out) (h : List B → Option Out) : Option Out := match o with
  | some (.rs e ρ) => if e.cls = x then wipeO i (h (ρ.set i (exn0 e))) else none
  | o => o
theorem RepS.setExn {K : PySem.W.Frag} {mg : Str → Option Value} {F0 H0 F H : Hp} {σ : L2.St} {i : Nat} {a : Addr} {cls : Value} {dd : Option Addr} {x : Exn} (S : RepS K mg F0 H0 F H σ ρ) (er : ExR K mg F H x cls dd) : RepS K mg F0 H0 F H (σ.set i (some (.ref a))) (ρ.set i (.exn a cls dd x)) := by
  have no : ∀ (j : Nat) (b : B), (ρ.set i (.exn a cls dd x))[j]? = some b → b.mine = true → ρ[j]? = some b ∧ i ≠ j := fun j b h m => by
    by_cases z : i = j
    · subst z
      have hl : i < ρ.length := by
        have := (List.getElem?_eq_some_iff.mp h).1
        simpa using this
      rw [List.getElem?_set_self hl] at h
      cases h
      cases m
    · rw [List.getElem?_set_ne z] at h
      exact ⟨h, z⟩
  refine ⟨S.go, by rw [List.length_set, List.length_set, S.len], fun j b h => ?_, fun j k b b' p n e e' m m' q => ?_⟩
  · by_cases z : i = j
    · subst z
      have hl : i < ρ.length := by
        have := (List.getElem?_eq_some_iff.mp h).1
        simpa using this
      rw [List.getElem?_set_self hl] at h
      cases h
      refine ⟨?_, er⟩
      rw [List.getElem?_set_self (by rw [S.len]; exact hl)]
    · rw [List.getElem?_set_ne z] at h ⊢
      exact S.at_ j b h
  · obtain ⟨e1, z1⟩ := no j b e m
    obtain ⟨e2, z2⟩ := no k b' e' m'
    rw [List.getElem?_set_ne z1] at q
    rw [List.getElem?_set_ne z2]
    exact S.dis j k b b' p n e1 e2 m m' q
theorem cs_try_as (i : Nat) {x n : Str} {body suite : List Stmt} {b₀ : Stmt} {np pos' : Pos} {o : Option Out} {h : List B → Option Out} (kx : Kx X W) (hst : X.stack = X.env :: X.outer) (hfr : X.env.frame = some X.env.locals) (hN : X.N.Nodup) (T : Takes1 X.K X.mg x)
    (hb : ∀ (W : WX) (pn : List (Addr × Obj)) (xe : Value → Shared → Prop), Kx (X.tr pn xe) W → CSs (X.tr pn xe) W ρ body o)
    (hh : ∀ (a : Addr) (oe : Obj) (cls : Value) (d : Option Addr) (pn : List (Addr × Obj)) (ρ : List B) (ex : Exn), Zc cls d oe → (∃ vs, oe.data = .fields vs) → CSs (X.suite a ((a, oe) :: pn)) W (ρ.set i (.exn a cls d ex)) (b₀ :: suite) (h (ρ.set i (.exn a cls d ex))))
    (hp : HPar i h) (hg : Gl X x := by rfl) (hi : X.N[i]? = some n := by rfl) (hln : X.env.kindOf n = some .local := by rfl) (hdb : (x == ("__debug__" : Str)) = false := by decide) :
    CS X W ρ (.Try body [.ExceptHandler (some (.Name x np)) (some n) (b₀ :: suite) pos'] [] [] pos) (tryAsO i x o h) := by
  obtain ⟨C, gC, tC⟩ := T.own
  refine ⟨fun pins s σ H Dn I hyp => ?_⟩
  refine (L2.ps_try_as (i := i) (c := .ref C) (Wout := W) (tb := fun W' => cS X.K X.mg W' ρ o) (ts := fun a cls d D σ H => ∃ ρ' ex, cS X.K X.mg W (ρ'.set i (.exn a cls d ex)) (h (ρ'.set i (.exn a cls d ex))) D σ H) hst hfr hN hi hln ⟨hg, hdb, .inl gC⟩ kx.tk
    (fun W' pn xe tk hp => hb W' pn xe ⟨kx.calm, tk, hp⟩) (fun a oe cls d pn hz hf => ⟨fun pins s σ H Dn I ⟨ρ', ex, q⟩ => (hh a oe cls d pn ρ' ex hz hf).run pins s σ H Dn I q⟩)).run pins s σ H Dn I ?_
  obtain ⟨F0, H0, F, S, p⟩ := hyp
  refine ⟨F0, H0, F, S, ?_⟩
  cases o with
  | none => exact p
  | some o =>
    cases o with
    | nx ρ' => exact p
    | rt d => exact p
    | bk ρ' => exact p
    | ct ρ' => exact p
    | rs ex ρ' =>
      intro σ' F' H' cls dd S' e' er
      simp only [tryAsO] at p
      split at p
      · rename_i hx
        obtain ⟨C', ec, g', _⟩ := id er
        rw [hx, gC] at g'
        cases g'
        subst ec
        refine ⟨true, tC, fun _ a ha => ⟨ρ', ex, F0, H0, F', S'.setExn er, ?_⟩, fun z => nomatch z⟩
        rw [← hp ρ' ex a (.ref C) dd] at p
        have p1 := PostS.mono e' p
        revert p1
        cases h (ρ'.set i (.exn a (.ref C) dd ex)) with
        | none => exact fun z => z.elim
        | some o =>
          cases o with
          | nx ρ2 => exact fun p1 σ2 F2 H2 S2 e2 => p1 _ F2 H2 S2.unset e2
          | bk ρ2 => exact fun p1 σ2 F2 H2 S2 e2 => p1 _ F2 H2 S2.unset e2
          | ct ρ2 => exact fun p1 σ2 F2 H2 S2 e2 => p1 _ F2 H2 S2.unset e2
          | rt d => exact fun p1 v F2 H2 g r => p1 v F2 H2 g r
          | rs x2 ρ2 => exact fun p1 => p1.elim
      · exact p.elim
/-- error.f -/
def exnF (ρ : List B) (i : Nat) (f : Str) : R D := match ρ[i]? with
  | some (.exn _ _ _ x) => match x.arg with
    | some (g, d) => if f = g then .ok d else .bad
    | none => .bad
  | _ => .bad
structure ExcF (K : PySem.W.Frag) (mg : Str → Option Value) (x f : Str) : Prop where
  ok : ∀ C, mg x = some (.ref C) → XfC K C ∧ PySem.W.findIn K (.ref C) f = some none
end
section
variable {Y : Cx} {W : WX} {ρ : List B} {pos : Pos}
def exnC (ρ : List B) (i : Nat) (x f : Str) : R D := match ρ[i]? with
  | some (.exn _ _ _ e) => if e.cls = x then exnF ρ i f else .bad
  | _ => .bad
theorem ce_xf (i : Nat) {x n f : Str} {p : Pos} {a : Addr} {oe : Obj} {cls : Value} {dd : Option Addr} {pn : List (Addr × Obj)} (T : ExcF Y.K Y.mg x f) (hz : Zc cls dd oe) (hf : ∃ vs, oe.data = .fields vs) (hi : ∀ y, ρ[i]? = some y → ∃ e, y = .exn a cls dd e) (hN : Y.N[i]? = some n := by rfl)
    (hv : Vis (Y.suite a ((a, oe) :: pn)).env.scope n := by first | exact Or.inl rfl | exact Or.inr (Or.inl rfl) | exact Or.inr (Or.inr rfl)) (hd : (n == ("__debug__" : Str)) = false := by decide)
    (hcd : (n == ("__classdict__" : Str)) = false := by decide) (hb : attributeBase (.Name n p) f Y.env (eval (.Name n p) Y.env) = eval (.Name n p) Y.env := by rfl) :
    CE (Y.suite a ((a, oe) :: pn)) W ρ (.Attribute (.Name n p) f pos) (exnC ρ i x f) := by
  refine ⟨fun pins s σ H Q I ⟨F0, H0, F, S, q⟩ => ?_⟩
  have q : Post Y.K Y.mg (RpE Y.K Y.mg) W σ F H (exnC ρ i x f) Q := q
  unfold exnC at q
  split at q
  · rename_i a' c' d' e' er
    obtain ⟨e2, z⟩ := hi _ er
    cases z
    split at q
    · rename_i hx
      unfold exnF at q
      rw [er] at q
      simp only at q
      obtain ⟨h1, C, h2, h3, h4⟩ := S.at_ i _ er
      split at q
      · rename_i g d harg
        split at q
        · rename_i hfg
          subst hfg
          rw [harg] at h4
          obtain ⟨da, v, h5, h6, h7⟩ := h4
          rw [hx] at h3
          obtain ⟨xc, no⟩ := T.ok C h3
          refine (pe_xf (C := C) xc no hz hf (pe_var (i := i) hN hv hd hcd) hb).run pins s σ H Q I ?_
          refine ⟨_, h1, rfl, h2, da, _, v, h5, h6, by simp, ?_⟩
          exact q v F H (Go.refl S.xt) h7
        · exact q.elim
      · exact q.elim
    · exact q.elim
  · exact q.elim
end
section
variable {X : Cx} {W : WX} {ρ : List B} {a b c e : Expr} {ra rb rc : R D} {pos : Pos}
/-! ### isinstance(x, bool) -/
def isBoolD : D → R D
  | .bool _ => .ok (.bool true)
  | .int _ => .ok (.bool false)
  | .str _ => .ok (.bool false)
  | .none => .ok (.bool false)
  | .list _ => .ok (.bool false)
  | _ => .bad
theorem ce_isbool {p p2 : Pos} (hm : X.mg "isinstance" = none) (hmb : X.mg "bool" = none) (ha : CE X W ρ a ra) (hg : Gl X "isinstance" := by rfl) (hg2 : Gl X "bool" := by rfl)
    (he : starEach [a, .Name "bool" p2] X.env = (false, eval a X.env) :: starEach [.Name "bool" p2] X.env := by rfl) (he2 : starEach [.Name "bool" p2] X.env = (false, eval (.Name "bool" p2) X.env) :: starEach [] X.env := by rfl) (hpl : (backTo pos (starEach [.Name "bool" p2] X.env)).any (·.1) = false := by rfl) :
    CE X W ρ (.Call (.Name "isinstance" p) [a, .Name "bool" p2] [] pos) (ra.bind isBoolD) :=
  ⟨fun pins s σ H Q I ⟨F0, H0, F, S, q⟩ => (pe_callB call_isi hg hm (by decide +kernel) (pa_cons ha (pa_cons (pe_bltn (v := .ty "bool") hg2 hmb (by decide +kernel) rfl) pa_nil he2) he) (by decide) (by decide) he hpl).run pins s σ H Q I ⟨F0, H0, F, S, q.bind fun d v F1 H1 _ g r p1 => by
    unfold RpE at r
    cases d with
    | bool k =>
      simp only [Rep] at r
      subst r
      exact ⟨.bl k, .ty "bool", _, _, true, rfl, .ty _, .base (.bl k), kit_ty (by decide +kernel), post_now g.xt p1 (by simp only [Rep])⟩
    | int k =>
      simp only [Rep] at r
      subst r
      exact ⟨.int k, .ty "bool", _, _, false, rfl, .ty _, .base (.int k), kit_ty (by decide +kernel), post_now g.xt p1 (by simp only [Rep])⟩
    | str k =>
      simp only [Rep] at r
      subst r
      exact ⟨.str k, .ty "bool", _, _, false, rfl, .ty _, .base (.str k), kit_ty (by decide +kernel), post_now g.xt p1 (by simp only [Rep])⟩
    | none =>
      simp only [Rep] at r
      subst r
      exact ⟨.non, .ty "bool", _, _, false, rfl, .ty _, .base .non, kit_ty (by decide +kernel), post_now g.xt p1 (by simp only [Rep])⟩
    | list ds =>
      obtain ⟨q, vs, rfl, h2, h3⟩ := rep_lst.mp r
      exact ⟨.ref q, .ty "bool", _, _, false, rfl, .ty _, .base (.lst (g.xt _ _ h2)), kit_ty (by decide +kernel), post_now g.xt p1 (by simp only [Rep])⟩
    | _ => exact p1.elim⟩⟩
end
end RB


set_option Elab.async false
set_option linter.all false
set_option maxRecDepth 100000
set_option maxHeartbeats 2000000
namespace RB
open PySem L2 PySem.Spec PyProof.Rows
section
variable {X : Cx} {W : WX} {ρ : List B} {a b c e : Expr} {ra rb rc : R D} {pos : Pos}
/-! ### l.count(x) -/
def rCntD (K : PySem.W.Frag) : V → List V → Hp → VK → Prop := fun x xs H Q => ∃ (p : Addr) (y : V) (d : PyData) (ds : List PyData), x = V.ref p ∧ xs = [y] ∧ Dp K H (V.ref p) (.list ds) ∧ Dp K H y d ∧ SeqAt.shaped (.list ds) = true ∧ SeqAt.shaped d = true ∧ Q (.int ((ds.countP fun z => PyData.eqv z d) : Nat)) H
theorem mt_countD (hu : X.A.units + 65 < cLine) : MtR X "list.count" (rCntD X.K) := by
  rintro pins s σ H _ _ _ _ Q I rx rxs ⟨q, y, d, ds, rfl, rfl, wl, wy, shl, shd, want⟩
  cases rx
  match rxs with
  | .cons (b := uy) ry .nil =>
  match wl with
  | .lst there each =>
  obtain ⟨_, read_y⟩ := Dp.reads I d y uy wy ry
  obtain ⟨vals, hv, ⟨⟨_, dd, _, slots⟩, n, at_q, cls_q, hdn, data_q⟩, small_q⟩ := I.list there
  obtain rfl : _ = Value.type "list" := cls_q
  obtain rfl : _ = Data.seq vals.toArray n := data_q
  obtain ⟨_, read_all⟩ := Dp.readsAll I ds _ vals each hv
  have laid := SeqAt.canLay_of_shaped shl
  have same := SeqAt.readsAll_map ds vals _ laid read_all
  have small_y : X.A.units + 1 + min (PyData.depthAll ds) d.depth < cLine := room_in_shaped shd hu
  have equal := SeqAt.items_eqAt (vs := vals.toArray) read_all read_y laid (SeqAt.canLay_of_shaped shd) small_y
  have counted := SeqAt.list_countAt q vals.toArray n dd slots uy fun u => PyData.eqv (SeqAt.readOf s.heap u) d
  refine call_meets PySem.F.slot_list_count ⟨_, at_q, rfl⟩ PySem.F.entry_list_count (PySem.F.args_list_count_2 _ _) counted ⟨at_q, equal, .int (ds.countP fun z => PyData.eqv z d : Nat), H, I.tok _, ⟨s.toks, ?_⟩, want⟩
  have e : (vals.countP fun u => PyData.eqv (SeqAt.readOf s.heap u) d) = ds.countP fun z => PyData.eqv z d := by
    conv => rhs; rw [← same, List.countP_map]
    rfl
  exact congrArg (fun c : Nat => Value.int (c : Int) s.toks) e
def countD (x y : D) : R D := match x with
  | .list ds => if SeqAt.shaped (.list ds) = true ∧ SeqAt.shaped y = true then .ok (.int ((ds.countP fun z => PyData.eqv z y : Nat) : Int)) else .bad
  | _ => .bad
theorem ce_count {k : Nat} {apos cpos : Pos} (hr : Room k X.A) (ha : CEw X W ρ a ra) (hb : CE X W ρ b rb) (hss : starEach (b :: []) X.env = (false, eval b X.env) :: starEach [] X.env := by rfl)
    (hfew : ((backTo cpos (starEach (b :: []) X.env)).all (fun x => !x.1) && (backToKw cpos (keywordEach [] X.env)).all (fun x => x.1.isSome)
      && decide ((b :: []).length + ([] : List Keyword).length + (if ([] : List Keyword).isEmpty then 0 else 1) < 30)) = true := by rfl)
    (hbase : attributeBase a ("count" : Str) X.env (eval a X.env) = eval a X.env := by rfl) (hline : (apos.endLine == cpos.line) = true := by rfl) (hpl : (backTo cpos (starEach [] X.env)).any (·.1) = false := by rfl) :
    CE X W ρ (.Call (.Attribute a "count" apos) [b] [] cpos) (ra.bind fun x => (lstOf x).bind fun ds => rb.bind fun y => countD (.list ds) y) :=
  ⟨fun pins s σ H Q I ⟨F0, H0, F, S, p⟩ => (pe_bm PySem.F.plainAttrs_list PySem.F.slot_list_count PySem.F.type_list_count (mt_countD (hu65 hr)) ha (pa_cons hb pa_nil hss) hbase hfew hline hss hpl).run pins s σ H Q I ⟨F0, H0, F, S, p.bind fun d v F1 H1 _ g r p1 => by
    cases d with
    | list ds =>
      obtain ⟨q, vs, rfl, h2, h3⟩ := repW_seq g.xt r
      have p1 : Post X.K X.mg (RpE X.K X.mg) W σ F1 H1 (rb.bind fun y => countD (.list ds) y) Q := p1
      refine ⟨.inl ⟨rfl, vs, h2⟩, F0, H0, F1, S.step g, p1.bind fun d2 v2 F2 H2 _ g2 r2 p2 => ?_⟩
      simp only [countD] at p2
      split at p2
      · rename_i hs
        refine ⟨q, v2, d2, ds, rfl, rfl, ?_, Rep.dp g2.xt d2 v2 (lay_of_shaped hs.2) r2, hs.1, hs.2, post_now g2.xt p2 (by simp only [Rep])⟩
        exact repW_dp g2.xt hs.1 (RepW.go g2 r)
      · exact p2.elim
    | _ => exact p1.elim⟩⟩
/-! ### sorted of ints -/
def intsOf : List D → Option (List Int)
  | [] => some []
  | .int b :: r => (intsOf r).map (b :: ·)
  | _ :: _ => none
theorem intsOf_rep {K : PySem.W.Frag} {mg : Str → Option Value} {F : Hp} : ∀ {ds : List D} {vs : List V} {ss : List Int}, intsOf ds = some ss → RepAll K mg F ds vs → vs = ss.map V.int
  | [], vs, ss, h, r => by
    simp only [intsOf, Option.some.injEq] at h
    subst h
    simp only [RepAll] at r
    simpa using r
  | d :: ds, vs, ss, h, r => by
    cases d with
    | int s =>
      simp only [intsOf, Option.map_eq_some_iff] at h
      obtain ⟨ss', h1, rfl⟩ := h
      simp only [RepAll, Rep] at r
      obtain ⟨v, r', rfl, rfl, h3⟩ := r
      rw [intsOf_rep h1 h3]
      rfl
    | _ => simp [intsOf] at h
def setIn (x : Int) : List Int → List Int
  | [] => [x]
  | y :: r => if x ≤ y then x :: y :: r else y :: setIn x r
def inRow : List Int → List Int
  | [] => []
  | x :: r => setIn x (inRow r)
theorem setIn_perm (x : Int) : ∀ l, (setIn x l).Perm (x :: l)
  | [] => List.Perm.refl _
  | y :: r => by
    unfold setIn
    split
    · exact List.Perm.refl _
    · exact ((setIn_perm x r).cons y).trans (List.Perm.swap x y r)
theorem inRow_perm : ∀ l, (inRow l).Perm l
  | [] => List.Perm.refl _
  | x :: r => (setIn_perm x (inRow r)).trans ((inRow_perm r).cons x)
theorem setIn_sorted (x : Int) : ∀ l : List Int, l.Pairwise (· ≤ ·) → (setIn x l).Pairwise (· ≤ ·)
  | [], _ => by simp [setIn]
  | y :: r, h => by
    have h' := List.pairwise_cons.mp h
    unfold setIn
    split
    · rename_i hxy
      refine List.pairwise_cons.mpr ⟨fun z hz => ?_, h⟩
      rcases List.mem_cons.mp hz with rfl | hz
      · exact hxy
      · have := h'.1 z hz
        omega
    · rename_i hxy
      refine List.pairwise_cons.mpr ⟨fun z hz => ?_, setIn_sorted x r h'.2⟩
      rcases List.mem_cons.mp ((setIn_perm x r).mem_iff.mp hz) with rfl | hz
      · omega
      · exact h'.1 z hz
theorem inRow_sorted : ∀ l, (inRow l).Pairwise (· ≤ ·)
  | [] => List.Pairwise.nil
  | x :: r => setIn_sorted x _ (inRow_sorted r)
theorem sorted_unique : ∀ {l m : List Int}, l.Perm m → l.Pairwise (· ≤ ·) → m.Pairwise (· ≤ ·) → l = m
  | [], m, p, _, _ => by simpa using p.symm.eq_nil
  | x :: l, m, p, h1, h2 => by
    cases m with
    | nil => exact absurd p.eq_nil (by simp)
    | cons y m =>
      have a := List.pairwise_cons.mp h1
      have b := List.pairwise_cons.mp h2
      have e : x = y := by
        have hx : x ∈ y :: m := p.mem_iff.mp List.mem_cons_self
        have hy : y ∈ x :: l := p.mem_iff.mpr List.mem_cons_self
        rcases List.mem_cons.mp hx with rfl | hx
        · rfl
        · rcases List.mem_cons.mp hy with rfl | hy
          · rfl
          · have q1 := a.1 y hy
            have q2 := b.1 x hx
            omega
      subst e
      rw [sorted_unique (List.Perm.cons_inv p) a.2 b.2]
def sortedOf : D → R (List D)
  | .list ds => match intsOf ds with
    | some ns => if ns.length < 64 then .ok ((inRow ns).map .int) else .bad
    | none => .bad
  | _ => .bad
theorem repInts {K : PySem.W.Frag} {mg : Str → Option Value} {F : Hp} : ∀ ns : List Int, RepAll K mg F (ns.map .int) (ns.map V.int)
  | [] => by simp [RepAll]
  | n :: ns => by
    simp only [List.map_cons, RepAll]
    exact ⟨_, _, rfl, by simp only [Rep], repInts ns⟩
abbrev sortedM (r : R D) : R (List D) := r.bind sortedOf
theorem cf_sorted {p : Pos} (hm : X.mg "sorted" = none) (ha : CEw X W ρ a ra) (hg : Gl X "sorted" := by rfl) (hs : starEach (a :: []) X.env = (false, eval a X.env) :: starEach [] X.env := by rfl) (hpl : (backTo pos (starEach [] X.env)).any (·.1) = false := by rfl) :
    CF X W ρ (.Call (.Name "sorted" p) [a] [] pos) (ra.bind sortedOf) :=
  ⟨fun pins s σ H Q I ⟨F0, H0, F, S, p⟩ => (pe_callB cr_sorted hg hm (by decide +kernel) (pa_cons ha pa_nil hs) (by decide) (by decide) hs hpl).run pins s σ H Q I ⟨F0, H0, F, S, p.bind fun d v F1 H1 _ g r p1 => by
    cases d with
    | list ds =>
      simp only [sortedOf] at p1
      split at p1
      · rename_i ns hn
        split at p1
        · rename_i hl
          obtain ⟨q, vs, rfl, h2, h3⟩ := repW_seq g.xt r
          have hv := intsOf_rep hn h3
          subst hv
          refine ⟨q, ns, rfl, h2, hl, fun ns' l pm st hl' => ?_⟩
          have e : ns' = inRow ns := sorted_unique (pm.trans (inRow_perm ns).symm) st (inRow_sorted ns)
          rw [e]
          exact p1 l _ F1 H1 (Go.refl g.xt) hl' (repInts _)
        · exact p1.elim
      · exact p1.elim
    | _ => exact p1.elim⟩⟩
/-! ### a, b = [..] -/
def setUnl (is : List Nat) (d : D) (ρ : List B) : Option (List B) := match d with
  | .list ds => if ds.length = is.length then some (setAll is ds ρ) else none
  | _ => none
theorem cs_unl {es : List Expr} {kk : Nat} {tpos : Pos} {is : List Nat} (he : CE X W ρ e ra) (hg : PG X (.Tuple es kk tpos) (gUnl X.K is.length (gMany is))) (hs : swapsWithSole [.Tuple es kk tpos] e pos.line X.env = pure false := by rfl) (hw : swappedStores [.Tuple es kk tpos] e X.env = pure none := by rfl)
    (h1 : (assignEach [.Tuple es kk tpos] X.env).map (·.2) = [assign (.Tuple es kk tpos) X.env] := by rfl) : CS X W ρ (.Assign [.Tuple es kk tpos] e pos) (onE ra ρ fun d => (setUnl is d ρ).map .nx) :=
  ⟨fun pins s σ H Dn I ⟨F0, H0, F, S, p⟩ => (ps_asg he hg hs hw h1).run pins s σ H Dn I ⟨F0, H0, F, S, PostS.onE S p fun d v F1 H1 _ g S1 r p1 => by
    unfold RpE at r
    cases d with
    | list ds =>
      simp only [setUnl] at p1
      split at p1
      · rename_i hl
        obtain ⟨q, vs, rfl, h2, h3⟩ := rep_lst.mp r
        exact ⟨q, vs, rfl, SqL.of (g.xt _ _ h2), by rw [h3.length]; exact hl, gMany_ok (ws := is) hl h3 S1 (fun j hj => hj) fun σ' S' _ => p1 σ' F1 H1 S' (Ex.refl _)⟩
      · exact p1.elim
    | _ => exact p1.elim⟩⟩
/-! ### a written dict with text keys -/
structure KdictC (K : PySem.W.Frag) (w : World) (mg : Str → Option Value) (x : Str) (ps : List (Str × Str)) : Prop where
  ex : ∃ p, mg x = some (.ref p) ∧ ∀ k v, ps.lookup k = some v → KDct K w p k (.str v)
def getKD (ps : List (Str × Str)) : D → R D
  | .str k => (R.of (ps.lookup k)).map .str
  | _ => .bad
theorem ce_kdict {x : Str} {ps : List (Str × Str)} {p : Pos} (T : KdictC X.K X.w X.mg x ps) (hb : CE X W ρ b rb) (hg : Gl X x := by rfl) (hd : (x == ("__debug__" : Str)) = false := by decide) (hs : PlainIx b := by exact fun _ _ => rfl) : CE X W ρ (.Subscript (.Name x p) b pos) (rb.bind (getKD ps)) := by
  obtain ⟨q, gq, hq⟩ := T.ex
  exact ⟨fun pins s σ H Q I ⟨F0, H0, F, S, pp⟩ => (pe_ix ix_kdict (pe_glob (v := .ref q) hg gq rfl hd) hb hs).run pins s σ H Q I ⟨F0, H0, F, S, pp.bind fun d v F1 H1 _ g r p1 => by
    unfold RpE at r
    cases d with
    | str k =>
      simp only [getKD] at p1
      cases e : ps.lookup k with
      | none => rw [e] at p1; exact p1.elim
      | some z =>
        rw [e] at p1
        exact ⟨q, k, .str z, rfl, rep_str.mp r, hq k z e, post_now g.xt p1 (by simp only [Rep])⟩
    | _ => exact p1.elim⟩⟩
/-! ### xs[::-1] -/
theorem RepAll.reverse {K : PySem.W.Frag} {mg : Str → Option Value} {F : Hp} : ∀ {ds : List D} {vs : List V}, RepAll K mg F ds vs → RepAll K mg F ds.reverse vs.reverse
  | [], vs, h => by simp only [RepAll] at h; subst h; simp [RepAll]
  | d :: ds, vs, h => by
    simp only [RepAll] at h
    obtain ⟨v, r, rfl, h2, h3⟩ := h
    rw [List.reverse_cons, List.reverse_cons]
    exact (RepAll.reverse h3).append (RepAll.one h2)
theorem cf_rev {k p1 p2 p3} (ha : CEw X W ρ a ra) : CF X W ρ (.Subscript a (.Slice none none (some (.UnaryOp .USub (.Constant (.int 1) k p1) p2)) p3) pos) (ra.bind fun x => (lstOf x).map List.reverse) :=
  ⟨fun pins s σ H Q I ⟨F0, H0, F, S, p⟩ => (pe_revL ha).run pins s σ H Q I ⟨F0, H0, F, S, p.bind fun d v F1 H1 _ g r p1 => by
    cases d with
    | list ds =>
      obtain ⟨q, vs, rfl, h2, h3⟩ := repW_seq g.xt r
      exact ⟨q, vs, rfl, h2, fun l hl => p1 l _ F1 H1 (Go.refl g.xt) hl h3.reverse⟩
    | _ => exact p1.elim⟩⟩
end
end RB


set_option Elab.async false
set_option linter.all false
set_option maxRecDepth 100000
set_option maxHeartbeats 2000000
namespace RB
open PySem L2 PySem.Spec PyProof.Rows
abbrev revM (r : R D) : R (List D) := r.bind fun x => (lstOf x).map List.reverse
abbrev propM (c : Str) (f : List D → R D) (r : R D) : R D := r.bind fun d => (propOf c d).bind fun d => noRs (f [d])
abbrev methM (c m : Str) (fl : List Bool) (f : List D → R D) (ra : R D) (r : R (List (Bool × D))) : R D := ra.bind fun d => (insOf c m d).bind fun d => r.bind fun xs => callM (false :: fl) f ((false, d) :: xs)
abbrev methM0 (c m : Str) (f : List D → R D) (ra : R D) : R D := ra.bind fun d => (insOf c m d).bind fun d => f [d]
abbrev countM (ra rb : R D) : R D := ra.bind fun x => (lstOf x).bind fun ds => rb.bind fun y => countD (.list ds) y
section
variable {X : Cx} {W : WX}
theorem suite1 {i : Nat} {a : Addr} {cls : Value} {d : Option Addr} {ex : Exn} {ρ0 : List B} {sts : List Stmt} {h : List B → Option Out} (t : ∀ ρ : List B, (∀ y, ρ[i]? = some y → ∃ e, y = .exn a cls d e) → CSs X W ρ sts (h ρ)) : CSs X W (ρ0.set i (.exn a cls d ex)) sts (h (ρ0.set i (.exn a cls d ex))) := by
  refine t _ fun y hy => ?_
  by_cases hl : i < ρ0.length
  · rw [List.getElem?_set_self hl] at hy
    exact ⟨ex, (Option.some.inj hy).symm⟩
  · rw [List.getElem?_eq_none (by rw [List.length_set]; omega)] at hy
    cases hy
end
theorem wipeO_onE {α : Type} {i : Nat} {r : R α} {ρ : List B} {k : α → Option Out} : wipeO i (onE r ρ k) = match r with
    | .ok a => wipeO i (k a)
    | _ => none := by cases r <;> rfl
theorem getW_setne {ρ : List B} {i j : Nat} {b : B} (h : i ≠ j) : getW (ρ.set i b) j = getW ρ j := by unfold getW; rw [List.getElem?_set_ne h]
theorem getB_setne {ρ : List B} {i j : Nat} {b : B} (h : i ≠ j) : getB (ρ.set i b) j = getB ρ j := by unfold getB; rw [List.getElem?_set_ne h]
theorem exnC_set {ρ : List B} {i : Nat} {a : Addr} {cls : Value} {d : Option Addr} {x : Exn} {c f : Str} : exnC (ρ.set i (.exn a cls d x)) i c f = exnC (ρ.set i (exn0 x)) i c f := by
  unfold exnC exnF exn0
  by_cases hl : i < ρ.length
  · rw [List.getElem?_set_self hl, List.getElem?_set_self hl]
  · rw [List.getElem?_eq_none (by rw [List.length_set]; omega), List.getElem?_eq_none (by rw [List.length_set]; omega)]
theorem wipe_nx {ρ : List B} {i j : Nat} {b b' c : B} : wipeO i (some (.nx ((ρ.set i b).set j c))) = wipeO i (some (.nx ((ρ.set i b').set j c))) := by
  simp only [wipeO]
  by_cases h : i = j
  · subst h
    simp [List.set_set]
  · rw [List.set_comm _ _ h, List.set_comm b' _ h, List.set_set, List.set_set]
end RB
namespace RB
open PySem L2 PySem.Spec PyProof.Rows
section
variable {X : Cx} {W : WX} {ρ : List B} {a b c e : Expr} {ra rb rc : R D} {pos : Pos} {tg : Expr}
/-- the signs of a text -/
def signsOf : D → R (List D)
  | .str s => .ok (s.cps.toList.map fun c => .str ⟨#[c]⟩)
  | _ => .bad
theorem ci_str (ha : CE X W ρ a ra) : CI X W tg ρ a (ra.bind signsOf) :=
  ⟨fun pins s σ H Rk I ⟨F0, H0, F, S, p⟩ => (pi_str ha).run pins s σ H Rk I ⟨F0, H0, F, S, p.bind fun d v F1 H1 _ g r p1 => by
    unfold RpE at r
    cases d with
    | str z =>
      refine ⟨z, rep_str.mp r, p1 _ F1 H1 (Go.refl g.xt) fun F' H' i e1 e2 e3 => ⟨fun d hd => ?_, fun hl => ?_⟩⟩
      · rw [List.getElem?_map] at hd
        cases q : z.cps.toList[i]? with
        | none => rw [q] at hd; cases hd
        | some c =>
          rw [q] at hd
          cases hd
          have q' : z.cps[i]? = some c := by simpa using q
          have hi : i < z.cps.size := (Array.getElem?_eq_some_iff.mp q').1
          refine ⟨hi, fun x H'' hy => ?_⟩
          obtain ⟨rfl, c', h1, rfl⟩ := hy
          rw [q'] at h1
          cases h1
          exact ⟨F', Go.refl e3, by simp only [Rep]⟩
      · show z.cps.size ≤ i
        simpa using hl
    | _ => exact p1.elim⟩⟩
end
end RB


set_option Elab.async false
set_option linter.all false
set_option maxRecDepth 100000
set_option maxHeartbeats 2000000
namespace RB
open PySem L2 PySem.Spec PyProof.Rows
/-! ### several clauses «except X as n», one name -/
/-- its class, its suite, whether it has a name -/
abbrev Clause := Value × (Addr → Value → Option Addr → TS) × Bool
def endsU (i : Nat) (D : Ends) : Ends := { nx := fun σ' H' => D.nx (σ'.set i none) H', rt := D.rt, bk := fun σ' H' => D.bk (σ'.set i none) H', ct := fun σ' H' => D.ct (σ'.set i none) H' }
def wAll (K : PySem.W.Frag) (i : Nat) (Wout : WX) (D : Ends) : List Clause → WX
  | [] => Wout
  | cl :: r => fun cls d σ H => ∃ b, PySem.W.exmOne K cls cl.1 = some b ∧ (b = true → ∀ a, H a = none → cl.2.1 a cls d (if cl.2.2 = true then endsU i D else D) (if cl.2.2 = true then σ.set i (some (.ref a)) else σ) H) ∧ (b = false → wAll K i Wout D r cls d σ H)
inductive HdsAs (X : Cx) (n : Str) : List ExceptHandler → List Clause → Prop
  | nil : HdsAs X n [] []
  | cons {x : Str} {c : Value} {ts : Addr → Value → Option Addr → TS} {b₀ : Stmt} {suite : List Stmt} {np pos' : Pos} {hds : List ExceptHandler} {l : List Clause} (hc : Names X x c)
      (body : ∀ (a : Addr) (oe : Obj) (cls : Value) (d : Option Addr) (pn : List (Addr × Obj)), Zc cls d oe → (∃ vs, oe.data = .fields vs) → PSs (X.suite a ((a, oe) :: pn)) (b₀ :: suite) (ts a cls d)) (r : HdsAs X n hds l) :
      HdsAs X n (.ExceptHandler (some (.Name x np)) (some n) (b₀ :: suite) pos' :: hds) ((c, ts, true) :: l)
  | cons0 {x : Str} {c : Value} {ts : Addr → Value → Option Addr → TS} {b₀ : Stmt} {suite : List Stmt} {np pos' : Pos} {hds : List ExceptHandler} {l : List Clause} (hc : Names X x c)
      (body : ∀ (a : Addr) (oe : Obj) (cls : Value) (d : Option Addr) (pn : List (Addr × Obj)), Zc cls d oe → (∃ vs, oe.data = .fields vs) → PSs (X.suite a ((a, oe) :: pn)) (b₀ :: suite) (ts a cls d)) (r : HdsAs X n hds l) :
      HdsAs X n (.ExceptHandler (some (.Name x np)) none (b₀ :: suite) pos' :: hds) ((c, ts, false) :: l)
section
variable {X : Cx} {n : Str} {i : Nat} {Wout : WX}
/-- what a caught exception meets, clause by clause -/
theorem clauses_run {hds : List ExceptHandler} {l : List Clause} (hk : HdsAs X n hds l) (ok : X.Ok) (hst : X.stack = X.env :: X.outer) (hfr : X.env.frame = some X.env.locals) (hN : X.N.Nodup) (hi : X.N[i]? = some n) (hln : X.env.kindOf n = some .local) (tk : Takes X Wout)
    {pins : List (Addr × Obj)} {D : Ends} {a : Addr} {B : Heap} {sI s' : Shared} {σ' : L2.St} {H' : Hp} {cls : Value} {d : Option Addr} {h3 : Heap} (J : L2.Inv X pins σ' H' sI) (nb : ∀ b o, sI.heap.get? b = some o → b ∉ frs X.stack → B.get? b = some o)
    (fl : HandSPX.FlyingZ B (X.env :: X.outer) a (Zc cls d) h3) (up : sI.heap.UpToSlots h3) (os : s'.os = sI.os) (ag : AllBare s'.gens) (na : H' a = none) (nL : a ≠ X.env.locals) (nF : a ∉ X.fs) (w : wAll X.K i Wout D l cls d σ' H') :
    wpAny (model X.prog X.w) X.A (handleBy (.ref a) X.env hds) (SP X pins D) X.xe { s' with heap := h3 } := by
  have J3 : L2.Inv X pins σ' H' { s' with heap := h3 } := J.landed nb fl.1 up os ag
  obtain ⟨oe3, vs3, he3, hz3, hd3⟩ := fl.there
  induction hk with
  | nil =>
    refine wpAny_handleBy_nil ?_
    obtain ⟨_, _, _, oe, vs, T, oT, _, he, _, hd, h1, _⟩ := id fl
    unfold PySem.passOn
    refine wpAny_bind (wpAny_field he hd h1 ?_)
    rw [if_neg (by simp : ¬ ((Value.ref T == Value.none) = true))]
    have thrown : wpAny (model X.prog X.w) X.A (setFlight (.ref a) X.env.frame) (fun _ s4 => wpAny (model X.prog X.w) X.A (throw (.ref a) : Sem Flow) (SP X pins D) X.xe s4) X.xe { s' with heap := h3 } := by
      rw [hfr]
      exact HandSPX.setFlight_upZ fl fun h4 held up4 => wpAny_throw (tk _ _ ⟨a, B, sI, pins, σ', H', cls, d, rfl, J, nb, up.trans up4, .inr (.inr (by rw [hst]; exact held)), na, os, ag, w⟩)
    first
      | exact wpAny_bind (wpAny_pure (wpAny_bind thrown))
      | exact wpAny_bind thrown
  | @cons x c ts b₀ suite np pos' hds2 l2 hc body r ih =>
    obtain ⟨b, hb, yes, no⟩ := w
    have J3s := J3.suite he3 hd3 na nL nF
    have kind := PySem.W.exm_one (M := model X.prog X.w) J3.kIn (fun A Q E s k q => wpAny_typeOf_ref (k _ _ he3) (by rw [hz3.1]; exact q)) hb
    have read : ∀ {Q : Value → Shared → Prop} {E : Value → Shared → Prop}, Q c { s' with heap := h3 } → wpAny (model X.prog X.w) (X.A.mark (some (.ref a))) (eval (.Name x np) X.env) Q E { s' with heap := h3 } := fun q => by
      obtain ⟨g, gd, m | ⟨m, v, nn⟩⟩ := hc
      · exact ld_glob (X := X.suite a ((a, oe3) :: (X.pn ++ pins))) J3s g m q gd
      · exact ld_blt (X := X.suite a ((a, oe3) :: (X.pn ++ pins))) J3s g m v q nn gd
    refine wpAny_handleBy_cons (codeAny_handlers_test (read (kind.here ?_))) (by intro q; cases q)
    cases b with
    | false => exact ih (no rfl)
    | true =>
      refine codeAny_handlers_suite_as (HandSPX.lands_againZ fl fun h4 fl4 up4 => ?_)
      have J4 : L2.Inv X pins σ' H' { s' with heap := h4 } := J.landed nb fl4.1 (up.trans up4) os ag
      obtain ⟨oe4, vs4, he4, hz4, hd4⟩ := fl4.there
      refine store_ok (X := X.suite a ((a, oe4) :: (X.pn ++ pins))) (v := .ref a) (J4.suite he4 hd4 na nL nF) hN hi (.inl hln) rfl (fun s5 S5 => ?_) (.inr hln)
      refine wpAny_mono ((body a oe4 cls d (X.pn ++ pins) hz4 ⟨_, hd4⟩).run [] s5 _ H' _ S5 (yes rfl a na)) (fun f s6 q => ?_) (fun _ _ z => z.elim)
      have goes : ∀ {σ6 : L2.St} {H6 : Hp} {Q : Shared → Prop}, L2.Inv (X.suite a ((a, oe4) :: (X.pn ++ pins))) [] σ6 H6 s6 → (∀ s7, L2.Inv X pins (σ6.set i none) H6 s7 → Q s7) →
          wpAny (model X.prog X.w) X.A (do bindName X.env n .none; unbindBehindTheSuite X.env n pos') (fun _ s7 => Q s7) X.xe s6 := fun S6 k => gone_ok (S6.unsuite ok) hN hi hln k
      cases f with
      | next => obtain ⟨_, _, S6, q6⟩ := q; exact goes S6 fun s7 J7 => ⟨_, _, J7, q6⟩
      | brk => obtain ⟨_, _, S6, q6⟩ := q; exact goes S6 fun s7 J7 => ⟨_, _, J7, q6⟩
      | cont => obtain ⟨_, _, S6, q6⟩ := q; exact goes S6 fun s7 J7 => ⟨_, _, J7, q6⟩
      | ret u => obtain ⟨_, _, _, S6, r6, q6⟩ := q; exact goes S6 fun s7 J7 => ⟨_, _, _, J7, r6, q6⟩
  | @cons0 x c ts b₀ suite np pos' hds2 l2 hc body r ih =>
    obtain ⟨b, hb, yes, no⟩ := w
    have J3s := J3.suite he3 hd3 na nL nF
    have kind := PySem.W.exm_one (M := model X.prog X.w) J3.kIn (fun A Q E s k q => wpAny_typeOf_ref (k _ _ he3) (by rw [hz3.1]; exact q)) hb
    have read : ∀ {Q : Value → Shared → Prop} {E : Value → Shared → Prop}, Q c { s' with heap := h3 } → wpAny (model X.prog X.w) (X.A.mark (some (.ref a))) (eval (.Name x np) X.env) Q E { s' with heap := h3 } := fun q => by
      obtain ⟨g, gd, m | ⟨m, v, nn⟩⟩ := hc
      · exact ld_glob (X := X.suite a ((a, oe3) :: (X.pn ++ pins))) J3s g m q gd
      · exact ld_blt (X := X.suite a ((a, oe3) :: (X.pn ++ pins))) J3s g m v q nn gd
    refine wpAny_handleBy_cons (codeAny_handlers_test (read (kind.here ?_))) (by intro q; cases q)
    cases b with
    | false => exact ih (no rfl)
    | true =>
      refine codeAny_handlers_suite (HandSPX.lands_againZ fl fun h4 fl4 up4 => ?_)
      have J4 : L2.Inv X pins σ' H' { s' with heap := h4 } := J.landed nb fl4.1 (up.trans up4) os ag
      obtain ⟨oe4, vs4, he4, hz4, hd4⟩ := fl4.there
      refine wpAny_mono ((body a oe4 cls d (X.pn ++ pins) hz4 ⟨_, hd4⟩).run [] _ _ H' _ (J4.suite he4 hd4 na nL nF) (yes rfl a na)) (fun f s6 q => ?_) (fun _ _ z => z.elim)
      cases f with
      | next => obtain ⟨_, _, S6, q6⟩ := q; exact ⟨_, _, S6.unsuite ok, q6⟩
      | brk => obtain ⟨_, _, S6, q6⟩ := q; exact ⟨_, _, S6.unsuite ok, q6⟩
      | cont => obtain ⟨_, _, S6, q6⟩ := q; exact ⟨_, _, S6.unsuite ok, q6⟩
      | ret u => obtain ⟨_, _, _, S6, r6, q6⟩ := q; exact ⟨_, _, _, S6.unsuite ok, r6, q6⟩
theorem ps_try_all {body : List Stmt} {h₀ : ExceptHandler} {hds : List ExceptHandler} {l : List Clause} {pos : Pos} {tb : WX → TS} (hst : X.stack = X.env :: X.outer) (hfr : X.env.frame = some X.env.locals) (hN : X.N.Nodup) (hi : X.N[i]? = some n) (hln : X.env.kindOf n = some .local) (tk : Takes X Wout)
    (hb : ∀ (W : WX) (pn : List (Addr × Obj)) (xe : Value → Shared → Prop), Takes (X.tr pn xe) W → PassesOwn (model X.prog X.w) X.A X.env xe → PSs (X.tr pn xe) body (tb W)) (hk : HdsAs X n (h₀ :: hds) l) :
    PS X (.Try body (h₀ :: hds) [] [] pos) (fun D σ H => tb (wAll X.K i Wout D l) D σ H) := by
  refine ⟨fun pins s σ H D I h => wpAny_Try_except ?_⟩
  have ok := I.ok
  have frames : X.A.frames = some (X.env :: X.outer) := by rw [ok.frames, hst]
  -- the wish around the body: noted, then the clauses
  have land : ∀ (u : Value) (s' : Shared), XE (X.tr (X.pn ++ pins) (fun e s₁ => wpAny (model X.prog X.w) X.A (noteFrame e X.env) (fun _ s₂ => wpAny (model X.prog X.w) X.A (setFlight e none) (fun _ s₃ =>
      wpAny (model X.prog X.w) X.A (handleBy e X.env (h₀ :: hds)) (SP X pins D) X.xe s₃) X.xe s₂) X.xe s₁)) (wAll X.K i Wout D l) u s' →
      wpAny (model X.prog X.w) X.A (noteFrame u X.env) (fun _ s₂ => wpAny (model X.prog X.w) X.A (setFlight u none) (fun _ s₃ => wpAny (model X.prog X.w) X.A (handleBy u X.env (h₀ :: hds)) (SP X pins D) X.xe s₃) X.xe s₂) X.xe s' := by
    rintro u s' ⟨a, B, sI, pins', σ', H', cls, d, rfl, J', nb, up, sky, na, os, ag, w⟩
    refine Sky.land Zc.steady frames hfr (by rw [← hst]; exact sky) fun h3 fl up3 => ?_
    obtain ⟨oe, vs, he, _, hd⟩ := fl.there
    have far : a ∉ frs (X.env :: X.outer) := fun hm => by
      obtain ⟨_, o', e', notFields⟩ := fl.2.2.1.mem hm
      rw [he] at e'
      cases e'
      exact notFields _ hd
    refine clauses_run hk ok hst hfr hN hi hln tk (J'.ofTry ok) nb fl (up.trans up3) os ag na (fun z => far (List.mem_filterMap.mpr ⟨X.env, List.mem_cons_self, by rw [hfr, z]⟩)) (fun hm => ?_) w
    obtain ⟨e, h1, h2⟩ := List.mem_filterMap.mp hm
    exact far (List.mem_filterMap.mpr ⟨e, List.mem_cons_of_mem _ h1, h2⟩)
  refine wpAny_mono ((hb _ (X.pn ++ pins) _ land PassesOwn.looking).run [] s σ H D (I.toTry _) h) (fun f s1 q => ?_) (fun _ _ z => z)
  cases f with
  | next => obtain ⟨_, _, J, r⟩ := q; exact wpAny_execs_nil ⟨_, _, J.ofTry ok, r⟩
  | brk => obtain ⟨_, _, J, r⟩ := q; exact ⟨_, _, J.ofTry ok, r⟩
  | cont => obtain ⟨_, _, J, r⟩ := q; exact ⟨_, _, J.ofTry ok, r⟩
  | ret u => obtain ⟨_, _, _, J, rv, r⟩ := q; exact ⟨_, _, _, J.ofTry ok, rv, r⟩
end
/-- the clauses by data: for each the class's name and what its suite does -/
def quietO : Option Out → Option Out
  | some (.rs _ _) => none
  | o => o
def handleO (i : Nat) (e : Exn) (ρ : List B) : List (Str × Bool × (List B → Option Out)) → Option Out
  | [] => none
  | (x, k, h) :: r => if e.cls = x then (if k = true then wipeO i (h (ρ.set i (exn0 e))) else quietO (h ρ)) else handleO i e ρ r
def tryAllO (i : Nat) (o : Option Out) (hs : List (Str × Bool × (List B → Option Out))) : Option Out := match o with
  | some (.rs e ρ) => handleO i e ρ hs
  | o => o
/-- another class of the text is not taken by the clause -/
structure Parts2 (K : PySem.W.Frag) (mg : Str → Option Value) (x y : Str) : Prop where
  ok : ∀ C C', mg x = some (.ref C) → mg y = some (.ref C') → PySem.W.exmOne K (.ref C') (.ref C) = some false
inductive ClsOk (X : Cx) (W : WX) (i : Nat) (n : Str) : List ExceptHandler → List (Str × Bool × (List B → Option Out)) → Prop
  | nil : ClsOk X W i n [] []
  | cons {x : Str} {b₀ : Stmt} {suite : List Stmt} {np pos' : Pos} {hds : List ExceptHandler} {hs : List (Str × Bool × (List B → Option Out))} {h : List B → Option Out} (T : Takes1 X.K X.mg x) (hg : Gl X x) (hdb : (x == ("__debug__" : Str)) = false)
      (hh : ∀ (a : Addr) (oe : Obj) (cls : Value) (d : Option Addr) (pn : List (Addr × Obj)) (ρ : List B) (ex : Exn), Zc cls d oe → (∃ vs, oe.data = .fields vs) → CSs (X.suite a ((a, oe) :: pn)) W (ρ.set i (.exn a cls d ex)) (b₀ :: suite) (h (ρ.set i (.exn a cls d ex))))
      (hp : HPar i h) (P : ∀ p ∈ hs, Parts2 X.K X.mg x p.1) (r : ClsOk X W i n hds hs) : ClsOk X W i n (.ExceptHandler (some (.Name x np)) (some n) (b₀ :: suite) pos' :: hds) ((x, true, h) :: hs)
  | cons0 {x : Str} {b₀ : Stmt} {suite : List Stmt} {np pos' : Pos} {hds : List ExceptHandler} {hs : List (Str × Bool × (List B → Option Out))} {h : List B → Option Out} (T : Takes1 X.K X.mg x) (hg : Gl X x) (hdb : (x == ("__debug__" : Str)) = false)
      (hh : ∀ (a : Addr) (oe : Obj) (cls : Value) (d : Option Addr) (pn : List (Addr × Obj)) (ρ : List B), Zc cls d oe → (∃ vs, oe.data = .fields vs) → CSs (X.suite a ((a, oe) :: pn)) W ρ (b₀ :: suite) (h ρ))
      (P : ∀ p ∈ hs, Parts2 X.K X.mg x p.1) (r : ClsOk X W i n hds hs) : ClsOk X W i n (.ExceptHandler (some (.Name x np)) none (b₀ :: suite) pos' :: hds) ((x, false, h) :: hs)
def clOf (K : PySem.W.Frag) (mg : Str → Option Value) (W : WX) (i : Nat) (p : Str × Bool × (List B → Option Out)) : Clause := (match mg p.1 with
  | some v => v
  | none => .none, fun a cls d D σ H => ∃ (ρ' : List B) (ex : Exn), cS K mg W (if p.2.1 = true then ρ'.set i (.exn a cls d ex) else ρ') (p.2.2 (if p.2.1 = true then ρ'.set i (.exn a cls d ex) else ρ')) D σ H, p.2.1)
section
variable {X : Cx} {W : WX} {ρ : List B} {pos : Pos}
theorem cls_as {i : Nat} {n : Str} {hds : List ExceptHandler} {hs : List (Str × Bool × (List B → Option Out))} (h : ClsOk X W i n hds hs) : HdsAs X n hds (hs.map (clOf X.K X.mg W i)) := by
  induction h with
  | nil => exact .nil
  | @cons x b₀ suite np pos' hds hs h T hg hdb hh hp P r ih =>
    obtain ⟨C, gC, _⟩ := T.own
    exact .cons ⟨hg, hdb, .inl (by simp only [clOf, gC])⟩ (fun a oe cls d pn hz hf => ⟨fun pins s σ H Dn I ⟨ρ', ex, q⟩ => (hh a oe cls d pn ρ' ex hz hf).run pins s σ H Dn I q⟩) ih
  | @cons0 x b₀ suite np pos' hds hs h T hg hdb hh P r ih =>
    obtain ⟨C, gC, _⟩ := T.own
    exact .cons0 ⟨hg, hdb, .inl (by simp only [clOf, gC])⟩ (fun a oe cls d pn hz hf => ⟨fun pins s σ H Dn I ⟨ρ', ex, q⟩ => (hh a oe cls d pn ρ' hz hf).run pins s σ H Dn I q⟩) ih
theorem handle_later {i : Nat} {ex : Exn} {ρ' : List B} {hs : List (Str × Bool × (List B → Option Out))} {F0 H0 F : Hp} {Dn : Ends} (p : PostS X.K X.mg W F0 H0 F (handleO i ex ρ' hs) Dn) : ∃ q ∈ hs, q.1 = ex.cls := by
  induction hs with
  | nil => exact p.elim
  | cons q hs ih =>
    simp only [handleO] at p
    by_cases hq : ex.cls = q.1
    · exact ⟨q, List.mem_cons_self, hq.symm⟩
    · rw [if_neg hq] at p
      obtain ⟨q', m, z⟩ := ih p
      exact ⟨q', List.mem_cons_of_mem _ m, z⟩
theorem cls_wish {i : Nat} {n : Str} {hds : List ExceptHandler} {hs : List (Str × Bool × (List B → Option Out))} (h : ClsOk X W i n hds hs) {Dn : Ends} {F0 H0 F F' H' : Hp} {σ' : L2.St} {ρ' : List B} {ex : Exn} {cls : Value} {dd : Option Addr} (S' : RepS X.K X.mg F0 H0 F' H' σ' ρ') (e' : Ex F F')
    (er : ExR X.K X.mg F' H' ex cls dd) (p : PostS X.K X.mg W F0 H0 F (handleO i ex ρ' hs) Dn) (hk : ∀ q ∈ hs, q.1 = ex.cls ∨ True) : wAll X.K i W Dn (hs.map (clOf X.K X.mg W i)) cls dd σ' H' := by
  induction h with
  | nil => exact p.elim
  | @cons x b₀ suite np pos' hds hs h T hg hdb hh hp P r ih =>
    obtain ⟨C, gC, tC⟩ := T.own
    have e : (clOf X.K X.mg W i (x, true, h)).1 = .ref C := by simp only [clOf, gC]
    obtain ⟨C', ec, gC', _⟩ := id er
    simp only [handleO] at p
    split at p
    · rename_i hx
      rw [hx, gC] at gC'
      cases gC'
      subst ec
      refine ⟨true, by rw [e]; exact tC, fun _ a ha => ⟨ρ', ex, F0, H0, F', S'.setExn er, ?_⟩, fun z => nomatch z⟩
      rw [← hp ρ' ex a (.ref C) dd] at p
      have p1 := PostS.mono e' p
      show PostS X.K X.mg W F0 H0 F' (h (ρ'.set i (.exn a (.ref C) dd ex))) (endsU i Dn)
      revert p1
      cases h (ρ'.set i (.exn a (.ref C) dd ex)) with
      | none => exact fun z => z.elim
      | some o =>
        cases o with
        | nx ρ2 => exact fun p1 σ2 F2 H2 S2 e2 => p1 _ F2 H2 S2.unset e2
        | bk ρ2 => exact fun p1 σ2 F2 H2 S2 e2 => p1 _ F2 H2 S2.unset e2
        | ct ρ2 => exact fun p1 σ2 F2 H2 S2 e2 => p1 _ F2 H2 S2.unset e2
        | rt d => exact fun p1 v F2 H2 g r => p1 v F2 H2 g r
        | rs x2 ρ2 => exact fun p1 => p1.elim
    · rename_i hx
      -- the class is named further down
      have later := handle_later p
      obtain ⟨q, m, hq⟩ := later
      refine ⟨false, ?_, (fun z => by cases z), fun _ => ih p fun _ _ => .inr trivial⟩
      rw [e, ec]
      exact (P q m).ok C C' gC (by rw [hq]; exact gC')
  | @cons0 x b₀ suite np pos' hds hs h T hg hdb hh P r ih =>
    obtain ⟨C, gC, tC⟩ := T.own
    have e : (clOf X.K X.mg W i (x, false, h)).1 = .ref C := by simp only [clOf, gC]
    obtain ⟨C', ec, gC', _⟩ := id er
    simp only [handleO] at p
    split at p
    · rename_i hx
      rw [hx, gC] at gC'
      cases gC'
      subst ec
      refine ⟨true, by rw [e]; exact tC, fun _ a ha => ⟨ρ', ex, F0, H0, F', S', ?_⟩, fun z => nomatch z⟩
      have p1 := PostS.mono e' p
      show PostS X.K X.mg W F0 H0 F' (h ρ') Dn
      revert p1
      cases h ρ' with
      | none => exact fun z => z.elim
      | some o =>
        cases o with
        | nx ρ2 => exact fun p1 => p1
        | bk ρ2 => exact fun p1 => p1
        | ct ρ2 => exact fun p1 => p1
        | rt d => exact fun p1 => p1
        | rs x2 ρ2 => exact fun p1 => p1.elim
    · rename_i hx
      obtain ⟨q, m, hq⟩ := handle_later p
      refine ⟨false, ?_, (fun z => by cases z), fun _ => ih p fun _ _ => .inr trivial⟩
      rw [e, ec]
      exact (P q m).ok C C' gC (by rw [hq]; exact gC')
theorem cs_try_all (i : Nat) {n : Str} {body : List Stmt} {h₀ : ExceptHandler} {hds : List ExceptHandler} {o : Option Out} {hs : List (Str × Bool × (List B → Option Out))} (kx : Kx X W) (hst : X.stack = X.env :: X.outer) (hfr : X.env.frame = some X.env.locals) (hN : X.N.Nodup)
    (hb : ∀ (W : WX) (pn : List (Addr × Obj)) (xe : Value → Shared → Prop), Kx (X.tr pn xe) W → CSs (X.tr pn xe) W ρ body o) (hc : ClsOk X W i n (h₀ :: hds) hs) (hi : X.N[i]? = some n := by rfl) (hln : X.env.kindOf n = some .local := by rfl) :
    CS X W ρ (.Try body (h₀ :: hds) [] [] pos) (tryAllO i o hs) := by
  refine ⟨fun pins s σ H Dn I hyp => (ps_try_all (i := i) (Wout := W) (tb := fun W' => cS X.K X.mg W' ρ o) hst hfr hN hi hln kx.tk (fun W' pn xe tk hp => hb W' pn xe ⟨kx.calm, tk, hp⟩) (cls_as hc)).run pins s σ H Dn I ?_⟩
  obtain ⟨F0, H0, F, S, p⟩ := hyp
  refine ⟨F0, H0, F, S, ?_⟩
  cases o with
  | none => exact p
  | some o =>
    cases o with
    | nx ρ' => exact p
    | rt d => exact p
    | bk ρ' => exact p
    | ct ρ' => exact p
    | rs ex ρ' => exact fun σ' F' H' cls dd S' e' er => cls_wish hc S' e' er p fun _ _ => .inr trivial
end
theorem pt_nil {K : PySem.W.Frag} {mg : Str → Option Value} {x : Str} : ∀ p ∈ ([] : List (Str × Bool × (List B → Option Out))), Parts2 K mg x p.1 := fun _ m => by cases m
theorem pt_cons {K : PySem.W.Frag} {mg : Str → Option Value} {x y : Str} {k : Bool} {g : List B → Option Out} {hs : List (Str × Bool × (List B → Option Out))} (h : Parts2 K mg x y) (r : ∀ p ∈ hs, Parts2 K mg x p.1) : ∀ p ∈ (y, k, g) :: hs, Parts2 K mg x p.1 := fun p m => by
  cases m with
  | head => exact h
  | tail _ m => exact r p m
end RB


set_option Elab.async false
set_option linter.all false
set_option maxRecDepth 100000
set_option maxHeartbeats 2000000
namespace RB
open PySem L2 PySem.Spec PyProof.Rows
/-! ### what the text has, from the written part -/
section
variable {K : PySem.W.Frag} {h : Heap} {mg : Str → Option Value} {w : World} {x y c qual : Str} {st : Stmt} {ps : List Str} {f C D1 p : Addr} {oc : Value} {od an : Option Addr} {osl : Array (Option Value)} {kV doc pm cdv ct : Value}
abbrev LookFn (K : PySem.W.Frag) (x qual : Str) (st : Stmt) (f : Addr) (oc : Value) (od an : Option Addr) (osl : Array (Option Value)) (kV doc pm cdv ct : Value) : Prop :=
  K.lookup f = some ⟨oc, od, .func (PySem.W.fnOf x qual (defArgs st) (defBody st) (defScope st) .none kV doc pm an cdv ct), osl⟩
abbrev Bnd (x qual : Str) (st : Stmt) (ps : List Str) : Prop := ∀ (kV doc pm : Value) (an : Option Addr) (cdv ct : Value) (us : List Value), us.length = ps.length → bindArgs (PySem.W.fnOf x qual (defArgs st) (defBody st) (defScope st) .none kV doc pm an cdv ct) ⟨us, []⟩ = pure (ps.zip us)
theorem mk_def (X : K.In h) (G : h.Ns mainGlobals mg) (hb : Bnd x x st ps) (n : PySem.W.nsIn K mainGlobals x = some (some (.ref f)))
    (l : K.lookup f = some ⟨oc, od, .func (PySem.W.fnOf x x (defArgs st) (defBody st) (defScope st) .none kV doc pm an cdv ct), osl⟩) (cd : PySem.W.codeIn K cdv x = true) (k : PySem.W.keepIn K (.ref f) = true) :
    ∃ f fd, Fun K x x st f fd ∧ mg x = some (.ref f) ∧ Binds K fd ps [] := ⟨f, _, fun_mk l cd k, PySem.W.mg_of X G n, (fun_mk l cd k).binds hb⟩
theorem mk_cls (X : K.In h) (pg : PySem.W.plainGet K C Str.empty = true) (hd : PySem.W.hasDictIn K C = true) (po : PySem.W.plainOver K C = true) (sa : PySem.W.findIn K (.ref C) "__setattr__" = some (some (.builtin "object.__setattr__")))
    (n : PySem.W.nsIn K mainGlobals c = some (some (.ref C))) : ∀ C', PySem.W.nsIn K mainGlobals c = some (some (.ref C')) → Cls K C' := fun C' e => by
  rw [n] at e
  cases e
  exact ⟨pg, hd, po, sa⟩
theorem mk_meth (X : K.In h) (G : h.Ns mainGlobals mg) (hb : Bnd x qual st ps) (cl : ∀ C', PySem.W.nsIn K mainGlobals c = some (some (.ref C')) → Cls K C') (n : PySem.W.nsIn K mainGlobals c = some (some (.ref C))) (a : PySem.W.findIn K (.ref C) x = some (some (.ref f)))
    (l : K.lookup f = some ⟨oc, od, .func (PySem.W.fnOf x qual (defArgs st) (defBody st) (defScope st) .none kV doc pm an cdv ct), osl⟩) (cd : PySem.W.codeIn K cdv qual = true) (k : PySem.W.keepIn K (.ref f) = true) (i : PySem.W.isFn K (.ref f) = true) :
    ∃ C f fd, Fun K x qual st f fd ∧ mg c = some (.ref C) ∧ Cls K C ∧ Meth K C x f ∧ Binds K fd ps [] := ⟨C, f, _, fun_mk l cd k, PySem.W.mg_of X G n, cl C n, ⟨a, i, k⟩, (fun_mk l cd k).binds hb⟩
theorem mk_prop (X : K.In h) (G : h.Ns mainGlobals mg) (hb : Bnd x qual st ps) (cl : ∀ C', PySem.W.nsIn K mainGlobals c = some (some (.ref C')) → Cls K C') (n : PySem.W.nsIn K mainGlobals c = some (some (.ref C))) (a : PySem.W.findIn K (.ref C) x = some (some (.ref p)))
    {rest : List Value} (g : PySem.W.specialIn K (.ref p) "__get__" = some (some (.builtin "property.__get__"))) (tk : PySem.W.takesIn K (.ref p) = some true) (r : PySem.W.recIn K p "property" = some (.ref f :: rest))
    (l : K.lookup f = some ⟨oc, od, .func (PySem.W.fnOf x qual (defArgs st) (defBody st) (defScope st) .none kV doc pm an cdv ct), osl⟩) (cd : PySem.W.codeIn K cdv qual = true) (k : PySem.W.keepIn K (.ref f) = true) :
    ∃ C p f fd, Fun K x qual st f fd ∧ mg c = some (.ref C) ∧ Cls K C ∧ PropOf K C x p f ∧ Binds K fd ps [] := ⟨C, p, f, _, fun_mk l cd k, PySem.W.mg_of X G n, cl C n, ⟨a, g, tk, ⟨rest, r⟩⟩, (fun_mk l cd k).binds hb⟩
theorem mk_init (X : K.In h) (G : h.Ns mainGlobals mg) (hb : Bnd "__init__" qual st ps) (n : PySem.W.nsIn K mainGlobals c = some (some (.ref C))) (a : PySem.W.findIn K (.ref C) "__init__" = some (some (.ref f)))
    (l : K.lookup f = some ⟨oc, od, .func (PySem.W.fnOf "__init__" qual (defArgs st) (defBody st) (defScope st) .none kV doc pm an cdv ct), osl⟩) (cd : PySem.W.codeIn K cdv qual = true) (k : PySem.W.keepIn K (.ref f) = true) (i : PySem.W.isFn K (.ref f) = true)
    (m : PySem.W.makesIn K C = true) (kC : PySem.W.keepIn K (.ref C) = true) :
    ∃ C f fd, Fun K "__init__" qual st f fd ∧ mg c = some (.ref C) ∧ Mk K C f ∧ Binds K fd ps [] := ⟨C, f, _, fun_mk l cd k, PySem.W.mg_of X G n, ⟨m, a, i, kC⟩, (fun_mk l cd k).binds hb⟩
theorem mk_fld (X : K.In h) (G : h.Ns mainGlobals mg) (cl : ∀ C', PySem.W.nsIn K mainGlobals c = some (some (.ref C')) → Cls K C') (n : PySem.W.nsIn K mainGlobals c = some (some (.ref C))) (na : PySem.W.findIn K (.ref C) x = some none) : ClsF K mg c x :=
  ⟨fun C' e => by
    rw [PySem.W.mg_of X G n] at e
    cases e
    exact ⟨cl C n, na⟩⟩
theorem mk_none (X : K.In h) (G : h.Ns mainGlobals mg) (n : PySem.W.nsIn K mainGlobals x = some none) : mg x = none := PySem.W.mg_none_of X G n
theorem mk_gint (X : K.In h) (G : h.Ns mainGlobals mg) {i : Int} {b : Tok} (n : PySem.W.nsIn K mainGlobals x = some (some (.int i b))) : GlobC K mg x (.int i) := ⟨.int i, _, PySem.W.mg_of X G n, ⟨b, rfl⟩, fun F => rep_int.mpr rfl⟩
theorem mk_gstr (X : K.In h) (G : h.Ns mainGlobals mg) {i : Str} {b : Tok} (n : PySem.W.nsIn K mainGlobals x = some (some (.str i b))) : GlobC K mg x (.str i) := ⟨.str i, _, PySem.W.mg_of X G n, ⟨b, rfl⟩, fun F => rep_str.mpr rfl⟩
theorem mk_gtup (X : K.In h) (G : h.Ns mainGlobals mg) {ss : List Str} {od : Option Addr} {its : Array Value} {n : Nat} {sl : Array (Option Value)} (nx : PySem.W.nsIn K mainGlobals x = some (some (.ref p))) (l : K.lookup p = some ⟨.type "tuple", od, .seq its n, sl⟩) (hz : its.size ≤ sizeLine)
    (hv : Vals (ss.map V.str) its.toList) : GlobC K mg x (.tuple (ss.map .str)) := ⟨.ref p, _, PySem.W.mg_of X G nx, rfl, fun F => rep_tup.mpr ⟨p, _, rfl, .inr ⟨_, its, n, l, rfl, rfl, hz, hv⟩, by
  clear hv l
  induction ss with
  | nil => simp [RepAll]
  | cons a ss ih => exact ⟨_, _, rfl, rep_str.mpr rfl, ih⟩⟩⟩
def AllKV (K : PySem.W.Frag) (p : Addr) : List (Str × Str) → Prop
  | [] => True
  | (k, v) :: r => (∃ t, PySem.W.nsIn K p k = some (some (.str v t))) ∧ AllKV K p r
theorem AllKV.get : ∀ {ps : List (Str × Str)} {k v : Str}, AllKV K p ps → ps.lookup k = some v → ∃ t, PySem.W.nsIn K p k = some (some (.str v t))
  | [], _, _, _, h => by cases h
  | (k', v') :: r, k, v, ⟨⟨t, h1⟩, h2⟩, h => by
    rw [List.lookup_cons] at h
    by_cases z : k = k'
    · subst z
      rw [beq_self_eq_true] at h
      cases h
      exact ⟨t, h1⟩
    · rw [(beq_eq_false_iff_ne).mpr z] at h
      exact h2.get h
theorem AllKV.cons {k v : Str} {r : List (Str × Str)} {t : Tok} (h : PySem.W.nsIn K p k = some (some (.str v t))) (r' : AllKV K p r) : AllKV K p ((k, v) :: r) := ⟨⟨t, h⟩, r'⟩
theorem mk_kdict (X : K.In h) (G : h.Ns mainGlobals mg) {qs : List (Str × Str)} {es : Array DictEntry} {n : Nat} (nx : PySem.W.nsIn K mainGlobals x = some (some (.ref p))) (l : K.lookup p = some ⟨.type "dict", none, .dict es n, #[]⟩) (hk : PySem.W.KeysLit w.params es.toList) (hv : AllKV K p qs) : KdictC K w mg x qs :=
  ⟨⟨p, PySem.W.mg_of X G nx, fun k v e => by
    obtain ⟨t, ht⟩ := hv.get e
    exact ⟨es, n, _, l, hk, ht, ⟨t, rfl⟩⟩⟩⟩
/-- an own exception that a clause names -/
theorem mk_exm (h1 : PySem.W.subIn K (.ref C) (.type "BaseException") = some true) (h2 : PySem.W.isClsIn K C = true) (h3 : PySem.W.typeIn K (.ref C) = some (.type "type")) {b : Bool} (h4 : PySem.W.subIn K (.ref D1) (.ref C) = some b) :
    PySem.W.exmOne K (.ref D1) (.ref C) = some b := by
  have e1 : (PySem.W.subIn K (.ref C) (.type "BaseException") == some true) = true := by rw [h1] <;> rfl
  have e2 : ((PySem.W.clsIn K C).isSome && PySem.W.typeIn K (.ref C) == some (.type "type")) = true := by
    rw [show (PySem.W.clsIn K C).isSome = true from h2, h3] <;> rfl
  show (if (PySem.W.subIn K (.ref C) (.type "BaseException") == some true) = true then (if ((PySem.W.clsIn K C).isSome && PySem.W.typeIn K (.ref C) == some (.type "type")) = true then PySem.W.subIn K (.ref D1) (.ref C) else none) else none) = some b
  rw [if_pos e1, if_pos e2, h4]
theorem mk_takes (X : K.In h) (G : h.Ns mainGlobals mg) (n : PySem.W.nsIn K mainGlobals x = some (some (.ref C))) (h1 : PySem.W.subIn K (.ref C) (.type "BaseException") = some true) (h2 : PySem.W.isClsIn K C = true) (h3 : PySem.W.typeIn K (.ref C) = some (.type "type"))
    (h4 : PySem.W.subIn K (.ref C) (.ref C) = some true) : Takes1 K mg x := ⟨⟨C, PySem.W.mg_of X G n, mk_exm h1 h2 h3 h4⟩⟩
theorem mk_parts (X : K.In h) (G : h.Ns mainGlobals mg) (n : PySem.W.nsIn K mainGlobals x = some (some (.ref C))) (n' : PySem.W.nsIn K mainGlobals y = some (some (.ref D1))) (h1 : PySem.W.subIn K (.ref C) (.type "BaseException") = some true) (h2 : PySem.W.isClsIn K C = true)
    (h3 : PySem.W.typeIn K (.ref C) = some (.type "type")) (h4 : PySem.W.subIn K (.ref D1) (.ref C) = some false) : Parts2 K mg x y := ⟨fun A B e e' => by
  rw [PySem.W.mg_of X G n] at e
  rw [PySem.W.mg_of X G n'] at e'
  cases e
  cases e'
  exact mk_exm h1 h2 h3 h4⟩
theorem mk_exct (X : K.In h) (G : h.Ns mainGlobals mg) (n : PySem.W.nsIn K mainGlobals x = some (some (.ref C))) (e : PySem.W.excIn K C [.type "ValueError", .type "Exception", .type "BaseException", .type "object"] "ValueError.__new__" = true) (k : PySem.W.keepIn K (.ref C) = true)
    (h1 : PySem.W.subIn K (.ref C) (.type "BaseException") = some true) (h3 : PySem.W.typeIn K (.ref C) = some (.type "type")) : ExcT K mg x := ⟨⟨C, PySem.W.mg_of X G n, e, k, h1, h3⟩⟩
theorem mk_excf (X : K.In h) (G : h.Ns mainGlobals mg) (n : PySem.W.nsIn K mainGlobals x = some (some (.ref C))) (ga : PySem.W.findIn K (.ref C) "__getattribute__" = some (some (.builtin "BaseException.__getattribute__"))) (gg : PySem.W.findIn K (.ref C) "__getattr__" = some none)
    (h1 : PySem.W.subIn K (.ref C) (.type "BaseException") = some true) (hd : PySem.W.hasDictIn K C = true) (nf : PySem.W.findIn K (.ref C) y = some none) : ExcF K mg x y := ⟨fun C' e => by
  rw [PySem.W.mg_of X G n] at e
  cases e
  exact ⟨⟨ga, gg, h1, hd⟩, nf⟩⟩
theorem mk_oexc {nm q : Str} {N : Addr} {bs bm : List Value} {sn : List Str} {sub : List Value} {ab : Bool} {col : Option Bool} {dd : Option Addr} {k0 k1 k2 k3 k5 : Option Value} (hr : PySem.HandSPX.refsVE bm = true) (X : K.In h) (G : h.Ns mainGlobals mg) (hb : Bnd "__init__" qual st ps) (n : PySem.W.nsIn K mainGlobals x = some (some (.ref C)))
    (xL : K.lookup C = some (excClassObj nm q C N bs bm true sn sub ab col dd k0 k1 k2 k3 k5 "ValueError.__new__")) (sa : PySem.W.findIn K (.ref C) "__setattr__" = some (some (.builtin "object.__setattr__"))) (h1 : PySem.W.subIn K (.ref C) (.type "BaseException") = some true)
    (h3 : PySem.W.typeIn K (.ref C) = some (.type "type")) (kC : PySem.W.keepIn K (.ref C) = true) (a : PySem.W.findIn K (.ref C) "__init__" = some (some (.ref f))) (t : PySem.W.typeIn K (.ref f) = some (.type "function")) (nf : PySem.W.findIn K (.ref C) y = some none)
    (l : K.lookup f = some ⟨oc, od, .func (PySem.W.fnOf "__init__" qual (defArgs st) (defBody st) (defScope st) .none kV doc pm an cdv ct), osl⟩) (cd : PySem.W.codeIn K cdv qual = true) (k : PySem.W.keepIn K (.ref f) = true) :
    ∃ C f fd, Fun K "__init__" qual st f fd ∧ mg x = some (.ref C) ∧ OexC K C ∧ PySem.W.findIn K (.ref C) "__init__" = some (some (.ref f)) ∧ PySem.W.typeIn K (.ref f) = some (.type "function") ∧ PySem.W.findIn K (.ref C) y = some none ∧ Binds K fd ps [] :=
  ⟨C, f, _, fun_mk l cd k, PySem.W.mg_of X G n, ⟨⟨nm, q, N, bs, bm, sn, sub, ab, col, dd, k0, k1, k2, k3, k5, xL, hr⟩, sa, h1, h3, kC⟩, a, t, nf, (fun_mk l cd k).binds hb⟩
end
/-! ### the end of a law -/
def spLaw (n : Nat) (K : PySem.W.Frag) : Sp := fun vs H Q E => ∃ (a : Addr) (ns : List Int), vs = [.ref a] ∧ SqL K H a (ns.map V.int) ∧ ns.length ≤ n ∧ ∀ H', Q (.bl true) H'
theorem rep_ints {K : PySem.W.Frag} {mg : Str → Option Value} {F : Hp} : ∀ ns : List Int, RepAll K mg F (ns.map .int) (ns.map V.int)
  | [] => by simp [RepAll]
  | n :: ns => by
    simp only [List.map_cons, RepAll]
    exact ⟨_, _, rfl, rep_int.mpr rfl, rep_ints ns⟩
theorem law_end {P : Program} {w : World} {K : PySem.W.Frag} {mg : Str → Option Value} {base : Heap} {k n : Nat} {f : Addr} {fd : FuncData} {m : List D → R D} (F : FnOk P w K mg base (L2.CX P w) k f fd ["script"] (spM K mg [true] m))
    (hm : ∀ ns : List Int, ns.length ≤ n → m [.list (ns.map .int)] = .ok (.bool true)) : FnOk P w K mg base (L2.CX P w) k f fd ["script"] (spLaw n K) :=
  F.imp fun vs H Q E ⟨a, ns, e, hS, hl, q⟩ => by
    subst e
    refine ⟨fun _ => none, [.list (ns.map .int)], (fun b o z => by cases z), ⟨rfl, ⟨.ref a, [], rfl, ?_, rfl⟩⟩, ?_⟩
    · show (if true = true then _ else _)
      rw [if_pos rfl]
      exact .inr ⟨_, a, _, rfl, rfl, hS, rep_ints ns⟩
    · rw [hm ns hl]
      intro v F' H' _ r
      rw [rep_bl.mp r]
      exact q H'
theorem walk {l : PySem.W.OpenLaw} {q : Program} {loose : List Str} {XP : (Str → Option Value) → Heap → Prop} {YP : World → Heap → Prop} {d : DefRec} {K : Params → PySem.W.Frag} {k : Nat} (hn : l.most = some 63) (hdf : d.params.defaults = []) (hr : Room k callerA)
    (hY : ∀ (w : World) (h : Heap), YP w h → (K w.params).In h)
    (F : ∀ (w : World) (mg : Str → Option Value) (fa : Addr) (h : Heap), (K w.params).In h → h.Ns mainGlobals mg → mg d.name = some (.ref fa) →
      ∃ fd : FuncData, (∀ (s : Shared) (u : Value), BindsTo s fd ⟨[u], []⟩ [("script", u)]) ∧ ∀ base : Heap, (K w.params).In base → base.Ns mainGlobals mg → FnOk l.prog w (K w.params) mg base (L2.CX l.prog w) k fa fd ["script"] (spLaw 63 (K w.params))) :
    PySem.W.WalkO q loose XP YP l.row.toRowW d [] (fun f vs => PySem.call f vs) :=
  L2.walk_of (n := 63) (k := k) (x := "script") (CX := fun w => L2.CX l.prog w) (sp := fun w => spLaw 63 (K w.params)) hn (by decide) hdf hr hY F (fun _ _ a ns hl _ hS => ⟨a, ns, rfl, hS, hl, fun _ => rfl⟩) fun _ _ _ _ _ ⟨_, _, _, _, _, _, _, _, _, _, _, _, z⟩ => z
/-- the law's own def -/
theorem law_fa {K : PySem.W.Frag} {mg : Str → Option Value} {fa : Addr} {st : Stmt} (hmg : mg "law" = some (.ref fa)) (D : ∃ f fd, Fun K "law" "law" st f fd ∧ mg "law" = some (.ref f) ∧ Binds K fd ["script"] []) (hb : Bnd "law" "law" st ["script"]) :
    ∃ fd, Fun K "law" "law" st fa fd ∧ ∀ (s : Shared) (u : Value), BindsTo s fd ⟨[u], []⟩ [("script", u)] := by
  obtain ⟨f, fd, F, hm, _⟩ := D
  have e := hmg.symm.trans hm
  cases e
  obtain ⟨oc, od, kV, doc, pm, an, cdv, ct, osl, e1, e2, e3⟩ := id F.ex
  refine ⟨fd, F, fun s u => ?_⟩
  rw [e1]
  exact .of_eq (hb _ _ _ _ _ _ [u] rfl)
end RB


set_option Elab.async false
set_option linter.all false
set_option maxRecDepth 100000
set_option maxHeartbeats 2000000
namespace RB
open PySem L2 PySem.Spec PyProof.Rows
/-! ### x is None -/
def isNone : D → Bool
  | .none => true
  | _ => false
def isD (neg : Bool) : D → D → R D
  | d, .none => .ok (.bool (if neg = true then !isNone d else isNone d))
  | _, _ => .bad
theorem rep_isNone {K : PySem.W.Frag} {mg : Str → Option Value} {F H : Hp} {d : D} {v : V} (r : RepW K mg F H d v) : decide (v = .non) = isNone d := by
  rcases r with r | ⟨ds, p, vs, rfl, rfl, _⟩
  · cases d with
    | none => rw [rep_non.mp r]; rfl
    | bool b => rw [rep_bl.mp r]; rfl
    | int i => rw [rep_int.mp r]; rfl
    | str x => rw [rep_str.mp r]; rfl
    | list ds => obtain ⟨a, vs, rfl, _⟩ := rep_lst.mp r; rfl
    | tuple ds => obtain ⟨a, vs, rfl, _⟩ := rep_tup.mp r; rfl
    | dict kvs => obtain ⟨a, vs, rfl, _⟩ := rep_dict.mp r; rfl
  · rfl
section
variable {X : Cx}
theorem ok_isD : OpOk X (fun x y H Q => y = .non ∧ Q (.bl (decide (x = .non))) H) (isD false) := fun F H W σ d e x y Q E r1 r2 p => by
  cases e with
  | none =>
    refine ⟨rep_non.mp (repW_flat (fun _ z => nomatch z) r2), ?_⟩
    rw [rep_isNone r1]
    exact post_now E p (by simp only [Rep]; rfl)
  | _ => exact p.elim
theorem ok_isnotD : OpOk X (fun x y H Q => y = .non ∧ Q (.bl (!decide (x = .non))) H) (isD true) := fun F H W σ d e x y Q E r1 r2 p => by
  cases e with
  | none =>
    refine ⟨rep_non.mp (repW_flat (fun _ z => nomatch z) r2), ?_⟩
    rw [rep_isNone r1]
    exact post_now E p (by simp only [Rep]; rfl)
  | _ => exact p.elim
end
end RB


set_option Elab.async false
set_option linter.all false
set_option maxRecDepth 100000
set_option maxHeartbeats 4000000
namespace K03
open PySem L2 PySem.Spec PyProof.Rows RB
abbrev topS (i : Nat) : Stmt := PySem.Challenge.pw_risingbars_k03_orders_of_answers.main.body.getD i (.Pass ⟨0, 0, 0, 0⟩)
def g_DRIFTS : D := .tuple [(PyData.str "rises"), (PyData.str "falls"), (PyData.str "stays")]
def g_LONGEST_NAME : D := (PyData.int 12)
def g_MOST_EVENTS : D := (PyData.int 120)
def g_MOST_GRADES : D := (PyData.int 9)
def g_MOST_ITEMS : D := (PyData.int 20)
def g_MOST_JUDGES : D := (PyData.int 8)
def g_NAME_SIGNS : D := (PyData.str "abcdefghijklmnopqrstuvwxyz0123456789")
/-! _law_row -/
abbrev s__law_row : Stmt := topS 27
def N__law_row : List Str := ["cell", "many", "row", "rest", "state", "k"]
theorem sc__law_row : FnScope N__law_row ["cell", "many"] (defScope s__law_row) := ⟨rfl, rfl, rfl, by decide +kernel, rfl, by decide +kernel, by decide +kernel⟩
def b1__law_row (ρ : List B) : Option Out := (seqO (onE (b2 modD (bcall intF (consF (b2 addD (b2 mulD (b2 addD (getW ρ 4) (R.ok (PyData.int 1))) (R.ok (PyData.int 48271))) (b2 mulD (R.ok (PyData.int 69621)) (getW ρ 5))) (R.ok []))) (R.ok (PyData.int 2147483647))) ρ fun d => some (.nx (ρ.set 4 (.dat d)))) fun ρ => (ifO ((b2 gtD (getW ρ 3) (R.ok (PyData.int 0))).bind asB) ρ (seqO (appE ρ 2 (b2 modD (bcall intF (consF (getB ρ 3) (R.ok []))) (R.ok (PyData.int 1009)))) fun ρ => (onE (b2 fdivD (getW ρ 3) (R.ok (PyData.int 1009))) ρ fun d => some (.nx (ρ.set 3 (.dat d))))) (appE ρ 2 (b2 modD (bcall intF (consF (b2 fdivD (getW ρ 4) (R.ok (PyData.int 2048))) (R.ok []))) (R.ok (PyData.int 1009))))))
def m_law_row_b (ρ : List B) : Option Out := (seqO (onE (lstM (R.ok [])) ρ fun ds => some (.nx (ρ.set 2 (.own ds)))) fun ρ => (seqO (onE (R.ok (PyData.int 0)) ρ fun d => some (.nx (ρ.set 3 (.dat d)))) fun ρ => (seqO (ifO ((b2 geD (bcall absD (consF (getB ρ 0) (R.ok []))) (b2 powD (R.ok (PyData.int 10)) (R.ok (PyData.int 18)))).bind asB) ρ (onE (bcall absD (consF (getB ρ 0) (R.ok []))) ρ fun d => some (.nx (ρ.set 3 (.dat d)))) (some (.nx ρ))) fun ρ => (seqO (onE (b2 modD (bcall intF (consF (bcall absD (consF (getB ρ 0) (R.ok []))) (R.ok []))) (R.ok (PyData.int 2147483647))) ρ fun d => some (.nx (ρ.set 4 (.dat d)))) fun ρ => (seqO (onE (((getB ρ 1)).bind rng1) ρ fun ds => forO (.one 5) b1__law_row ds ρ) fun ρ => (letρ (frz 2 ρ) fun ρ => (onE (getB ρ 2) ρ fun d => some (.rt d))))))))
abbrev fl__law_row : List Bool := [false, false]
def m_law_row (ds : List D) : R D := runO (m_law_row_b (start0 6 fl__law_row ds))
theorem r__law_row (a0 : D) (a1 : D) : m_law_row [a0, a1] = runO (m_law_row_b [.dat a0, .dat a1, .un, .un, .un, .un]) := Eq.trans rfl rfl
theorem c__law_row (a0 : D) (a1 : D) : callM (fl__law_row) m_law_row [(false, a0), (false, a1)] = m_law_row [a0, a1] := Eq.trans rfl rfl
/-! _law_numbers -/
abbrev s__law_numbers : Stmt := topS 28
def N__law_numbers : List Str := ["script", "many", "cells", "each", "numbers", "cell", "number"]
theorem sc__law_numbers : FnScope N__law_numbers ["script", "many"] (defScope s__law_numbers) := ⟨rfl, rfl, rfl, by decide +kernel, rfl, by decide +kernel, by decide +kernel⟩
def b1__law_numbers (ρ : List B) : Option Out := (appE ρ 4 (getB ρ 6))
def b2__law_numbers (ρ : List B) : Option Out := (onE ((((consF (getB ρ 5) (consF (getB ρ 3) (R.ok []))).bind (callM fl__law_row m_law_row))).bind lstOf) ρ fun ds => forO (.one 6) b1__law_numbers ds ρ)
def b3__law_numbers (ρ : List B) : Option Out := (appE ρ 4 (R.ok (PyData.int 0)))
def m_law_numbers_b (ρ : List B) : Option Out := (seqO (onE (R.map (sliceM (getW ρ 0) (R.ok none) (((R.ok (PyData.int 63))).bind asI)) PyData.list) ρ fun d => some (.nx (ρ.set 2 (.dat d)))) fun ρ => (seqO (onE (b2 addD (R.ok (PyData.int 1)) (b2 fdivD (getW ρ 1) (bcall maxD (consF (R.ok (PyData.int 1)) (consF (bcall lenD (consT (getW ρ 2) (R.ok []))) (R.ok [])))))) ρ fun d => some (.nx (ρ.set 3 (.dat d)))) fun ρ => (seqO (onE (lstM (R.ok [])) ρ fun ds => some (.nx (ρ.set 4 (.own ds)))) fun ρ => (seqO (onE (getK ρ 2) ρ fun ds => forO (.one 5) b2__law_numbers ds ρ) fun ρ => (seqO (whileO (fun ρ => ((b2 ltD (bcall lenD (consT (getW ρ 4) (R.ok []))) (getW ρ 1)).bind asB)) b3__law_numbers 100000 ρ) fun ρ => (onE (R.map (sliceM (getW ρ 4) (R.ok none) (((getB ρ 1)).bind asI)) PyData.list) ρ fun d => some (.rt d)))))))
abbrev fl__law_numbers : List Bool := [true, false]
def m_law_numbers (ds : List D) : R D := runO (m_law_numbers_b (start0 7 fl__law_numbers ds))
theorem r__law_numbers (a0 : List D) (a1 : D) : m_law_numbers [.list a0, a1] = runO (m_law_numbers_b [.wk a0, .dat a1, .un, .un, .un, .un, .un]) := Eq.trans rfl rfl
theorem c__law_numbers (a0 : D) (a1 : D) : callM (fl__law_numbers) m_law_numbers [(true, a0), (false, a1)] = m_law_numbers [a0, a1] := Eq.trans rfl rfl
/-! _law_parts -/
abbrev s__law_parts : Stmt := topS 29
def N__law_parts : List Str := ["numbers", "at", "many", "more", "things", "grades", "judges", "k", "events", "place", "judge"]
theorem sc__law_parts : FnScope N__law_parts ["numbers", "at", "many", "more"] (defScope s__law_parts) := ⟨rfl, rfl, rfl, by decide +kernel, rfl, by decide +kernel, by decide +kernel⟩
def b1__law_parts (ρ : List B) : Option Out := (appE ρ 6 (tupM (consF (b2 ixD (R.map (lstM (consF (R.ok (PyData.str "ann")) (consF (R.ok (PyData.str "a")) (consF (R.ok (PyData.str "j2")) (R.ok []))))) PyData.list) (getB ρ 7)) (consF (b2 ixD (R.map (lstM (consF (R.ok (PyData.str "rises")) (consF (R.ok (PyData.str "falls")) (consF (R.ok (PyData.str "stays")) (R.ok []))))) PyData.list) (b2 modD (bcall intF (consF (b2 ixD (getW ρ 0) (b2 addD (b2 addD (getW ρ 1) (R.ok (PyData.int 3))) (getW ρ 7))) (R.ok []))) (R.ok (PyData.int 3)))) (R.ok [])))))
def b2__law_parts (ρ : List B) : Option Out := (seqO (onE (b2 addD (b2 addD (getW ρ 1) (R.ok (PyData.int 7))) (b2 mulD (R.ok (PyData.int 3)) (getW ρ 7))) ρ fun d => some (.nx (ρ.set 9 (.dat d)))) fun ρ => (seqO (onE (b2 ixD (b2 ixD (getW ρ 6) (b2 modD (bcall intF (consF (b2 ixD (getW ρ 0) (getB ρ 9)) (R.ok []))) (bcall lenD (consT (getW ρ 6) (R.ok []))))) (R.ok (PyData.int 0))) ρ fun d => some (.nx (ρ.set 10 (.dat d)))) fun ρ => (ifO ((b2 eqD (b2 modD (b2 fdivD (bcall intF (consF (b2 ixD (getW ρ 0) (getB ρ 9)) (R.ok []))) (R.ok (PyData.int 8))) (R.ok (PyData.int 6))) (R.ok (PyData.int 5))).bind asB) ρ (appE ρ 8 (tupM (consF (R.ok (PyData.str "reset")) (consF (getB ρ 10) (R.ok []))))) (appE ρ 8 (tupM (consF (R.ok (PyData.str "answer")) (consF (getB ρ 10) (consF (b2 ixD (getW ρ 4) (b2 modD (bcall intF (consF (b2 ixD (getW ρ 0) (b2 addD (getW ρ 9) (R.ok (PyData.int 1)))) (R.ok []))) (bcall lenD (consT (getW ρ 4) (R.ok []))))) (consF (b2 modD (bcall intF (consF (b2 ixD (getW ρ 0) (b2 addD (getW ρ 9) (R.ok (PyData.int 2)))) (R.ok []))) (b2 addD (getW ρ 5) (R.ok (PyData.int 1)))) (R.ok []))))))))))
def m_law_parts_b (ρ : List B) : Option Out := (seqO (onE (R.map (sliceM (R.map (lstM (consF (R.ok (PyData.str "pear")) (consF (R.ok (PyData.str "a")) (consF (R.ok (PyData.str "x9")) (consF (R.ok (PyData.str "b")) (consF (R.ok (PyData.str "fig")) (consF (R.ok (PyData.str "q0")) (consF (R.ok (PyData.str "zz")) (consF (R.ok (PyData.str "c")) (R.ok [])))))))))) PyData.list) (R.ok none) (((b2 addD (R.ok (PyData.int 1)) (b2 modD (bcall intF (consF (b2 ixD (getW ρ 0) (getB ρ 1)) (R.ok []))) (getW ρ 2)))).bind asI)) PyData.list) ρ fun d => some (.nx (ρ.set 4 (.dat d)))) fun ρ => (seqO (onE (b2 ixD (R.map (lstM (consF (R.ok (PyData.int 1)) (consF (R.ok (PyData.int 1)) (consF (R.ok (PyData.int 2)) (consF (R.ok (PyData.int 3)) (consF (R.ok (PyData.int 9)) (R.ok []))))))) PyData.list) (b2 modD (bcall intF (consF (b2 ixD (getW ρ 0) (b2 addD (getW ρ 1) (R.ok (PyData.int 1)))) (R.ok []))) (R.ok (PyData.int 5)))) ρ fun d => some (.nx (ρ.set 5 (.dat d)))) fun ρ => (seqO (onE (lstM (R.ok [])) ρ fun ds => some (.nx (ρ.set 6 (.own ds)))) fun ρ => (seqO (onE (((b2 addD (R.ok (PyData.int 1)) (b2 modD (bcall intF (consF (b2 ixD (getW ρ 0) (b2 addD (getW ρ 1) (R.ok (PyData.int 2)))) (R.ok []))) (R.ok (PyData.int 3))))).bind rng1) ρ fun ds => forO (.one 7) b1__law_parts ds ρ) fun ρ => (seqO (onE (lstM (R.ok [])) ρ fun ds => some (.nx (ρ.set 8 (.own ds)))) fun ρ => (seqO (onE (((b2 modD (bcall intF (consF (b2 ixD (getW ρ 0) (b2 addD (getW ρ 1) (R.ok (PyData.int 6)))) (R.ok []))) (b2 addD (getW ρ 3) (R.ok (PyData.int 1))))).bind rng1) ρ fun ds => forO (.one 7) b2__law_parts ds ρ) fun ρ => (letρ (frz 8 ρ) fun ρ => (letρ (frz 6 ρ) fun ρ => (onE (tupM (consF (getB ρ 4) (consF (getB ρ 5) (consF (getB ρ 6) (consF (getB ρ 8) (R.ok [])))))) ρ fun d => some (.rt d))))))))))
abbrev fl__law_parts : List Bool := [false, false, false, false]
def m_law_parts (ds : List D) : R D := runO (m_law_parts_b (start0 11 fl__law_parts ds))
theorem r__law_parts (a0 : D) (a1 : D) (a2 : D) (a3 : D) : m_law_parts [a0, a1, a2, a3] = runO (m_law_parts_b [.dat a0, .dat a1, .dat a2, .dat a3, .un, .un, .un, .un, .un, .un, .un]) := Eq.trans rfl rfl
theorem c__law_parts (a0 : D) (a1 : D) (a2 : D) (a3 : D) : callM (fl__law_parts) m_law_parts [(false, a0), (false, a1), (false, a2), (false, a3)] = m_law_parts [a0, a1, a2, a3] := Eq.trans rfl rfl
/-! is_name -/
abbrev s_is_name : Stmt := topS 15
def N_is_name : List Str := ["text", "sign"]
theorem sc_is_name : FnScope N_is_name ["text"] (defScope s_is_name) := ⟨rfl, rfl, rfl, by decide +kernel, rfl, by decide +kernel, by decide +kernel⟩
def m_is_name_b (ρ : List B) : Option Out := (onE (bothB (chainD leD leD (R.ok (PyData.int 1)) (bcall lenD (consT (getW ρ 0) (R.ok []))) (R.ok g_LONGEST_NAME)) (bcall allD (consT (R.map (((((getB ρ 0)).bind signsOf)).bind fun ds => lcM (.one 1) [1] (fun ρ => (R.ok true)) (fun ρ => (b2 (inS false) (getW ρ 1) (R.ok g_NAME_SIGNS))) ρ ds) PyData.list) (R.ok [])))) ρ fun d => some (.rt d))
abbrev fl_is_name : List Bool := [false]
def m_is_name (ds : List D) : R D := runO (m_is_name_b (start0 2 fl_is_name ds))
theorem r_is_name (a0 : D) : m_is_name [a0] = runO (m_is_name_b [.dat a0, .un]) := Eq.trans rfl rfl
theorem c_is_name (a0 : D) : callM (fl_is_name) m_is_name [(false, a0)] = m_is_name [a0] := Eq.trans rfl rfl
/-! is_drift -/
abbrev s_is_drift : Stmt := topS 16
def N_is_drift : List Str := ["word"]
theorem sc_is_drift : FnScope N_is_drift ["word"] (defScope s_is_drift) := ⟨rfl, rfl, rfl, by decide +kernel, rfl, by decide +kernel, by decide +kernel⟩
def m_is_drift_b (ρ : List B) : Option Out := (onE (b2 (inT false) (getW ρ 0) (R.ok g_DRIFTS)) ρ fun d => some (.rt d))
abbrev fl_is_drift : List Bool := [false]
def m_is_drift (ds : List D) : R D := runO (m_is_drift_b (start0 1 fl_is_drift ds))
theorem r_is_drift (a0 : D) : m_is_drift [a0] = runO (m_is_drift_b [.dat a0]) := Eq.trans rfl rfl
theorem c_is_drift (a0 : D) : callM (fl_is_drift) m_is_drift [(false, a0)] = m_is_drift [a0] := Eq.trans rfl rfl
/-! is_highest_grade -/
abbrev s_is_highest_grade : Stmt := topS 17
def N_is_highest_grade : List Str := ["grade"]
theorem sc_is_highest_grade : FnScope N_is_highest_grade ["grade"] (defScope s_is_highest_grade) := ⟨rfl, rfl, rfl, by decide +kernel, rfl, by decide +kernel, by decide +kernel⟩
def m_is_highest_grade_b (ρ : List B) : Option Out := (onE (chainD leD leD (R.ok (PyData.int 1)) (getW ρ 0) (R.ok g_MOST_GRADES)) ρ fun d => some (.rt d))
abbrev fl_is_highest_grade : List Bool := [false]
def m_is_highest_grade (ds : List D) : R D := runO (m_is_highest_grade_b (start0 1 fl_is_highest_grade ds))
theorem r_is_highest_grade (a0 : D) : m_is_highest_grade [a0] = runO (m_is_highest_grade_b [.dat a0]) := Eq.trans rfl rfl
theorem c_is_highest_grade (a0 : D) : callM (fl_is_highest_grade) m_is_highest_grade [(false, a0)] = m_is_highest_grade [a0] := Eq.trans rfl rfl
/-! may_follow -/
abbrev s_may_follow : Stmt := topS 18
def N_may_follow : List Str := ["name", "names", "most"]
theorem sc_may_follow : FnScope N_may_follow ["name", "names", "most"] (defScope s_may_follow) := ⟨rfl, rfl, rfl, by decide +kernel, rfl, by decide +kernel, by decide +kernel⟩
def m_may_follow_b (ρ : List B) : Option Out := (onE (bothB (b2 ltD (bcall lenD (consT (getW ρ 1) (R.ok []))) (getW ρ 2)) (bothB ((consF (getB ρ 0) (R.ok [])).bind (callM fl_is_name m_is_name)) (b2 (inD true) (getW ρ 0) (getW ρ 1)))) ρ fun d => some (.rt d))
abbrev fl_may_follow : List Bool := [false, false, false]
def m_may_follow (ds : List D) : R D := runO (m_may_follow_b (start0 3 fl_may_follow ds))
theorem r_may_follow (a0 : D) (a1 : D) (a2 : D) : m_may_follow [a0, a1, a2] = runO (m_may_follow_b [.dat a0, .dat a1, .dat a2]) := Eq.trans rfl rfl
theorem c_may_follow (a0 : D) (a1 : D) (a2 : D) : callM (fl_may_follow) m_may_follow [(false, a0), (false, a1), (false, a2)] = m_may_follow [a0, a1, a2] := Eq.trans rfl rfl
/-! is_event -/
abbrev s_is_event : Stmt := topS 19
def N_is_event : List Str := ["event", "items", "grades", "judge_names"]
theorem sc_is_event : FnScope N_is_event ["event", "items", "grades", "judge_names"] (defScope s_is_event) := ⟨rfl, rfl, rfl, by decide +kernel, rfl, by decide +kernel, by decide +kernel⟩
def m_is_event_b (ρ : List B) : Option Out := (seqO (ifO (bothT ((b2 eqD (bcall lenD (consT (getW ρ 0) (R.ok []))) (R.ok (PyData.int 2))).bind asB) ((b2 eqD (b2 ixD (getW ρ 0) (R.ok (PyData.int 0))) (R.ok (PyData.str "reset"))).bind asB)) ρ (onE (b2 (inD false) (b2 ixD (getW ρ 0) (R.ok (PyData.int 1))) (getW ρ 3)) ρ fun d => some (.rt d)) (some (.nx ρ))) fun ρ => (seqO (ifO (bothT ((b2 eqD (bcall lenD (consT (getW ρ 0) (R.ok []))) (R.ok (PyData.int 4))).bind asB) ((b2 eqD (b2 ixD (getW ρ 0) (R.ok (PyData.int 0))) (R.ok (PyData.str "answer"))).bind asB)) ρ (onE (bothB (b2 (inD false) (b2 ixD (getW ρ 0) (R.ok (PyData.int 1))) (getW ρ 3)) (bothB (b2 (inD false) (b2 ixD (getW ρ 0) (R.ok (PyData.int 2))) (getW ρ 1)) (chainD leD leD (R.ok (PyData.int 0)) (b2 ixD (getW ρ 0) (R.ok (PyData.int 3))) (getW ρ 2)))) ρ fun d => some (.rt d)) (some (.nx ρ))) fun ρ => (onE (R.ok (PyData.bool false)) ρ fun d => some (.rt d))))
abbrev fl_is_event : List Bool := [false, true, false, false]
def m_is_event (ds : List D) : R D := runO (m_is_event_b (start0 4 fl_is_event ds))
theorem r_is_event (a0 : D) (a1 : List D) (a2 : D) (a3 : D) : m_is_event [a0, .list a1, a2, a3] = runO (m_is_event_b [.dat a0, .wk a1, .dat a2, .dat a3]) := Eq.trans rfl rfl
theorem c_is_event (a0 : D) (a1 : D) (a2 : D) (a3 : D) : callM (fl_is_event) m_is_event [(false, a0), (true, a1), (false, a2), (false, a3)] = m_is_event [a0, a1, a2, a3] := Eq.trans rfl rfl
/-! _check_names -/
abbrev s__check_names : Stmt := topS 21
def N__check_names : List Str := ["names", "most", "what", "at", "name"]
theorem sc__check_names : FnScope N__check_names ["names", "most", "what"] (defScope s__check_names) := ⟨rfl, rfl, rfl, by decide +kernel, rfl, by decide +kernel, by decide +kernel⟩
def b1__check_names (ρ : List B) : Option Out := (ifO (notT ((((consF (getB ρ 4) (consF (R.map (sliceM (getW ρ 0) (R.ok none) (((getB ρ 3)).bind asI)) PyData.list) (consF (getB ρ 1) (R.ok [])))).bind (callM fl_may_follow m_may_follow))).bind asB)) ρ (onE (R.map (joinR [(R.ok ("a name of the " : Str)), (((getB ρ 2)).bind fmtD), (R.ok ("s is none, stands twice or is one too many" : Str))] Str.empty) PyData.str) ρ fun _ => some (.rs ⟨"InvalidLog", none⟩ ρ)) (some (.nx ρ)))
def m_check_names_b (ρ : List B) : Option Out := (seqO (ifO ((b2 eqD (bcall lenD (consT (getW ρ 0) (R.ok []))) (R.ok (PyData.int 0))).bind asB) ρ (onE (R.map (joinR [(R.ok ("there is no " : Str)), (((getB ρ 2)).bind fmtD)] Str.empty) PyData.str) ρ fun _ => some (.rs ⟨"InvalidLog", none⟩ ρ)) (some (.nx ρ))) fun ρ => (onE ((getK ρ 0).map enumD) ρ fun ds => forO (.many [3, 4]) b1__check_names ds ρ))
abbrev fl__check_names : List Bool := [true, false, false]
def m_check_names (ds : List D) : R D := runO (m_check_names_b (start0 5 fl__check_names ds))
theorem r__check_names (a0 : List D) (a1 : D) (a2 : D) : m_check_names [.list a0, a1, a2] = runO (m_check_names_b [.wk a0, .dat a1, .dat a2, .un, .un]) := Eq.trans rfl rfl
theorem c__check_names (a0 : D) (a1 : D) (a2 : D) : callM (fl__check_names) m_check_names [(true, a0), (false, a1), (false, a2)] = m_check_names [a0, a1, a2] := Eq.trans rfl rfl
/-! _check_judges -/
abbrev s__check_judges : Stmt := topS 22
def N__check_judges : List Str := ["judges", "judge"]
theorem sc__check_judges : FnScope N__check_judges ["judges"] (defScope s__check_judges) := ⟨rfl, rfl, rfl, by decide +kernel, rfl, by decide +kernel, by decide +kernel⟩
def b1__check_judges (ρ : List B) : Option Out := (ifO (eitherT ((b2 neD (bcall lenD (consT (getW ρ 1) (R.ok []))) (R.ok (PyData.int 2))).bind asB) (notT ((((consF (b2 ixD (getW ρ 1) (R.ok (PyData.int 1))) (R.ok [])).bind (callM fl_is_drift m_is_drift))).bind asB))) ρ (onE (R.ok (PyData.str "a judge is not a name and a drift")) ρ fun _ => some (.rs ⟨"InvalidLog", none⟩ ρ)) (some (.nx ρ)))
def m_check_judges_b (ρ : List B) : Option Out := (seqO (onE (getK ρ 0) ρ fun ds => forO (.one 1) b1__check_judges ds ρ) fun ρ => (onE ((consT (R.map (((getK ρ 0)).bind fun ds => lcM (.one 1) [1] (fun ρ => (R.ok true)) (fun ρ => (b2 ixD (getW ρ 1) (R.ok (PyData.int 0)))) ρ ds) PyData.list) (consF (R.ok g_MOST_JUDGES) (consF (R.ok (PyData.str "judge")) (R.ok [])))).bind (callM fl__check_names m_check_names)) ρ fun _ => some (.nx ρ)))
abbrev fl__check_judges : List Bool := [true]
def m_check_judges (ds : List D) : R D := runO (m_check_judges_b (start0 2 fl__check_judges ds))
theorem r__check_judges (a0 : List D) : m_check_judges [.list a0] = runO (m_check_judges_b [.wk a0, .un]) := Eq.trans rfl rfl
theorem c__check_judges (a0 : D) : callM (fl__check_judges) m_check_judges [(true, a0)] = m_check_judges [a0] := Eq.trans rfl rfl
/-! _check_log -/
abbrev s__check_log : Stmt := topS 23
def N__check_log : List Str := ["items", "grades", "judges", "events", "judge_names", "event", "judge"]
theorem sc__check_log : FnScope N__check_log ["items", "grades", "judges", "events"] (defScope s__check_log) := ⟨rfl, rfl, rfl, by decide +kernel, rfl, by decide +kernel, by decide +kernel⟩
def b1__check_log (ρ : List B) : Option Out := (ifO (notT ((((consF (getB ρ 5) (consT (getW ρ 0) (consF (getB ρ 1) (consF (getB ρ 4) (R.ok []))))).bind (callM fl_is_event m_is_event))).bind asB)) ρ (onE (R.ok (PyData.str "an event is neither an answer nor a reset of this log")) ρ fun _ => some (.rs ⟨"InvalidLog", none⟩ ρ)) (some (.nx ρ)))
def m_check_log_b (ρ : List B) : Option Out := (seqO (onE ((consT (getW ρ 0) (consF (R.ok g_MOST_ITEMS) (consF (R.ok (PyData.str "item")) (R.ok [])))).bind (callM fl__check_names m_check_names)) ρ fun _ => some (.nx ρ)) fun ρ => (seqO (ifO (notT ((((consF (getB ρ 1) (R.ok [])).bind (callM fl_is_highest_grade m_is_highest_grade))).bind asB)) ρ (onE (R.ok (PyData.str "the highest grade is none from 1 to 9")) ρ fun _ => some (.rs ⟨"InvalidLog", none⟩ ρ)) (some (.nx ρ))) fun ρ => (seqO (onE ((consT (getW ρ 2) (R.ok [])).bind (callM fl__check_judges m_check_judges)) ρ fun _ => some (.nx ρ)) fun ρ => (seqO (ifO ((b2 gtD (bcall lenD (consT (getW ρ 3) (R.ok []))) (R.ok g_MOST_EVENTS)).bind asB) ρ (onE (R.ok (PyData.str "there are too many events")) ρ fun _ => some (.rs ⟨"InvalidLog", none⟩ ρ)) (some (.nx ρ))) fun ρ => (seqO (onE (((getK ρ 2)).bind fun ds => lcM (.one 6) [6] (fun ρ => (R.ok true)) (fun ρ => (b2 ixD (getW ρ 6) (R.ok (PyData.int 0)))) ρ ds) ρ fun ds => some (.nx (ρ.set 4 (.dat (.list ds))))) fun ρ => (onE (getK ρ 3) ρ fun ds => forO (.one 5) b1__check_log ds ρ))))))
abbrev fl__check_log : List Bool := [true, false, true, true]
def m_check_log (ds : List D) : R D := runO (m_check_log_b (start0 7 fl__check_log ds))
theorem r__check_log (a0 : List D) (a1 : D) (a2 : List D) (a3 : List D) : m_check_log [.list a0, a1, .list a2, .list a3] = runO (m_check_log_b [.wk a0, .dat a1, .wk a2, .wk a3, .un, .un, .un]) := Eq.trans rfl rfl
theorem c__check_log (a0 : D) (a1 : D) (a2 : D) (a3 : D) : callM (fl__check_log) m_check_log [(true, a0), (false, a1), (true, a2), (true, a3)] = m_check_log [a0, a1, a2, a3] := Eq.trans rfl rfl
/-! _resets_ahead -/
abbrev s__resets_ahead : Stmt := topS 24
def N__resets_ahead : List Str := ["events", "counts", "ahead", "event", "judge"]
theorem sc__resets_ahead : FnScope N__resets_ahead ["events"] (defScope s__resets_ahead) := ⟨rfl, rfl, rfl, by decide +kernel, rfl, by decide +kernel, by decide +kernel⟩
def b1__resets_ahead (ρ : List B) : Option Out := (seqO (onE (b2 ixD (getW ρ 3) (R.ok (PyData.int 1))) ρ fun d => some (.nx (ρ.set 4 (.dat d)))) fun ρ => (letρ (frz 1 ρ) fun ρ => (seqO (appE ρ 2 (getOwn ρ 1 (getB ρ 4) (R.ok (PyData.int 0)))) fun ρ => (ifO ((b2 eqD (b2 ixD (getW ρ 3) (R.ok (PyData.int 0))) (R.ok (PyData.str "reset"))).bind asB) ρ (letρ (frz 1 ρ) fun ρ => (putOwn ρ 1 (getB ρ 4) (b2 addD (getOwn ρ 1 (getB ρ 4) (R.ok (PyData.int 0))) (R.ok (PyData.int 1))))) (some (.nx ρ))))))
def m_resets_ahead_b (ρ : List B) : Option Out := (seqO (some (.nx (ρ.set 1 (.ownd [])))) fun ρ => (seqO (onE (lstM (R.ok [])) ρ fun ds => some (.nx (ρ.set 2 (.own ds)))) fun ρ => (seqO (onE (getK ρ 0) ρ fun ds => forO (.one 3) b1__resets_ahead ds ρ) fun ρ => (letρ (frz 2 ρ) fun ρ => (onE (getB ρ 2) ρ fun d => some (.rt d))))))
abbrev fl__resets_ahead : List Bool := [true]
def m_resets_ahead (ds : List D) : R D := runO (m_resets_ahead_b (start0 5 fl__resets_ahead ds))
theorem r__resets_ahead (a0 : List D) : m_resets_ahead [.list a0] = runO (m_resets_ahead_b [.wk a0, .un, .un, .un, .un]) := Eq.trans rfl rfl
theorem c__resets_ahead (a0 : D) : callM (fl__resets_ahead) m_resets_ahead [(true, a0)] = m_resets_ahead [a0] := Eq.trans rfl rfl
/-! Log.__init__ -/
abbrev s_Log___init__ : Stmt := inClass (topS 25) 0
def N_Log___init__ : List Str := ["self", "items", "grades", "judges", "events", "name", "drift"]
theorem sc_Log___init__ : FnScope N_Log___init__ ["self", "items", "grades", "judges", "events"] (defScope s_Log___init__) := ⟨rfl, rfl, rfl, by decide +kernel, rfl, by decide +kernel, by decide +kernel⟩
def m_Log___init___b (ρ : List B) : Option Out := (seqO (onE ((consT (getW ρ 1) (consF (getB ρ 2) (consT (getW ρ 3) (consT (getW ρ 4) (R.ok []))))).bind (callM fl__check_log m_check_log)) ρ fun _ => some (.nx ρ)) fun ρ => (seqO (setF "Log" ρ 0 "_item_names" (R.map (listM (getW ρ 1)) PyData.list)) fun ρ => (seqO (setF "Log" ρ 0 "_grades" (getB ρ 2)) fun ρ => (seqO (setF "Log" ρ 0 "_judges" (R.map (listM (getW ρ 3)) PyData.list)) fun ρ => (seqO (setF "Log" ρ 0 "_events" (R.map (listM (getW ρ 4)) PyData.list)) fun ρ => (seqO (setF "Log" ρ 0 "_drifts" (((getK ρ 3)).bind fun ds => dcM (.many [5, 6]) [5, 6] (fun ρ => (R.ok true)) (fun ρ => (getB ρ 5)) (fun ρ => (getB ρ 6)) ρ ds)) fun ρ => (setF "Log" ρ 0 "_resets" ((consT (getW ρ 4) (R.ok [])).bind (callM fl__resets_ahead m_resets_ahead)))))))))
abbrev fl_Log___init__ : List Bool := [true, false, true, true]
def m_Log___init___xy (x dx : Addr) (ds : List D) : R (List (Str × D)) := runI x dx "Log" (m_Log___init___b (startI x dx 7 "Log" fl_Log___init__ ds))
def m_Log___init__ (ds : List D) : R (List (Str × D)) := m_Log___init___xy 0 0 ds
/-- the dict of the names and drifts, by data -/
def drD (ρ : List B) (ds : List D) : R D := dcM (.many [5, 6]) [5, 6] (fun _ => (R.ok true)) (fun ρ => (getB ρ 5)) (fun ρ => (getB ρ 6)) ρ ds
theorem drD_any (ρ ρ' : List B) (ds : List D) (hr : ρ.length = 7) (hr' : ρ'.length = 7) : drD ρ ds = drD ρ' ds := by
  obtain ⟨r0, r1, r2, r3, r4, r5, r6, rfl⟩ : ∃ r0 r1 r2 r3 r4 r5 r6, ρ = [r0, r1, r2, r3, r4, r5, r6] := by
    match ρ, hr with
    | [r0, r1, r2, r3, r4, r5, r6], _ => exact ⟨_, _, _, _, _, _, _, rfl⟩
  obtain ⟨q0, q1, q2, q3, q4, q5, q6, rfl⟩ : ∃ r0 r1 r2 r3 r4 r5 r6, ρ' = [r0, r1, r2, r3, r4, r5, r6] := by
    match ρ', hr' with
    | [r0, r1, r2, r3, r4, r5, r6], _ => exact ⟨_, _, _, _, _, _, _, rfl⟩
  have k : ∀ {α : Type} (f : List B → R α) (hf : ∀ u v, f [r0, r1, r2, r3, r4, u, v] = f [q0, q1, q2, q3, q4, u, v]) (d : D), tgR (.many [5, 6]) (wipeB [r0, r1, r2, r3, r4, r5, r6] [5, 6]) d f = tgR (.many [5, 6]) (wipeB [q0, q1, q2, q3, q4, q5, q6] [5, 6]) d f := by
    intro α f hf d
    cases d <;> try rfl
    rename_i ds
    match ds with
    | [] => rfl
    | [u] => rfl
    | [u, v] => exact hf _ _
    | u :: v :: z :: ds => rfl
  unfold drD dcM
  have k1 := funext (k (fun _ => (R.ok true)) fun _ _ => rfl)
  have k2 := funext (k (fun ρ => (getB ρ 5)) fun _ _ => rfl)
  have k3 := funext (k (fun ρ => (getB ρ 6)) fun _ _ => rfl)
  rw [k1, k2, k3]
/-- what the object of a log is made of -/
def logFs (a b c d : D) : R (List (Str × D)) :=
  (callM fl__check_log m_check_log [(true, a), (false, b), (true, c), (true, d)]).bind fun _ =>
  ((listM (.ok a)).map PyData.list).bind fun a' => ((listM (.ok c)).map PyData.list).bind fun c' => ((listM (.ok d)).map PyData.list).bind fun d' =>
  ((getK [asW c] 0).bind fun ds => drD [.un, .un, .un, .un, .un, .un, .un] ds).bind fun dr =>
  (callM fl__resets_ahead m_resets_ahead [(true, d)]).bind fun rs =>
  .ok [("_item_names", a'), ("_grades", b), ("_judges", c'), ("_events", d'), ("_drifts", dr), ("_resets", rs)]
theorem getW_asW (d : D) (ρ : List B) (i : Nat) (h : ρ[i]? = some (asW d)) : getW ρ i = .ok d := by
  unfold getW
  rw [h]
  cases d <;> rfl
theorem getK_asW (d : D) (ρ : List B) (i : Nat) (h : ρ[i]? = some (asW d)) : getK ρ i = getK [asW d] 0 := by
  unfold getK
  rw [h]
  rfl
theorem putG_new {f : Str} {v : D} : ∀ {fs : List (Str × D)}, (fs.all fun p => !decide (p.1 = f)) = true → putG f v fs = fs ++ [(f, v)]
  | [], _ => rfl
  | (g, u) :: r, h => by
    simp only [List.all_cons, Bool.and_eq_true, Bool.not_eq_true', decide_eq_false_iff_not] at h
    show (if g = f then _ else _) = _
    rw [if_neg h.1, putG_new h.2]
    rfl
theorem init_eq (x dx : Addr) (a b c d : D) : m_Log___init___xy x dx [a, b, c, d] = logFs a b c d := by
  have st : startI x dx 7 "Log" fl_Log___init__ [a, b, c, d] = [.ownI x dx "Log" [], asW a, .dat b, asW c, asW d, .un, .un] := rfl
  unfold m_Log___init___xy m_Log___init___b
  rw [st]
  have g1 : ∀ o, getW [o, asW a, .dat b, asW c, asW d, .un, .un] 1 = .ok a := fun o => getW_asW _ _ _ rfl
  have g2 : ∀ o, getB [o, asW a, .dat b, asW c, asW d, .un, .un] 2 = .ok b := fun o => rfl
  have g3 : ∀ o, getW [o, asW a, .dat b, asW c, asW d, .un, .un] 3 = .ok c := fun o => getW_asW _ _ _ rfl
  have g4 : ∀ o, getW [o, asW a, .dat b, asW c, asW d, .un, .un] 4 = .ok d := fun o => getW_asW _ _ _ rfl
  have gk : ∀ o, getK [o, asW a, .dat b, asW c, asW d, .un, .un] 3 = getK [asW c] 0 := fun o => getK_asW _ _ _ rfl
  have sf : ∀ (fs : List (Str × D)) (f : Str) (v : D), fs.length < 100 → setF "Log" [.ownI x dx "Log" fs, asW a, .dat b, asW c, asW d, .un, .un] 0 f (.ok v) = some (.nx [.ownI x dx "Log" (putG f v fs), asW a, .dat b, asW c, asW d, .un, .un]) := fun fs f v h => by
    simp [setF, h]
  have sb : ∀ (ρ : List B) (f : Str), setF "Log" ρ 0 f .bad = none := fun _ _ => rfl
  have sr : ∀ (ρ : List B) (f : Str) e, setF "Log" ρ 0 f (.rs e) = some (.rs e ρ) := fun _ _ _ => rfl
  have ra : ∀ e ρ, runI x dx "Log" (some (.rs e ρ)) = .rs e := fun _ _ => rfl
  have rn : runI x dx "Log" none = .bad := rfl
  have sn : ∀ k, seqO none k = none := fun _ => rfl
  unfold logFs
  simp only [g1, g2, g3, g4, R.bind, R.map]
  cases callM fl__check_log m_check_log [(true, a), (false, b), (true, c), (true, d)] with
  | bad => rfl
  | rs e => rfl
  | ok u =>
  simp only [onE_ok, seqO_nx, g1, g2, g3, g4, R.bind, R.map]
  cases listOf a with
  | bad => rfl
  | rs e => rfl
  | ok a' =>
  rw [sf _ _ _ (by decide), putG_new rfl]
  simp only [seqO_nx, g1, g2, g3, g4, R.bind, R.map]
  rw [sf _ _ _ (by simp), putG_new rfl]
  simp only [seqO_nx, g1, g2, g3, g4, R.bind, R.map]
  cases listOf c with
  | bad => rfl
  | rs e => rfl
  | ok c' =>
  rw [sf _ _ _ (by simp), putG_new rfl]
  simp only [seqO_nx, g1, g2, g3, g4, R.bind, R.map]
  cases listOf d with
  | bad => rfl
  | rs e => rfl
  | ok d' =>
  rw [sf _ _ _ (by simp), putG_new rfl]
  simp only [seqO_nx, g1, g2, g3, g4, gk, R.bind, R.map]
  cases getK [asW c] 0 with
  | bad => rfl
  | rs e => rfl
  | ok cs =>
  simp only [R.bind]
  have dr := fun fs => drD_any [.ownI x dx "Log" fs, asW a, .dat b, asW c, asW d, .un, .un] [.un, .un, .un, .un, .un, .un, .un] cs rfl rfl
  show runI x dx "Log" (seqO (setF "Log" _ 0 "_drifts" (drD _ cs)) _) = _
  rw [dr]
  cases drD [.un, .un, .un, .un, .un, .un, .un] cs with
  | bad => rfl
  | rs e => rfl
  | ok dr =>
  simp only []
  rw [sf _ _ _ (by simp), putG_new rfl]
  simp only [seqO_nx, g1, g2, g3, g4, gk, R.bind, R.map]
  cases callM fl__resets_ahead m_resets_ahead [(true, d)] with
  | bad => rfl
  | rs e => rfl
  | ok rs =>
  rw [sf _ _ _ (by simp), putG_new rfl]
  simp only [runI, List.getElem?_cons_zero, and_self, if_true]
  rfl

theorem par_Log___init__ (x dx : Addr) (ds : List D) (hl : ds.length = fl_Log___init__.length) : m_Log___init___xy x dx ds = m_Log___init__ ds := by
  match ds, hl with
  | [a0, a1, a2, a3], _ => exact (init_eq x dx a0 a1 a2 a3).trans (init_eq 0 0 a0 a1 a2 a3).symm
/-! _law_log -/
abbrev s__law_log : Stmt := topS 30
def N__law_log : List Str := ["parts", "things", "grades", "judges", "events"]
theorem sc__law_log : FnScope N__law_log ["parts"] (defScope s__law_log) := ⟨rfl, rfl, rfl, by decide +kernel, rfl, by decide +kernel, by decide +kernel⟩
def m_law_log_b (ρ : List B) : Option Out := (seqO (onE (getB ρ 0) ρ fun d => ((Tg.many [1, 2, 3, 4]).set d ρ).map .nx) fun ρ => (onE ((consT (getW ρ 1) (consF (getB ρ 2) (consT (getW ρ 3) (consT (getW ρ 4) (R.ok []))))).bind (callMk "Log" fl_Log___init__ m_Log___init__)) ρ fun d => some (.rt d)))
abbrev fl__law_log : List Bool := [false]
def m_law_log (ds : List D) : R D := runO (m_law_log_b (start0 5 fl__law_log ds))
theorem r__law_log (a0 : D) : m_law_log [a0] = runO (m_law_log_b [.dat a0, .un, .un, .un, .un]) := Eq.trans rfl rfl
theorem c__law_log (a0 : D) : callM (fl__law_log) m_law_log [(false, a0)] = m_law_log [a0] := Eq.trans rfl rfl
/-! are_in_order -/
abbrev s_are_in_order : Stmt := topS 20
def N_are_in_order : List Str := ["drift", "one", "other"]
theorem sc_are_in_order : FnScope N_are_in_order ["drift", "one", "other"] (defScope s_are_in_order) := ⟨rfl, rfl, rfl, by decide +kernel, rfl, by decide +kernel, by decide +kernel⟩
def m_are_in_order_b (ρ : List B) : Option Out := (seqO (ifO ((b2 eqD (getW ρ 0) (R.ok (PyData.str "rises"))).bind asB) ρ (onE (b2 leD (getW ρ 1) (getW ρ 2)) ρ fun d => some (.rt d)) (some (.nx ρ))) fun ρ => (seqO (ifO ((b2 eqD (getW ρ 0) (R.ok (PyData.str "falls"))).bind asB) ρ (onE (b2 geD (getW ρ 1) (getW ρ 2)) ρ fun d => some (.rt d)) (some (.nx ρ))) fun ρ => (onE (R.ok (PyData.bool true)) ρ fun d => some (.rt d))))
abbrev fl_are_in_order : List Bool := [false, false, false]
def m_are_in_order (ds : List D) : R D := runO (m_are_in_order_b (start0 3 fl_are_in_order ds))
theorem r_are_in_order (a0 : D) (a1 : D) (a2 : D) : m_are_in_order [a0, a1, a2] = runO (m_are_in_order_b [.dat a0, .dat a1, .dat a2]) := Eq.trans rfl rfl
theorem c_are_in_order (a0 : D) (a1 : D) (a2 : D) : callM (fl_are_in_order) m_are_in_order [(false, a0), (false, a1), (false, a2)] = m_are_in_order [a0, a1, a2] := Eq.trans rfl rfl
/-! Log.answers -/
abbrev s_Log_answers : Stmt := inClass (topS 25) 6
def N_Log_answers : List Str := ["self", "place", "event"]
theorem sc_Log_answers : FnScope N_Log_answers ["self"] (defScope s_Log_answers) := ⟨rfl, rfl, rfl, by decide +kernel, rfl, by decide +kernel, by decide +kernel⟩
def m_Log_answers_b (ρ : List B) : Option Out := (onE (R.map ((((((((getB ρ 0)).bind (fldD "Log" "_events"))).bind lstOf).map enumD)).bind fun ds => lcM (.many [1, 2]) [1, 2] (fun ρ => ((b2 eqD (b2 ixD (getW ρ 2) (R.ok (PyData.int 0))) (R.ok (PyData.str "answer"))).bind asB)) (fun ρ => (getB ρ 1)) ρ ds) PyData.list) ρ fun d => some (.rt d))
abbrev fl_Log_answers : List Bool := []
def m_Log_answers (ds : List D) : R D := runO (m_Log_answers_b (start0 3 (false :: fl_Log_answers) ds))
theorem r_Log_answers (a0 : D) : m_Log_answers [a0] = runO (m_Log_answers_b [.dat a0, .un, .un]) := Eq.trans rfl rfl
theorem c_Log_answers (a0 : D) : callM (false :: fl_Log_answers) m_Log_answers [(false, a0)] = m_Log_answers [a0] := Eq.trans rfl rfl
/-! Log.is_answer -/
abbrev s_Log_is_answer : Stmt := inClass (topS 25) 8
def N_Log_is_answer : List Str := ["self", "place"]
theorem sc_Log_is_answer : FnScope N_Log_is_answer ["self", "place"] (defScope s_Log_is_answer) := ⟨rfl, rfl, rfl, by decide +kernel, rfl, by decide +kernel, by decide +kernel⟩
def m_Log_is_answer_b (ρ : List B) : Option Out := (onE (bothB (chainD leD ltD (R.ok (PyData.int 0)) (getW ρ 1) (bcall lenD (consT (((getB ρ 0)).bind (fldD "Log" "_events")) (R.ok [])))) (b2 eqD (b2 ixD (b2 ixD (((getB ρ 0)).bind (fldD "Log" "_events")) (getB ρ 1)) (R.ok (PyData.int 0))) (R.ok (PyData.str "answer")))) ρ fun d => some (.rt d))
abbrev fl_Log_is_answer : List Bool := [false]
def m_Log_is_answer (ds : List D) : R D := runO (m_Log_is_answer_b (start0 2 (false :: fl_Log_is_answer) ds))
theorem r_Log_is_answer (a0 : D) (a1 : D) : m_Log_is_answer [a0, a1] = runO (m_Log_is_answer_b [.dat a0, .dat a1]) := Eq.trans rfl rfl
theorem c_Log_is_answer (a0 : D) (a1 : D) : callM (false :: fl_Log_is_answer) m_Log_is_answer [(false, a0), (false, a1)] = m_Log_is_answer [a0, a1] := Eq.trans rfl rfl
/-! Log._need_judge -/
abbrev s_Log__need_judge : Stmt := inClass (topS 25) 30
def N_Log__need_judge : List Str := ["self", "judge"]
theorem sc_Log__need_judge : FnScope N_Log__need_judge ["self", "judge"] (defScope s_Log__need_judge) := ⟨rfl, rfl, rfl, by decide +kernel, rfl, by decide +kernel, by decide +kernel⟩
def m_Log__need_judge_b (ρ : List B) : Option Out := (ifO ((b2 (inDD true) (getB ρ 1) (((getB ρ 0)).bind (fldD "Log" "_drifts"))).bind asB) ρ (onE (getB ρ 1) ρ fun d => some (.rs ⟨"UnknownJudge", some ("name", d)⟩ ρ)) (some (.nx ρ)))
abbrev fl_Log__need_judge : List Bool := [false]
def m_Log__need_judge (ds : List D) : R D := runO (m_Log__need_judge_b (start0 2 (false :: fl_Log__need_judge) ds))
theorem r_Log__need_judge (a0 : D) (a1 : D) : m_Log__need_judge [a0, a1] = runO (m_Log__need_judge_b [.dat a0, .dat a1]) := Eq.trans rfl rfl
theorem c_Log__need_judge (a0 : D) (a1 : D) : callM (false :: fl_Log__need_judge) m_Log__need_judge [(false, a0), (false, a1)] = m_Log__need_judge [a0, a1] := Eq.trans rfl rfl
/-! Log._need_answer -/
abbrev s_Log__need_answer : Stmt := inClass (topS 25) 32
def N_Log__need_answer : List Str := ["self", "place"]
theorem sc_Log__need_answer : FnScope N_Log__need_answer ["self", "place"] (defScope s_Log__need_answer) := ⟨rfl, rfl, rfl, by decide +kernel, rfl, by decide +kernel, by decide +kernel⟩
def m_Log__need_answer_b (ρ : List B) : Option Out := (ifO (notT (((methM "Log" "is_answer" fl_Log_is_answer m_Log_is_answer (getB ρ 0) (consF (getB ρ 1) (R.ok [])))).bind asB)) ρ (onE (getB ρ 1) ρ fun d => some (.rs ⟨"InvalidPlace", some ("place", d)⟩ ρ)) (some (.nx ρ)))
abbrev fl_Log__need_answer : List Bool := [false]
def m_Log__need_answer (ds : List D) : R D := runO (m_Log__need_answer_b (start0 2 (false :: fl_Log__need_answer) ds))
theorem r_Log__need_answer (a0 : D) (a1 : D) : m_Log__need_answer [a0, a1] = runO (m_Log__need_answer_b [.dat a0, .dat a1]) := Eq.trans rfl rfl
theorem c_Log__need_answer (a0 : D) (a1 : D) : callM (false :: fl_Log__need_answer) m_Log__need_answer [(false, a0), (false, a1)] = m_Log__need_answer [a0, a1] := Eq.trans rfl rfl
/-! Log._need_lost_place -/
abbrev s_Log__need_lost_place : Stmt := inClass (topS 25) 33
def N_Log__need_lost_place : List Str := ["self", "place"]
theorem sc_Log__need_lost_place : FnScope N_Log__need_lost_place ["self", "place"] (defScope s_Log__need_lost_place) := ⟨rfl, rfl, rfl, by decide +kernel, rfl, by decide +kernel, by decide +kernel⟩
def m_Log__need_lost_place_b (ρ : List B) : Option Out := (ifO (notT ((chainD leD leD (R.ok (PyData.int 0)) (getW ρ 1) (bcall lenD (consT (((getB ρ 0)).bind (fldD "Log" "_events")) (R.ok [])))).bind asB)) ρ (onE (getB ρ 1) ρ fun d => some (.rs ⟨"InvalidPlace", some ("place", d)⟩ ρ)) (some (.nx ρ)))
abbrev fl_Log__need_lost_place : List Bool := [false]
def m_Log__need_lost_place (ds : List D) : R D := runO (m_Log__need_lost_place_b (start0 2 (false :: fl_Log__need_lost_place) ds))
theorem r_Log__need_lost_place (a0 : D) (a1 : D) : m_Log__need_lost_place [a0, a1] = runO (m_Log__need_lost_place_b [.dat a0, .dat a1]) := Eq.trans rfl rfl
theorem c_Log__need_lost_place (a0 : D) (a1 : D) : callM (false :: fl_Log__need_lost_place) m_Log__need_lost_place [(false, a0), (false, a1)] = m_Log__need_lost_place [a0, a1] := Eq.trans rfl rfl
/-! Log.answers_of -/
abbrev s_Log_answers_of : Stmt := inClass (topS 25) 7
def N_Log_answers_of : List Str := ["self", "judge", "place"]
theorem sc_Log_answers_of : FnScope N_Log_answers_of ["self", "judge"] (defScope s_Log_answers_of) := ⟨rfl, rfl, rfl, by decide +kernel, rfl, by decide +kernel, by decide +kernel⟩
def m_Log_answers_of_b (ρ : List B) : Option Out := (seqO (onE (methM "Log" "_need_judge" fl_Log__need_judge m_Log__need_judge (getB ρ 0) (consF (getB ρ 1) (R.ok []))) ρ fun _ => some (.nx ρ)) fun ρ => (onE (R.map (((((methM0 "Log" "answers" m_Log_answers (getB ρ 0))).bind lstOf)).bind fun ds => lcM (.one 2) [2] (fun ρ => ((b2 eqD (b2 ixD (b2 ixD (((getB ρ 0)).bind (fldD "Log" "_events")) (getB ρ 2)) (R.ok (PyData.int 1))) (getW ρ 1)).bind asB)) (fun ρ => (getB ρ 2)) ρ ds) PyData.list) ρ fun d => some (.rt d)))
abbrev fl_Log_answers_of : List Bool := [false]
def m_Log_answers_of (ds : List D) : R D := runO (m_Log_answers_of_b (start0 3 (false :: fl_Log_answers_of) ds))
theorem r_Log_answers_of (a0 : D) (a1 : D) : m_Log_answers_of [a0, a1] = runO (m_Log_answers_of_b [.dat a0, .dat a1, .un]) := Eq.trans rfl rfl
theorem c_Log_answers_of (a0 : D) (a1 : D) : callM (false :: fl_Log_answers_of) m_Log_answers_of [(false, a0), (false, a1)] = m_Log_answers_of [a0, a1] := Eq.trans rfl rfl
/-! Log._stretch_behind -/
abbrev s_Log__stretch_behind : Stmt := inClass (topS 25) 34
def N_Log__stretch_behind : List Str := ["self", "judge", "resets", "place"]
theorem sc_Log__stretch_behind : FnScope N_Log__stretch_behind ["self", "judge", "resets"] (defScope s_Log__stretch_behind) := ⟨rfl, rfl, rfl, by decide +kernel, rfl, by decide +kernel, by decide +kernel⟩
def m_Log__stretch_behind_b (ρ : List B) : Option Out := (onE (R.map (((((methM "Log" "answers_of" fl_Log_answers_of m_Log_answers_of (getB ρ 0) (consF (getB ρ 1) (R.ok [])))).bind lstOf)).bind fun ds => lcM (.one 3) [3] (fun ρ => ((b2 eqD (b2 ixD (((getB ρ 0)).bind (fldD "Log" "_resets")) (getB ρ 3)) (getW ρ 2)).bind asB)) (fun ρ => (getB ρ 3)) ρ ds) PyData.list) ρ fun d => some (.rt d))
abbrev fl_Log__stretch_behind : List Bool := [false, false]
def m_Log__stretch_behind (ds : List D) : R D := runO (m_Log__stretch_behind_b (start0 4 (false :: fl_Log__stretch_behind) ds))
theorem r_Log__stretch_behind (a0 : D) (a1 : D) (a2 : D) : m_Log__stretch_behind [a0, a1, a2] = runO (m_Log__stretch_behind_b [.dat a0, .dat a1, .dat a2, .un]) := Eq.trans rfl rfl
theorem c_Log__stretch_behind (a0 : D) (a1 : D) (a2 : D) : callM (false :: fl_Log__stretch_behind) m_Log__stretch_behind [(false, a0), (false, a1), (false, a2)] = m_Log__stretch_behind [a0, a1, a2] := Eq.trans rfl rfl
/-! Log.stretch_at -/
abbrev s_Log_stretch_at : Stmt := inClass (topS 25) 15
def N_Log_stretch_at : List Str := ["self", "judge", "place"]
theorem sc_Log_stretch_at : FnScope N_Log_stretch_at ["self", "judge", "place"] (defScope s_Log_stretch_at) := ⟨rfl, rfl, rfl, by decide +kernel, rfl, by decide +kernel, by decide +kernel⟩
def m_Log_stretch_at_b (ρ : List B) : Option Out := (seqO (onE (methM "Log" "_need_judge" fl_Log__need_judge m_Log__need_judge (getB ρ 0) (consF (getB ρ 1) (R.ok []))) ρ fun _ => some (.nx ρ)) fun ρ => (seqO (onE (methM "Log" "_need_lost_place" fl_Log__need_lost_place m_Log__need_lost_place (getB ρ 0) (consF (getB ρ 2) (R.ok []))) ρ fun _ => some (.nx ρ)) fun ρ => (onE (methM "Log" "_stretch_behind" fl_Log__stretch_behind m_Log__stretch_behind (getB ρ 0) (consF (getB ρ 1) (consF (countM (R.map (sliceM (((getB ρ 0)).bind (fldD "Log" "_events")) (R.ok none) (((getB ρ 2)).bind asI)) PyData.list) (tupM (consF (R.ok (PyData.str "reset")) (consF (getB ρ 1) (R.ok []))))) (R.ok [])))) ρ fun d => some (.rt d))))
abbrev fl_Log_stretch_at : List Bool := [false, false]
def m_Log_stretch_at (ds : List D) : R D := runO (m_Log_stretch_at_b (start0 3 (false :: fl_Log_stretch_at) ds))
theorem r_Log_stretch_at (a0 : D) (a1 : D) (a2 : D) : m_Log_stretch_at [a0, a1, a2] = runO (m_Log_stretch_at_b [.dat a0, .dat a1, .dat a2]) := Eq.trans rfl rfl
theorem c_Log_stretch_at (a0 : D) (a1 : D) (a2 : D) : callM (false :: fl_Log_stretch_at) m_Log_stretch_at [(false, a0), (false, a1), (false, a2)] = m_Log_stretch_at [a0, a1, a2] := Eq.trans rfl rfl
/-! Log.in_order -/
abbrev s_Log_in_order : Stmt := inClass (topS 25) 14
def N_Log_in_order : List Str := ["self", "one", "other", "judge"]
theorem sc_Log_in_order : FnScope N_Log_in_order ["self", "one", "other"] (defScope s_Log_in_order) := ⟨rfl, rfl, rfl, by decide +kernel, rfl, by decide +kernel, by decide +kernel⟩
def m_Log_in_order_b (ρ : List B) : Option Out := (seqO (onE (methM "Log" "_need_answer" fl_Log__need_answer m_Log__need_answer (getB ρ 0) (consF (getB ρ 1) (R.ok []))) ρ fun _ => some (.nx ρ)) fun ρ => (seqO (onE (methM "Log" "_need_answer" fl_Log__need_answer m_Log__need_answer (getB ρ 0) (consF (getB ρ 2) (R.ok []))) ρ fun _ => some (.nx ρ)) fun ρ => (seqO (onE (b2 ixD (b2 ixD (((getB ρ 0)).bind (fldD "Log" "_events")) (getB ρ 1)) (R.ok (PyData.int 1))) ρ fun d => some (.nx (ρ.set 3 (.dat d)))) fun ρ => (seqO (ifO (eitherT ((b2 neD (getW ρ 3) (b2 ixD (b2 ixD (((getB ρ 0)).bind (fldD "Log" "_events")) (getB ρ 2)) (R.ok (PyData.int 1)))).bind asB) ((b2 neD (b2 ixD (((getB ρ 0)).bind (fldD "Log" "_resets")) (getB ρ 1)) (b2 ixD (((getB ρ 0)).bind (fldD "Log" "_resets")) (getB ρ 2))).bind asB)) ρ (onE (R.ok (PyData.bool false)) ρ fun d => some (.rt d)) (some (.nx ρ))) fun ρ => (onE ((consF (b2 getDD (((getB ρ 0)).bind (fldD "Log" "_drifts")) (getB ρ 3)) (consF (getB ρ 1) (consF (getB ρ 2) (R.ok [])))).bind (callM fl_are_in_order m_are_in_order)) ρ fun d => some (.rt d))))))
abbrev fl_Log_in_order : List Bool := [false, false]
def m_Log_in_order (ds : List D) : R D := runO (m_Log_in_order_b (start0 4 (false :: fl_Log_in_order) ds))
theorem r_Log_in_order (a0 : D) (a1 : D) (a2 : D) : m_Log_in_order [a0, a1, a2] = runO (m_Log_in_order_b [.dat a0, .dat a1, .dat a2, .un]) := Eq.trans rfl rfl
theorem c_Log_in_order (a0 : D) (a1 : D) (a2 : D) : callM (false :: fl_Log_in_order) m_Log_in_order [(false, a0), (false, a1), (false, a2)] = m_Log_in_order [a0, a1, a2] := Eq.trans rfl rfl
/-! Log.lost_first -/
abbrev s_Log_lost_first : Stmt := inClass (topS 25) 16
def N_Log_lost_first : List Str := ["self", "judge", "place", "at", "stretch"]
theorem sc_Log_lost_first : FnScope N_Log_lost_first ["self", "judge", "place", "at"] (defScope s_Log_lost_first) := ⟨rfl, rfl, rfl, by decide +kernel, rfl, by decide +kernel, by decide +kernel⟩
def m_Log_lost_first_b (ρ : List B) : Option Out := (seqO (onE (methM "Log" "stretch_at" fl_Log_stretch_at m_Log_stretch_at (getB ρ 0) (consF (getB ρ 1) (consF (getB ρ 2) (R.ok [])))) ρ fun d => some (.nx (ρ.set 4 (.dat d)))) fun ρ => (seqO (onE (methM "Log" "_need_answer" fl_Log__need_answer m_Log__need_answer (getB ρ 0) (consF (getB ρ 3) (R.ok []))) ρ fun _ => some (.nx ρ)) fun ρ => (onE (bothB (b2 (inD false) (getW ρ 3) (getW ρ 4)) ((consF (b2 getDD (((getB ρ 0)).bind (fldD "Log" "_drifts")) (getB ρ 1)) (consF (b2 subD (b2 mulD (R.ok (PyData.int 2)) (getW ρ 2)) (R.ok (PyData.int 1))) (consF (b2 mulD (R.ok (PyData.int 2)) (getW ρ 3)) (R.ok [])))).bind (callM fl_are_in_order m_are_in_order))) ρ fun d => some (.rt d))))
abbrev fl_Log_lost_first : List Bool := [false, false, false]
def m_Log_lost_first (ds : List D) : R D := runO (m_Log_lost_first_b (start0 5 (false :: fl_Log_lost_first) ds))
theorem r_Log_lost_first (a0 : D) (a1 : D) (a2 : D) (a3 : D) : m_Log_lost_first [a0, a1, a2, a3] = runO (m_Log_lost_first_b [.dat a0, .dat a1, .dat a2, .dat a3, .un]) := Eq.trans rfl rfl
theorem c_Log_lost_first (a0 : D) (a1 : D) (a2 : D) (a3 : D) : callM (false :: fl_Log_lost_first) m_Log_lost_first [(false, a0), (false, a1), (false, a2), (false, a3)] = m_Log_lost_first [a0, a1, a2, a3] := Eq.trans rfl rfl
/-! Log.lost_second -/
abbrev s_Log_lost_second : Stmt := inClass (topS 25) 17
def N_Log_lost_second : List Str := ["self", "judge", "place", "at", "stretch"]
theorem sc_Log_lost_second : FnScope N_Log_lost_second ["self", "judge", "place", "at"] (defScope s_Log_lost_second) := ⟨rfl, rfl, rfl, by decide +kernel, rfl, by decide +kernel, by decide +kernel⟩
def m_Log_lost_second_b (ρ : List B) : Option Out := (seqO (onE (methM "Log" "stretch_at" fl_Log_stretch_at m_Log_stretch_at (getB ρ 0) (consF (getB ρ 1) (consF (getB ρ 2) (R.ok [])))) ρ fun d => some (.nx (ρ.set 4 (.dat d)))) fun ρ => (seqO (onE (methM "Log" "_need_answer" fl_Log__need_answer m_Log__need_answer (getB ρ 0) (consF (getB ρ 3) (R.ok []))) ρ fun _ => some (.nx ρ)) fun ρ => (onE (bothB (b2 (inD false) (getW ρ 3) (getW ρ 4)) ((consF (b2 getDD (((getB ρ 0)).bind (fldD "Log" "_drifts")) (getB ρ 1)) (consF (b2 mulD (R.ok (PyData.int 2)) (getW ρ 3)) (consF (b2 subD (b2 mulD (R.ok (PyData.int 2)) (getW ρ 2)) (R.ok (PyData.int 1))) (R.ok [])))).bind (callM fl_are_in_order m_are_in_order))) ρ fun d => some (.rt d))))
abbrev fl_Log_lost_second : List Bool := [false, false, false]
def m_Log_lost_second (ds : List D) : R D := runO (m_Log_lost_second_b (start0 5 (false :: fl_Log_lost_second) ds))
theorem r_Log_lost_second (a0 : D) (a1 : D) (a2 : D) (a3 : D) : m_Log_lost_second [a0, a1, a2, a3] = runO (m_Log_lost_second_b [.dat a0, .dat a1, .dat a2, .dat a3, .un]) := Eq.trans rfl rfl
theorem c_Log_lost_second (a0 : D) (a1 : D) (a2 : D) (a3 : D) : callM (false :: fl_Log_lost_second) m_Log_lost_second [(false, a0), (false, a1), (false, a2), (false, a3)] = m_Log_lost_second [a0, a1, a2, a3] := Eq.trans rfl rfl
/-! Log.backwards -/
abbrev s_Log_backwards : Stmt := inClass (topS 25) 28
def N_Log_backwards : List Str := ["self", "turned", "name", "drift"]
theorem sc_Log_backwards : FnScope N_Log_backwards ["self"] (defScope s_Log_backwards) := ⟨rfl, rfl, rfl, by decide +kernel, rfl, by decide +kernel, by decide +kernel⟩
def m_Log_backwards_b (ρ : List B) : Option Out := (seqO (onE (((((((getB ρ 0)).bind (fldD "Log" "_judges"))).bind lstOf)).bind fun ds => lcM (.many [2, 3]) [2, 3] (fun ρ => (R.ok true)) (fun ρ => (tupM (consF (getB ρ 2) (consF (((getB ρ 3)).bind (getKD [("rises", "falls"), ("falls", "rises"), ("stays", "stays")])) (R.ok []))))) ρ ds) ρ fun ds => some (.nx (ρ.set 1 (.dat (.list ds))))) fun ρ => (onE ((consT (((getB ρ 0)).bind (fldD "Log" "_item_names")) (consF (((getB ρ 0)).bind (fldD "Log" "_grades")) (consT (getW ρ 1) (consT (R.map (revM (((getB ρ 0)).bind (fldD "Log" "_events"))) PyData.list) (R.ok []))))).bind (callMk "Log" fl_Log___init__ m_Log___init__)) ρ fun d => some (.rt d)))
abbrev fl_Log_backwards : List Bool := []
def m_Log_backwards (ds : List D) : R D := runO (m_Log_backwards_b (start0 4 (false :: fl_Log_backwards) ds))
theorem r_Log_backwards (a0 : D) : m_Log_backwards [a0] = runO (m_Log_backwards_b [.dat a0, .un, .un, .un]) := Eq.trans rfl rfl
theorem c_Log_backwards (a0 : D) : callM (false :: fl_Log_backwards) m_Log_backwards [(false, a0)] = m_Log_backwards [a0] := Eq.trans rfl rfl
/-! _law_drift -/
abbrev s__law_drift : Stmt := topS 32
def N__law_drift : List Str := ["parts", "judge", "name", "drift"]
theorem sc__law_drift : FnScope N__law_drift ["parts", "judge"] (defScope s__law_drift) := ⟨rfl, rfl, rfl, by decide +kernel, rfl, by decide +kernel, by decide +kernel⟩
def m_law_drift_b (ρ : List B) : Option Out := (onE (b2 ixD (R.map (((((b2 ixD (getW ρ 0) (R.ok (PyData.int 2)))).bind lstOf)).bind fun ds => lcM (.many [2, 3]) [2, 3] (fun ρ => ((b2 eqD (getW ρ 2) (getW ρ 1)).bind asB)) (fun ρ => (getB ρ 3)) ρ ds) PyData.list) (R.ok (PyData.int 0))) ρ fun d => some (.rt d))
abbrev fl__law_drift : List Bool := [false, false]
def m_law_drift (ds : List D) : R D := runO (m_law_drift_b (start0 4 fl__law_drift ds))
theorem r__law_drift (a0 : D) (a1 : D) : m_law_drift [a0, a1] = runO (m_law_drift_b [.dat a0, .dat a1, .un, .un]) := Eq.trans rfl rfl
theorem c__law_drift (a0 : D) (a1 : D) : callM (fl__law_drift) m_law_drift [(false, a0), (false, a1)] = m_law_drift [a0, a1] := Eq.trans rfl rfl
/-! _law_stretch_at -/
abbrev s__law_stretch_at : Stmt := topS 33
def N__law_stretch_at : List Str := ["parts", "judge", "place", "found", "at", "low", "high"]
theorem sc__law_stretch_at : FnScope N__law_stretch_at ["parts", "judge", "place"] (defScope s__law_stretch_at) := ⟨rfl, rfl, rfl, by decide +kernel, rfl, by decide +kernel, by decide +kernel⟩
def b1__law_stretch_at (ρ : List B) : Option Out := (seqO (onE (R.map (sortedM (R.map (lstM (consF (getB ρ 4) (consF (getB ρ 2) (R.ok [])))) PyData.list)) PyData.list) ρ fun d => (setUnl [5, 6] d ρ).map .nx) fun ρ => (ifO (bothT ((b2 eqD (sliceTM (b2 ixD (b2 ixD (getW ρ 0) (R.ok (PyData.int 3))) (getB ρ 4)) (R.ok none) (((R.ok (PyData.int 2))).bind asI)) (tupM (consF (R.ok (PyData.str "answer")) (consF (getB ρ 1) (R.ok []))))).bind asB) ((b2 (inD true) (tupM (consF (R.ok (PyData.str "reset")) (consF (getB ρ 1) (R.ok [])))) (R.map (sliceM (b2 ixD (getW ρ 0) (R.ok (PyData.int 3))) (((getB ρ 5)).bind asI) (((getB ρ 6)).bind asI)) PyData.list)).bind asB)) ρ (appE ρ 3 (getB ρ 4)) (some (.nx ρ))))
def m_law_stretch_at_b (ρ : List B) : Option Out := (seqO (onE (lstM (R.ok [])) ρ fun ds => some (.nx (ρ.set 3 (.own ds)))) fun ρ => (seqO (onE (((bcall lenD (consT (b2 ixD (getW ρ 0) (R.ok (PyData.int 3))) (R.ok [])))).bind rng1) ρ fun ds => forO (.one 4) b1__law_stretch_at ds ρ) fun ρ => (letρ (frz 3 ρ) fun ρ => (onE (getB ρ 3) ρ fun d => some (.rt d)))))
abbrev fl__law_stretch_at : List Bool := [false, false, false]
def m_law_stretch_at (ds : List D) : R D := runO (m_law_stretch_at_b (start0 7 fl__law_stretch_at ds))
theorem r__law_stretch_at (a0 : D) (a1 : D) (a2 : D) : m_law_stretch_at [a0, a1, a2] = runO (m_law_stretch_at_b [.dat a0, .dat a1, .dat a2, .un, .un, .un, .un]) := Eq.trans rfl rfl
theorem c__law_stretch_at (a0 : D) (a1 : D) (a2 : D) : callM (fl__law_stretch_at) m_law_stretch_at [(false, a0), (false, a1), (false, a2)] = m_law_stretch_at [a0, a1, a2] := Eq.trans rfl rfl
/-! _law_in_order -/
abbrev s__law_in_order : Stmt := topS 34
def N__law_in_order : List Str := ["parts", "one", "other", "judge", "drift"]
theorem sc__law_in_order : FnScope N__law_in_order ["parts", "one", "other"] (defScope s__law_in_order) := ⟨rfl, rfl, rfl, by decide +kernel, rfl, by decide +kernel, by decide +kernel⟩
def m_law_in_order_b (ρ : List B) : Option Out := (seqO (onE (b2 ixD (b2 ixD (b2 ixD (getW ρ 0) (R.ok (PyData.int 3))) (getB ρ 1)) (R.ok (PyData.int 1))) ρ fun d => some (.nx (ρ.set 3 (.dat d)))) fun ρ => (seqO (ifO ((b2 (inD true) (getW ρ 2) ((consF (getB ρ 0) (consF (getB ρ 3) (consF (getB ρ 1) (R.ok [])))).bind (callM fl__law_stretch_at m_law_stretch_at))).bind asB) ρ (onE (R.ok (PyData.bool false)) ρ fun d => some (.rt d)) (some (.nx ρ))) fun ρ => (seqO (onE ((consF (getB ρ 0) (consF (getB ρ 3) (R.ok []))).bind (callM fl__law_drift m_law_drift)) ρ fun d => some (.nx (ρ.set 4 (.dat d)))) fun ρ => (onE (eitherB (b2 eqD (getW ρ 4) (R.ok (PyData.str "stays"))) (eitherB (bothB (b2 eqD (getW ρ 4) (R.ok (PyData.str "rises"))) (b2 leD (getW ρ 1) (getW ρ 2))) (bothB (b2 eqD (getW ρ 4) (R.ok (PyData.str "falls"))) (b2 geD (getW ρ 1) (getW ρ 2))))) ρ fun d => some (.rt d)))))
abbrev fl__law_in_order : List Bool := [false, false, false]
def m_law_in_order (ds : List D) : R D := runO (m_law_in_order_b (start0 5 fl__law_in_order ds))
theorem r__law_in_order (a0 : D) (a1 : D) (a2 : D) : m_law_in_order [a0, a1, a2] = runO (m_law_in_order_b [.dat a0, .dat a1, .dat a2, .un, .un]) := Eq.trans rfl rfl
theorem c__law_in_order (a0 : D) (a1 : D) (a2 : D) : callM (fl__law_in_order) m_law_in_order [(false, a0), (false, a1), (false, a2)] = m_law_in_order [a0, a1, a2] := Eq.trans rfl rfl
/-! _law_is -/
abbrev s__law_is : Stmt := topS 35
def N__law_is : List Str := ["told", "due"]
theorem sc__law_is : FnScope N__law_is ["told", "due"] (defScope s__law_is) := ⟨rfl, rfl, rfl, by decide +kernel, rfl, by decide +kernel, by decide +kernel⟩
def m_law_is_b (ρ : List B) : Option Out := (onE (bothB (((getB ρ 0)).bind isBoolD) (b2 eqD (getW ρ 0) (getW ρ 1))) ρ fun d => some (.rt d))
abbrev fl__law_is : List Bool := [false, false]
def m_law_is (ds : List D) : R D := runO (m_law_is_b (start0 2 fl__law_is ds))
theorem r__law_is (a0 : D) (a1 : D) : m_law_is [a0, a1] = runO (m_law_is_b [.dat a0, .dat a1]) := Eq.trans rfl rfl
theorem c__law_is (a0 : D) (a1 : D) : callM (fl__law_is) m_law_is [(false, a0), (false, a1)] = m_law_is [a0, a1] := Eq.trans rfl rfl
/-! _law_lost -/
abbrev s__law_lost : Stmt := topS 36
def N__law_lost : List Str := ["parts", "judge", "place", "at", "first", "drift"]
theorem sc__law_lost : FnScope N__law_lost ["parts", "judge", "place", "at", "first"] (defScope s__law_lost) := ⟨rfl, rfl, rfl, by decide +kernel, rfl, by decide +kernel, by decide +kernel⟩
def m_law_lost_b (ρ : List B) : Option Out := (seqO (onE ((consF (getB ρ 0) (consF (getB ρ 1) (R.ok []))).bind (callM fl__law_drift m_law_drift)) ρ fun d => some (.nx (ρ.set 5 (.dat d)))) fun ρ => (seqO (ifO ((b2 (inD true) (getW ρ 3) ((consF (getB ρ 0) (consF (getB ρ 1) (consF (getB ρ 2) (R.ok [])))).bind (callM fl__law_stretch_at m_law_stretch_at))).bind asB) ρ (onE (R.ok (PyData.bool false)) ρ fun d => some (.rt d)) (some (.nx ρ))) fun ρ => (onE (eitherB (b2 eqD (getW ρ 5) (R.ok (PyData.str "stays"))) (b2 eqD (b2 geD (getW ρ 3) (getW ρ 2)) (b2 eqD (getW ρ 4) (b2 eqD (getW ρ 5) (R.ok (PyData.str "rises")))))) ρ fun d => some (.rt d))))
abbrev fl__law_lost : List Bool := [false, false, false, false, false]
def m_law_lost (ds : List D) : R D := runO (m_law_lost_b (start0 6 fl__law_lost ds))
theorem r__law_lost (a0 : D) (a1 : D) (a2 : D) (a3 : D) (a4 : D) : m_law_lost [a0, a1, a2, a3, a4] = runO (m_law_lost_b [.dat a0, .dat a1, .dat a2, .dat a3, .dat a4, .un]) := Eq.trans rfl rfl
theorem c__law_lost (a0 : D) (a1 : D) (a2 : D) (a3 : D) (a4 : D) : callM (fl__law_lost) m_law_lost [(false, a0), (false, a1), (false, a2), (false, a3), (false, a4)] = m_law_lost [a0, a1, a2, a3, a4] := Eq.trans rfl rfl
/-! _law_error -/
abbrev s__law_error : Stmt := topS 37
def N__law_error : List Str := ["log", "kind", "judge", "place", "at", "error"]
theorem sc__law_error : FnScope N__law_error ["log", "kind", "judge", "place", "at"] (defScope s__law_error) := ⟨rfl, rfl, rfl, by decide +kernel, rfl, by decide +kernel, by decide +kernel⟩
def h1__law_error (ρ : List B) : Option Out := (onE (exnC ρ 5 "InvalidPlace" "place") ρ fun d => some (.rt d))
theorem par_h1__law_error : HPar 5 h1__law_error := by
  intro ρ x a cls d
  simp only [h1__law_error, wipeO_onE, exnC_set, getW_setne (i := 5) (j := 0) (by decide), getB_setne (i := 5) (j := 0) (by decide), getW_setne (i := 5) (j := 1) (by decide), getB_setne (i := 5) (j := 1) (by decide), getW_setne (i := 5) (j := 2) (by decide), getB_setne (i := 5) (j := 2) (by decide), getW_setne (i := 5) (j := 3) (by decide), getB_setne (i := 5) (j := 3) (by decide), getW_setne (i := 5) (j := 4) (by decide), getB_setne (i := 5) (j := 4) (by decide)]
  try first
    | rfl
    | (split <;> first | exact wipe_nx | rfl)
def h2__law_error (ρ : List B) : Option Out := (onE (exnC ρ 5 "UnknownJudge" "name") ρ fun d => some (.rt d))
theorem par_h2__law_error : HPar 5 h2__law_error := by
  intro ρ x a cls d
  simp only [h2__law_error, wipeO_onE, exnC_set, getW_setne (i := 5) (j := 0) (by decide), getB_setne (i := 5) (j := 0) (by decide), getW_setne (i := 5) (j := 1) (by decide), getB_setne (i := 5) (j := 1) (by decide), getW_setne (i := 5) (j := 2) (by decide), getB_setne (i := 5) (j := 2) (by decide), getW_setne (i := 5) (j := 3) (by decide), getB_setne (i := 5) (j := 3) (by decide), getW_setne (i := 5) (j := 4) (by decide), getB_setne (i := 5) (j := 4) (by decide)]
  try first
    | rfl
    | (split <;> first | exact wipe_nx | rfl)
def m_law_error_b (ρ : List B) : Option Out := (tryAllO 5 (seqO (ifO ((b2 eqD (getW ρ 1) (R.ok (PyData.int 0))).bind asB) ρ (onE (methM "Log" "in_order" fl_Log_in_order m_Log_in_order (getB ρ 0) (consF (getB ρ 3) (consF (getB ρ 4) (R.ok [])))) ρ fun _ => some (.nx ρ)) (ifO ((b2 eqD (getW ρ 1) (R.ok (PyData.int 1))).bind asB) ρ (onE (methM "Log" "lost_first" fl_Log_lost_first m_Log_lost_first (getB ρ 0) (consF (getB ρ 2) (consF (getB ρ 3) (consF (getB ρ 4) (R.ok []))))) ρ fun _ => some (.nx ρ)) (onE (methM "Log" "lost_second" fl_Log_lost_second m_Log_lost_second (getB ρ 0) (consF (getB ρ 2) (consF (getB ρ 3) (consF (getB ρ 4) (R.ok []))))) ρ fun _ => some (.nx ρ)))) fun ρ => (onE (R.ok PyData.none) ρ fun d => some (.rt d))) [("InvalidPlace", true, h1__law_error), ("UnknownJudge", true, h2__law_error)])
abbrev fl__law_error : List Bool := [false, false, false, false, false]
def m_law_error (ds : List D) : R D := runO (m_law_error_b (start0 6 fl__law_error ds))
theorem r__law_error (a0 : D) (a1 : D) (a2 : D) (a3 : D) (a4 : D) : m_law_error [a0, a1, a2, a3, a4] = runO (m_law_error_b [.dat a0, .dat a1, .dat a2, .dat a3, .dat a4, .un]) := Eq.trans rfl rfl
theorem c__law_error (a0 : D) (a1 : D) (a2 : D) (a3 : D) (a4 : D) : callM (fl__law_error) m_law_error [(false, a0), (false, a1), (false, a2), (false, a3), (false, a4)] = m_law_error [a0, a1, a2, a3, a4] := Eq.trans rfl rfl
/-! law -/
abbrev s_law : Stmt := topS 38
def N_law : List Str := ["script", "numbers", "parts", "log", "events", "many", "answers", "back", "one", "other", "due", "judge", "drift", "place", "at", "kind", "resets"]
theorem sc_law : FnScope N_law ["script"] (defScope s_law) := ⟨rfl, rfl, rfl, by decide +kernel, rfl, by decide +kernel, by decide +kernel⟩
def b1_law (ρ : List B) : Option Out := (seqO (onE ((consF (getB ρ 2) (consF (getB ρ 8) (consF (getB ρ 9) (R.ok [])))).bind (callM fl__law_in_order m_law_in_order)) ρ fun d => some (.nx (ρ.set 10 (.dat d)))) fun ρ => (ifO (eitherT (notT ((((consF (methM "Log" "in_order" fl_Log_in_order m_Log_in_order (getB ρ 3) (consF (getB ρ 8) (consF (getB ρ 9) (R.ok [])))) (consF (getB ρ 10) (R.ok []))).bind (callM fl__law_is m_law_is))).bind asB)) (notT ((((consF (methM "Log" "in_order" fl_Log_in_order m_Log_in_order (getB ρ 7) (consF (b2 subD (b2 subD (getW ρ 5) (R.ok (PyData.int 1))) (getW ρ 8)) (consF (b2 subD (b2 subD (getW ρ 5) (R.ok (PyData.int 1))) (getW ρ 9)) (R.ok [])))) (consF (getB ρ 10) (R.ok []))).bind (callM fl__law_is m_law_is))).bind asB))) ρ (onE (R.ok (PyData.bool false)) ρ fun d => some (.rt d)) (some (.nx ρ))))
def b2_law (ρ : List B) : Option Out := (onE (getK ρ 6) ρ fun ds => forO (.one 9) b1_law ds ρ)
def b3_law (ρ : List B) : Option Out := (seqO (ifO (notT ((((consF (methM "Log" "lost_first" fl_Log_lost_first m_Log_lost_first (getB ρ 3) (consF (getB ρ 11) (consF (getB ρ 13) (consF (getB ρ 14) (R.ok []))))) (consF ((consF (getB ρ 2) (consF (getB ρ 11) (consF (getB ρ 13) (consF (getB ρ 14) (consF (R.ok (PyData.bool true)) (R.ok [])))))).bind (callM fl__law_lost m_law_lost)) (R.ok []))).bind (callM fl__law_is m_law_is))).bind asB)) ρ (onE (R.ok (PyData.bool false)) ρ fun d => some (.rt d)) (some (.nx ρ))) fun ρ => (ifO (notT ((((consF (methM "Log" "lost_second" fl_Log_lost_second m_Log_lost_second (getB ρ 3) (consF (getB ρ 11) (consF (getB ρ 13) (consF (getB ρ 14) (R.ok []))))) (consF ((consF (getB ρ 2) (consF (getB ρ 11) (consF (getB ρ 13) (consF (getB ρ 14) (consF (R.ok (PyData.bool false)) (R.ok [])))))).bind (callM fl__law_lost m_law_lost)) (R.ok []))).bind (callM fl__law_is m_law_is))).bind asB)) ρ (onE (R.ok (PyData.bool false)) ρ fun d => some (.rt d)) (some (.nx ρ))))
def b4_law (ρ : List B) : Option Out := (onE (getK ρ 6) ρ fun ds => forO (.one 14) b3_law ds ρ)
def b5_law (ρ : List B) : Option Out := (onE (((b2 addD (getW ρ 5) (R.ok (PyData.int 1)))).bind rng1) ρ fun ds => forO (.one 13) b4_law ds ρ)
def b6_law (ρ : List B) : Option Out := (seqO (ifO (eitherT ((b2 neD ((consF (getB ρ 3) (consF (getB ρ 15) (consF (R.ok (PyData.str "nobody")) (consF (((R.ok (PyData.int 1))).bind negD) (consF (((R.ok (PyData.int 1))).bind negD) (R.ok [])))))).bind (callM fl__law_error m_law_error)) (R.ok (PyData.str "nobody"))).bind asB) ((b2 neD ((consF (getB ρ 3) (consF (getB ρ 15) (consF (getB ρ 11) (consF (((R.ok (PyData.int 1))).bind negD) (consF (getB ρ 5) (R.ok [])))))).bind (callM fl__law_error m_law_error)) (((R.ok (PyData.int 1))).bind negD)).bind asB)) ρ (onE (R.ok (PyData.bool false)) ρ fun d => some (.rt d)) (some (.nx ρ))) fun ρ => (ifO (eitherT ((b2 neD ((consF (getB ρ 3) (consF (getB ρ 15) (consF (getB ρ 11) (consF (b2 addD (getW ρ 5) (R.ok (PyData.int 1))) (consF (((R.ok (PyData.int 2))).bind negD) (R.ok [])))))).bind (callM fl__law_error m_law_error)) (b2 addD (getW ρ 5) (R.ok (PyData.int 1)))).bind asB) ((b2 neD ((consF (getB ρ 3) (consF (getB ρ 15) (consF (getB ρ 11) (consF (R.ok (PyData.int 0)) (consF (getB ρ 5) (R.ok [])))))).bind (callM fl__law_error m_law_error)) (getW ρ 5)).bind asB)) ρ (onE (R.ok (PyData.bool false)) ρ fun d => some (.rt d)) (some (.nx ρ))))
def m_law_b (ρ : List B) : Option Out := (seqO (onE ((consT (getW ρ 0) (consF (R.ok (PyData.int 60)) (R.ok []))).bind (callM fl__law_numbers m_law_numbers)) ρ fun d => some (.nx (ρ.set 1 (.dat d)))) fun ρ => (seqO (onE ((consF (getB ρ 1) (consF (R.ok (PyData.int 0)) (consF (R.ok (PyData.int 5)) (consF (R.ok (PyData.int 12)) (R.ok []))))).bind (callM fl__law_parts m_law_parts)) ρ fun d => some (.nx (ρ.set 2 (.dat d)))) fun ρ => (seqO (onE ((consF (getB ρ 2) (R.ok [])).bind (callM fl__law_log m_law_log)) ρ fun d => some (.nx (ρ.set 3 (.dat d)))) fun ρ => (seqO (onE (b2 ixD (getW ρ 2) (R.ok (PyData.int 3))) ρ fun d => some (.nx (ρ.set 4 (.dat d)))) fun ρ => (seqO (onE (bcall lenD (consT (getW ρ 4) (R.ok []))) ρ fun d => some (.nx (ρ.set 5 (.dat d)))) fun ρ => (seqO (onE (((((getB ρ 5)).bind rng1)).bind fun ds => lcM (.one 14) [14] (fun ρ => ((b2 eqD (b2 ixD (b2 ixD (getW ρ 4) (getB ρ 14)) (R.ok (PyData.int 0))) (R.ok (PyData.str "answer"))).bind asB)) (fun ρ => (getB ρ 14)) ρ ds) ρ fun ds => some (.nx (ρ.set 6 (.dat (.list ds))))) fun ρ => (seqO (onE (methM0 "Log" "backwards" m_Log_backwards (getB ρ 3)) ρ fun d => some (.nx (ρ.set 7 (.dat d)))) fun ρ => (seqO (onE (getK ρ 6) ρ fun ds => forO (.one 8) b2_law ds ρ) fun ρ => (seqO (onE (((b2 ixD (getW ρ 2) (R.ok (PyData.int 2)))).bind lstOf) ρ fun ds => forO (.many [11, 12]) b5_law ds ρ) fun ρ => (seqO (onE (b2 ixD (b2 ixD (b2 ixD (getW ρ 2) (R.ok (PyData.int 2))) (R.ok (PyData.int 0))) (R.ok (PyData.int 0))) ρ fun d => some (.nx (ρ.set 11 (.dat d)))) fun ρ => (seqO (onE (((R.map (lstM (consF (R.ok (PyData.int 1)) (consF (R.ok (PyData.int 2)) (R.ok [])))) PyData.list)).bind lstOf) ρ fun ds => forO (.one 15) b6_law ds ρ) fun ρ => (seqO (onE (R.map (catM (R.map (((((getB ρ 5)).bind rng1)).bind fun ds => lcM (.one 14) [14] (fun ρ => ((b2 eqD (b2 ixD (b2 ixD (getW ρ 4) (getB ρ 14)) (R.ok (PyData.int 0))) (R.ok (PyData.str "reset"))).bind asB)) (fun ρ => (getB ρ 14)) ρ ds) PyData.list) (R.map (lstM (consF (getB ρ 5) (R.ok []))) PyData.list)) PyData.list) ρ fun d => some (.nx (ρ.set 16 (.dat d)))) fun ρ => (onE (bothB (b2 eqD ((consF (getB ρ 3) (consF (R.ok (PyData.int 0)) (consF (getB ρ 11) (consF (b2 ixD (getW ρ 16) (R.ok (PyData.int 0))) (consF (((R.ok (PyData.int 5))).bind negD) (R.ok [])))))).bind (callM fl__law_error m_law_error)) (b2 ixD (getW ρ 16) (R.ok (PyData.int 0)))) (b2 eqD ((consF (getB ρ 3) (consF (R.ok (PyData.int 0)) (consF (getB ρ 11) (consF (((R.ok (PyData.int 1))).bind negD) (consF (getB ρ 5) (R.ok [])))))).bind (callM fl__law_error m_law_error)) (((R.ok (PyData.int 1))).bind negD))) ρ fun d => some (.rt d))))))))))))))
abbrev fl_law : List Bool := [true]
def m_law (ds : List D) : R D := runO (m_law_b (start0 17 fl_law ds))
theorem r_law (a0 : List D) : m_law [.list a0] = runO (m_law_b [.wk a0, .un, .un, .un, .un, .un, .un, .un, .un, .un, .un, .un, .un, .un, .un, .un, .un]) := Eq.trans rfl rfl
theorem c_law (a0 : D) : callM (fl_law) m_law [(true, a0)] = m_law [a0] := Eq.trans rfl rfl
abbrev s_x_UnknownJudge : Stmt := inClass (topS 4) 0
theorem sc_x_UnknownJudge : FnScope ["self", "name"] ["self", "name"] (defScope s_x_UnknownJudge) := ⟨rfl, rfl, rfl, by decide +kernel, rfl, by decide +kernel, by decide +kernel⟩
abbrev s_x_InvalidPlace : Stmt := inClass (topS 5) 0
theorem sc_x_InvalidPlace : FnScope ["self", "place"] ["self", "place"] (defScope s_x_InvalidPlace) := ⟨rfl, rfl, rfl, by decide +kernel, rfl, by decide +kernel, by decide +kernel⟩
structure Tx (w : World) (K : PySem.W.Frag) (mg : Str → Option Value) : Prop where
  b_abs : mg "abs" = none
  b_all : mg "all" = none
  b_bool : mg "bool" = none
  b_enumerate : mg "enumerate" = none
  b_int : mg "int" = none
  b_isinstance : mg "isinstance" = none
  b_len : mg "len" = none
  b_list : mg "list" = none
  b_max : mg "max" = none
  b_range : mg "range" = none
  b_sorted : mg "sorted" = none
  c_DRIFTS : GlobC K mg "DRIFTS" g_DRIFTS
  c_LONGEST_NAME : GlobC K mg "LONGEST_NAME" g_LONGEST_NAME
  c_MOST_EVENTS : GlobC K mg "MOST_EVENTS" g_MOST_EVENTS
  c_MOST_GRADES : GlobC K mg "MOST_GRADES" g_MOST_GRADES
  c_MOST_ITEMS : GlobC K mg "MOST_ITEMS" g_MOST_ITEMS
  c_MOST_JUDGES : GlobC K mg "MOST_JUDGES" g_MOST_JUDGES
  c_NAME_SIGNS : GlobC K mg "NAME_SIGNS" g_NAME_SIGNS
  x_InvalidLog : ExcT K mg "InvalidLog"
  f_Log__item_names : ClsF K mg "Log" "_item_names"
  f_Log__grades : ClsF K mg "Log" "_grades"
  f_Log__judges : ClsF K mg "Log" "_judges"
  f_Log__events : ClsF K mg "Log" "_events"
  f_Log__drifts : ClsF K mg "Log" "_drifts"
  f_Log__resets : ClsF K mg "Log" "_resets"
  k_TURNED_DRIFTS : KdictC K w mg "TURNED_DRIFTS" [("rises", "falls"), ("falls", "rises"), ("stays", "stays")]
  tk_InvalidPlace : Takes1 K mg "InvalidPlace"
  xf_InvalidPlace_place : ExcF K mg "InvalidPlace" "place"
  tk_UnknownJudge : Takes1 K mg "UnknownJudge"
  xf_UnknownJudge_name : ExcF K mg "UnknownJudge" "name"
  pt_InvalidPlace_UnknownJudge : Parts2 K mg "InvalidPlace" "UnknownJudge"
  d__law_row : ∃ f fd, Fun K "_law_row" "_law_row" s__law_row f fd ∧ mg "_law_row" = some (.ref f) ∧ Binds K fd ["cell", "many"] []
  d__law_numbers : ∃ f fd, Fun K "_law_numbers" "_law_numbers" s__law_numbers f fd ∧ mg "_law_numbers" = some (.ref f) ∧ Binds K fd ["script", "many"] []
  d__law_parts : ∃ f fd, Fun K "_law_parts" "_law_parts" s__law_parts f fd ∧ mg "_law_parts" = some (.ref f) ∧ Binds K fd ["numbers", "at", "many", "more"] []
  d_is_name : ∃ f fd, Fun K "is_name" "is_name" s_is_name f fd ∧ mg "is_name" = some (.ref f) ∧ Binds K fd ["text"] []
  d_is_drift : ∃ f fd, Fun K "is_drift" "is_drift" s_is_drift f fd ∧ mg "is_drift" = some (.ref f) ∧ Binds K fd ["word"] []
  d_is_highest_grade : ∃ f fd, Fun K "is_highest_grade" "is_highest_grade" s_is_highest_grade f fd ∧ mg "is_highest_grade" = some (.ref f) ∧ Binds K fd ["grade"] []
  d_may_follow : ∃ f fd, Fun K "may_follow" "may_follow" s_may_follow f fd ∧ mg "may_follow" = some (.ref f) ∧ Binds K fd ["name", "names", "most"] []
  d_is_event : ∃ f fd, Fun K "is_event" "is_event" s_is_event f fd ∧ mg "is_event" = some (.ref f) ∧ Binds K fd ["event", "items", "grades", "judge_names"] []
  d__check_names : ∃ f fd, Fun K "_check_names" "_check_names" s__check_names f fd ∧ mg "_check_names" = some (.ref f) ∧ Binds K fd ["names", "most", "what"] []
  d__check_judges : ∃ f fd, Fun K "_check_judges" "_check_judges" s__check_judges f fd ∧ mg "_check_judges" = some (.ref f) ∧ Binds K fd ["judges"] []
  d__check_log : ∃ f fd, Fun K "_check_log" "_check_log" s__check_log f fd ∧ mg "_check_log" = some (.ref f) ∧ Binds K fd ["items", "grades", "judges", "events"] []
  d__resets_ahead : ∃ f fd, Fun K "_resets_ahead" "_resets_ahead" s__resets_ahead f fd ∧ mg "_resets_ahead" = some (.ref f) ∧ Binds K fd ["events"] []
  d_Log___init__ : ∃ C f fd, Fun K "__init__" "Log.__init__" s_Log___init__ f fd ∧ mg "Log" = some (.ref C) ∧ Mk K C f ∧ Binds K fd ["self", "items", "grades", "judges", "events"] []
  d__law_log : ∃ f fd, Fun K "_law_log" "_law_log" s__law_log f fd ∧ mg "_law_log" = some (.ref f) ∧ Binds K fd ["parts"] []
  d_are_in_order : ∃ f fd, Fun K "are_in_order" "are_in_order" s_are_in_order f fd ∧ mg "are_in_order" = some (.ref f) ∧ Binds K fd ["drift", "one", "other"] []
  d_Log_answers : ∃ C f fd, Fun K "answers" "Log.answers" s_Log_answers f fd ∧ mg "Log" = some (.ref C) ∧ Cls K C ∧ Meth K C "answers" f ∧ Binds K fd ["self"] []
  d_Log_is_answer : ∃ C f fd, Fun K "is_answer" "Log.is_answer" s_Log_is_answer f fd ∧ mg "Log" = some (.ref C) ∧ Cls K C ∧ Meth K C "is_answer" f ∧ Binds K fd ["self", "place"] []
  d_Log__need_judge : ∃ C f fd, Fun K "_need_judge" "Log._need_judge" s_Log__need_judge f fd ∧ mg "Log" = some (.ref C) ∧ Cls K C ∧ Meth K C "_need_judge" f ∧ Binds K fd ["self", "judge"] []
  d_Log__need_answer : ∃ C f fd, Fun K "_need_answer" "Log._need_answer" s_Log__need_answer f fd ∧ mg "Log" = some (.ref C) ∧ Cls K C ∧ Meth K C "_need_answer" f ∧ Binds K fd ["self", "place"] []
  d_Log__need_lost_place : ∃ C f fd, Fun K "_need_lost_place" "Log._need_lost_place" s_Log__need_lost_place f fd ∧ mg "Log" = some (.ref C) ∧ Cls K C ∧ Meth K C "_need_lost_place" f ∧ Binds K fd ["self", "place"] []
  d_Log_answers_of : ∃ C f fd, Fun K "answers_of" "Log.answers_of" s_Log_answers_of f fd ∧ mg "Log" = some (.ref C) ∧ Cls K C ∧ Meth K C "answers_of" f ∧ Binds K fd ["self", "judge"] []
  d_Log__stretch_behind : ∃ C f fd, Fun K "_stretch_behind" "Log._stretch_behind" s_Log__stretch_behind f fd ∧ mg "Log" = some (.ref C) ∧ Cls K C ∧ Meth K C "_stretch_behind" f ∧ Binds K fd ["self", "judge", "resets"] []
  d_Log_stretch_at : ∃ C f fd, Fun K "stretch_at" "Log.stretch_at" s_Log_stretch_at f fd ∧ mg "Log" = some (.ref C) ∧ Cls K C ∧ Meth K C "stretch_at" f ∧ Binds K fd ["self", "judge", "place"] []
  d_Log_in_order : ∃ C f fd, Fun K "in_order" "Log.in_order" s_Log_in_order f fd ∧ mg "Log" = some (.ref C) ∧ Cls K C ∧ Meth K C "in_order" f ∧ Binds K fd ["self", "one", "other"] []
  d_Log_lost_first : ∃ C f fd, Fun K "lost_first" "Log.lost_first" s_Log_lost_first f fd ∧ mg "Log" = some (.ref C) ∧ Cls K C ∧ Meth K C "lost_first" f ∧ Binds K fd ["self", "judge", "place", "at"] []
  d_Log_lost_second : ∃ C f fd, Fun K "lost_second" "Log.lost_second" s_Log_lost_second f fd ∧ mg "Log" = some (.ref C) ∧ Cls K C ∧ Meth K C "lost_second" f ∧ Binds K fd ["self", "judge", "place", "at"] []
  d_Log_backwards : ∃ C f fd, Fun K "backwards" "Log.backwards" s_Log_backwards f fd ∧ mg "Log" = some (.ref C) ∧ Cls K C ∧ Meth K C "backwards" f ∧ Binds K fd ["self"] []
  d__law_drift : ∃ f fd, Fun K "_law_drift" "_law_drift" s__law_drift f fd ∧ mg "_law_drift" = some (.ref f) ∧ Binds K fd ["parts", "judge"] []
  d__law_stretch_at : ∃ f fd, Fun K "_law_stretch_at" "_law_stretch_at" s__law_stretch_at f fd ∧ mg "_law_stretch_at" = some (.ref f) ∧ Binds K fd ["parts", "judge", "place"] []
  d__law_in_order : ∃ f fd, Fun K "_law_in_order" "_law_in_order" s__law_in_order f fd ∧ mg "_law_in_order" = some (.ref f) ∧ Binds K fd ["parts", "one", "other"] []
  d__law_is : ∃ f fd, Fun K "_law_is" "_law_is" s__law_is f fd ∧ mg "_law_is" = some (.ref f) ∧ Binds K fd ["told", "due"] []
  d__law_lost : ∃ f fd, Fun K "_law_lost" "_law_lost" s__law_lost f fd ∧ mg "_law_lost" = some (.ref f) ∧ Binds K fd ["parts", "judge", "place", "at", "first"] []
  d__law_error : ∃ f fd, Fun K "_law_error" "_law_error" s__law_error f fd ∧ mg "_law_error" = some (.ref f) ∧ Binds K fd ["log", "kind", "judge", "place", "at"] []
  d_law : ∃ f fd, Fun K "law" "law" s_law f fd ∧ mg "law" = some (.ref f) ∧ Binds K fd ["script"] []
  dx_UnknownJudge : ∃ C f fd, Fun K "__init__" "UnknownJudge.__init__" s_x_UnknownJudge f fd ∧ mg "UnknownJudge" = some (.ref C) ∧ OexC K C ∧ PySem.W.findIn K (.ref C) "__init__" = some (some (.ref f)) ∧ PySem.W.typeIn K (.ref f) = some (.type "function") ∧ PySem.W.findIn K (.ref C) "name" = some none ∧ Binds K fd ["self", "name"] []
  dx_InvalidPlace : ∃ C f fd, Fun K "__init__" "InvalidPlace.__init__" s_x_InvalidPlace f fd ∧ mg "InvalidPlace" = some (.ref C) ∧ OexC K C ∧ PySem.W.findIn K (.ref C) "__init__" = some (some (.ref f)) ∧ PySem.W.typeIn K (.ref f) = some (.type "function") ∧ PySem.W.findIn K (.ref C) "place" = some none ∧ Binds K fd ["self", "place"] []
section
variable {P : Program} {w : World} {K : PySem.W.Frag} {mg : Str → Option Value} {base : Heap}
theorem t_x_UnknownJudge (T : Tx w K mg) : ExcI P w K mg base "UnknownJudge" "name" := by
  obtain ⟨C, f, fd, F, hm, oC, iC, tI, nf, hb⟩ := T.dx_UnknownJudge
  refine ⟨C, f, fd, ["self", "name"], hm, oC, iC, tI, F.okX sc_x_UnknownJudge (fun vs H Q E h => ?_) (fun cdv A outer s H vs Q E hr h => ?_), hb⟩
  · obtain ⟨a, v, rfl, _⟩ := h
    rfl
  · obtain ⟨a, v, rfl, ha, k⟩ := h
    refine ⟨_, pss_one (ps_ost (pv 0) (pv 1)), ?_⟩
    exact ⟨_, rfl, _, rfl, a, C, rfl, oC, nf, .inl ⟨ha, fun dx h1 h2 => k dx h1 h2⟩⟩
theorem t_x_InvalidPlace (T : Tx w K mg) : ExcI P w K mg base "InvalidPlace" "place" := by
  obtain ⟨C, f, fd, F, hm, oC, iC, tI, nf, hb⟩ := T.dx_InvalidPlace
  refine ⟨C, f, fd, ["self", "place"], hm, oC, iC, tI, F.okX sc_x_InvalidPlace (fun vs H Q E h => ?_) (fun cdv A outer s H vs Q E hr h => ?_), hb⟩
  · obtain ⟨a, v, rfl, _⟩ := h
    rfl
  · obtain ⟨a, v, rfl, ha, k⟩ := h
    refine ⟨_, pss_one (ps_ost (pv 0) (pv 1)), ?_⟩
    exact ⟨_, rfl, _, rfl, a, C, rfl, oC, nf, .inl ⟨ha, fun dx h1 h2 => k dx h1 h2⟩⟩
theorem t__law_row (T : Tx w K mg) : FnT P w K mg base "_law_row" 1 fl__law_row m_law_row := by
  obtain ⟨f, fd, F, hm, hb⟩ := T.d__law_row
  refine ⟨f, fd, ["cell", "many"], def_ok (N := N__law_row) (m := m_law_row_b) F sc__law_row rfl (by decide) (fun cdv A outer s H E ρ hr kx => ?_), hm, F.kp, hb⟩
  exact (css_cons (cs_setF 2 sc__law_row.nd (cf_lst ca_nil)) (fun ρ => (css_cons (cs_set 3 sc__law_row.nd ce_int) (fun ρ => (css_cons (cs_if (ct_cmp op_ge ok_intB (RB.CE.w (ce_callB call_abs ok_abs T.b_abs (by decide +kernel) (ca_cons (ce_var 0) ca_nil))) (RB.CE.w (ce_op op_pow (ok_intC okpow) (RB.CE.w ce_int) (RB.CE.w ce_int))) (nomark _)) (css_one (cs_set 3 sc__law_row.nd (ce_callB call_abs ok_abs T.b_abs (by decide +kernel) (ca_cons (ce_var 0) ca_nil)))) css_nil) (fun ρ => (css_cons (cs_set 4 sc__law_row.nd (ce_op op_modN (ok_intC okmod) (RB.CE.w (ce_callTy call_int1 ok_int T.b_int (by decide +kernel) (ca_cons (ce_callB call_abs ok_abs T.b_abs (by decide +kernel) (ca_cons (ce_var 0) ca_nil)) ca_nil))) (RB.CE.w ce_int))) (fun ρ => (css_cons (cs_for (t := (.one 5)) (bo := b1__law_row) kx (ci_range1 T.b_range (ce_var 1)) (pg_name (i := 5) sc__law_row.nd rfl (by first | exact Or.inl rfl | exact Or.inr rfl)) (fun ρ => (css_cons (cs_set 4 sc__law_row.nd (ce_op op_modN (ok_intC okmod) (RB.CE.w (ce_callTy call_int1 ok_int T.b_int (by decide +kernel) (ca_cons (ce_op op_add ok_intI (RB.CE.w (ce_op op_mulW (ok_intC okmul) (RB.CE.w (ce_op op_add ok_intI (cw_var 4) (RB.CE.w ce_int))) (RB.CE.w ce_int))) (RB.CE.w (ce_op op_mulW (ok_intC okmul) (RB.CE.w ce_int) (cw_var 5)))) ca_nil))) (RB.CE.w ce_int))) (fun ρ => (css_one (cs_if (ct_cmp op_gt ok_intB (cw_var 3) (RB.CE.w ce_int) (nomark _)) (css_cons (cs_append 2 (ce_op op_modN (ok_intC okmod) (RB.CE.w (ce_callTy call_int1 ok_int T.b_int (by decide +kernel) (ca_cons (ce_var 3) ca_nil))) (RB.CE.w ce_int))) (fun ρ => (css_one (cs_set 3 sc__law_row.nd (ce_op op_fdivN (ok_intC okfdiv) (cw_var 3) (RB.CE.w ce_int)))))) (css_one (cs_append 2 (ce_op op_modN (ok_intC okmod) (RB.CE.w (ce_callTy call_int1 ok_int T.b_int (by decide +kernel) (ca_cons (ce_op op_fdivN (ok_intC okfdiv) (cw_var 4) (RB.CE.w ce_int)) ca_nil))) (RB.CE.w ce_int)))))))))) (fun ρ => (css_frz 2 ((css_one (cs_ret (ce_var 2)))))))))))))))
theorem t__law_numbers (T : Tx w K mg) : FnT P w K mg base "_law_numbers" 2 fl__law_numbers m_law_numbers := by
  obtain ⟨f, fd, F, hm, hb⟩ := T.d__law_numbers
  refine ⟨f, fd, ["script", "many"], def_ok (N := N__law_numbers) (m := m_law_numbers_b) F sc__law_numbers rfl (by decide) (fun cdv A outer s H E ρ hr kx => ?_), hm, F.kp, hb⟩
  exact (css_cons (cs_set 2 sc__law_numbers.nd (RB.CF.ce (cf_slice (cw_var 0) co_none (co_some ce_int)))) (fun ρ => (css_cons (cs_set 3 sc__law_numbers.nd (ce_op op_add ok_intI (RB.CE.w ce_int) (RB.CE.w (ce_op op_fdivN (ok_intC okfdiv) (cw_var 1) (RB.CE.w (ce_callB (call_max2 kx.calm) ok_max T.b_max (by decide +kernel) (ca_cons ce_int (ca_cons (ce_callB call_len ok_len T.b_len PySem.boot_len (ca_consW (cw_var 2) ca_nil)) ca_nil)))))))) (fun ρ => (css_cons (cs_setF 4 sc__law_numbers.nd (cf_lst ca_nil)) (fun ρ => (css_cons (cs_for (t := (.one 5)) (bo := b2__law_numbers) kx (ci_var 2) (pg_name (i := 5) sc__law_numbers.nd rfl (by first | exact Or.inl rfl | exact Or.inr rfl)) (fun ρ => (css_one (cs_for (t := (.one 6)) (bo := b1__law_numbers) kx (ci_list (ce_call kx.tk (t__law_row T) (hr.mono (by decide)) (ca_cons (ce_var 5) (ca_cons (ce_var 3) ca_nil)))) (pg_name (i := 6) sc__law_numbers.nd rfl (by first | exact Or.inl rfl | exact Or.inr rfl)) (fun ρ => (css_one (cs_append 4 (ce_var 6)))))))) (fun ρ => (css_cons (cs_while 100000 (te := fun ρ => ((b2 ltD (bcall lenD (consT (getW ρ 4) (R.ok []))) (getW ρ 1)).bind asB)) (bo := b3__law_numbers) kx (fun ρ => (ct_cmp op_lt ok_intB (RB.CE.w (ce_callB call_len ok_len T.b_len PySem.boot_len (ca_consW (cw_var 4) ca_nil))) (cw_var 1) (nomark _))) (fun ρ => (css_one (cs_append 4 ce_int)))) (fun ρ => (css_one (cs_ret (RB.CF.ce (cf_slice (cw_var 4) co_none (co_some (ce_var 1))))))))))))))))
theorem t__law_parts (T : Tx w K mg) : FnT P w K mg base "_law_parts" 1 fl__law_parts m_law_parts := by
  obtain ⟨f, fd, F, hm, hb⟩ := T.d__law_parts
  refine ⟨f, fd, ["numbers", "at", "many", "more"], def_ok (N := N__law_parts) (m := m_law_parts_b) F sc__law_parts rfl (by decide) (fun cdv A outer s H E ρ hr kx => ?_), hm, F.kp, hb⟩
  exact (css_cons (cs_set 4 sc__law_parts.nd (RB.CF.ce (cf_slice (RB.CE.w (RB.CF.ce (cf_lst (ca_cons ce_str (ca_cons ce_str (ca_cons ce_str (ca_cons ce_str (ca_cons ce_str (ca_cons ce_str (ca_cons ce_str (ca_cons ce_str ca_nil))))))))))) co_none (co_some (ce_op op_add ok_intI (RB.CE.w ce_int) (RB.CE.w (ce_op op_modN (ok_intC okmod) (RB.CE.w (ce_callTy call_int1 ok_int T.b_int (by decide +kernel) (ca_cons (ce_ix (cw_var 0) (ce_var 1)) ca_nil))) (cw_var 2)))))))) (fun ρ => (css_cons (cs_set 5 sc__law_parts.nd (ce_ix (RB.CE.w (RB.CF.ce (cf_lst (ca_cons ce_int (ca_cons ce_int (ca_cons ce_int (ca_cons ce_int (ca_cons ce_int ca_nil)))))))) (ce_op op_modN (ok_intC okmod) (RB.CE.w (ce_callTy call_int1 ok_int T.b_int (by decide +kernel) (ca_cons (ce_ix (cw_var 0) (ce_op op_add ok_intI (cw_var 1) (RB.CE.w ce_int))) ca_nil))) (RB.CE.w ce_int)))) (fun ρ => (css_cons (cs_setF 6 sc__law_parts.nd (cf_lst ca_nil)) (fun ρ => (css_cons (cs_for (t := (.one 7)) (bo := b1__law_parts) kx (ci_range1 T.b_range (ce_op op_add ok_intI (RB.CE.w ce_int) (RB.CE.w (ce_op op_modN (ok_intC okmod) (RB.CE.w (ce_callTy call_int1 ok_int T.b_int (by decide +kernel) (ca_cons (ce_ix (cw_var 0) (ce_op op_add ok_intI (cw_var 1) (RB.CE.w ce_int))) ca_nil))) (RB.CE.w ce_int))))) (pg_name (i := 7) sc__law_parts.nd rfl (by first | exact Or.inl rfl | exact Or.inr rfl)) (fun ρ => (css_one (cs_append 6 (ce_tup (ca_cons (ce_ix (RB.CE.w (RB.CF.ce (cf_lst (ca_cons ce_str (ca_cons ce_str (ca_cons ce_str ca_nil)))))) (ce_var 7)) (ca_cons (ce_ix (RB.CE.w (RB.CF.ce (cf_lst (ca_cons ce_str (ca_cons ce_str (ca_cons ce_str ca_nil)))))) (ce_op op_modN (ok_intC okmod) (RB.CE.w (ce_callTy call_int1 ok_int T.b_int (by decide +kernel) (ca_cons (ce_ix (cw_var 0) (ce_op op_add ok_intI (RB.CE.w (ce_op op_add ok_intI (cw_var 1) (RB.CE.w ce_int))) (cw_var 7))) ca_nil))) (RB.CE.w ce_int))) ca_nil))))))) (fun ρ => (css_cons (cs_setF 8 sc__law_parts.nd (cf_lst ca_nil)) (fun ρ => (css_cons (cs_for (t := (.one 7)) (bo := b2__law_parts) kx (ci_range1 T.b_range (ce_op op_modN (ok_intC okmod) (RB.CE.w (ce_callTy call_int1 ok_int T.b_int (by decide +kernel) (ca_cons (ce_ix (cw_var 0) (ce_op op_add ok_intI (cw_var 1) (RB.CE.w ce_int))) ca_nil))) (RB.CE.w (ce_op op_add ok_intI (cw_var 3) (RB.CE.w ce_int))))) (pg_name (i := 7) sc__law_parts.nd rfl (by first | exact Or.inl rfl | exact Or.inr rfl)) (fun ρ => (css_cons (cs_set 9 sc__law_parts.nd (ce_op op_add ok_intI (RB.CE.w (ce_op op_add ok_intI (cw_var 1) (RB.CE.w ce_int))) (RB.CE.w (ce_op op_mulW (ok_intC okmul) (RB.CE.w ce_int) (cw_var 7))))) (fun ρ => (css_cons (cs_set 10 sc__law_parts.nd (ce_ix (RB.CE.w (ce_ix (cw_var 6) (ce_op op_modN (ok_intC okmod) (RB.CE.w (ce_callTy call_int1 ok_int T.b_int (by decide +kernel) (ca_cons (ce_ix (cw_var 0) (ce_var 9)) ca_nil))) (RB.CE.w (ce_callB call_len ok_len T.b_len PySem.boot_len (ca_consW (cw_var 6) ca_nil)))))) ce_int)) (fun ρ => (css_one (cs_if (ct_cmp (op_eqD (hu64 hr)) ok_eqD (RB.CE.w (ce_op op_modN (ok_intC okmod) (RB.CE.w (ce_op op_fdivN (ok_intC okfdiv) (RB.CE.w (ce_callTy call_int1 ok_int T.b_int (by decide +kernel) (ca_cons (ce_ix (cw_var 0) (ce_var 9)) ca_nil))) (RB.CE.w ce_int))) (RB.CE.w ce_int))) (RB.CE.w ce_int) (nomark _)) (css_one (cs_append 8 (ce_tup (ca_cons ce_str (ca_cons (ce_var 10) ca_nil))))) (css_one (cs_append 8 (ce_tup (ca_cons ce_str (ca_cons (ce_var 10) (ca_cons (ce_ix (cw_var 4) (ce_op op_modN (ok_intC okmod) (RB.CE.w (ce_callTy call_int1 ok_int T.b_int (by decide +kernel) (ca_cons (ce_ix (cw_var 0) (ce_op op_add ok_intI (cw_var 9) (RB.CE.w ce_int))) ca_nil))) (RB.CE.w (ce_callB call_len ok_len T.b_len PySem.boot_len (ca_consW (cw_var 4) ca_nil))))) (ca_cons (ce_op op_modN (ok_intC okmod) (RB.CE.w (ce_callTy call_int1 ok_int T.b_int (by decide +kernel) (ca_cons (ce_ix (cw_var 0) (ce_op op_add ok_intI (cw_var 9) (RB.CE.w ce_int))) ca_nil))) (RB.CE.w (ce_op op_add ok_intI (cw_var 5) (RB.CE.w ce_int)))) ca_nil))))))))))))))) (fun ρ => (css_frz 8 ((css_frz 6 ((css_one (cs_ret (ce_tup (ca_cons (ce_var 4) (ca_cons (ce_var 5) (ca_cons (ce_var 6) (ca_cons (ce_var 8) ca_nil)))))))))))))))))))))))
theorem t_is_name (T : Tx w K mg) : FnT P w K mg base "is_name" 1 fl_is_name m_is_name := by
  obtain ⟨f, fd, F, hm, hb⟩ := T.d_is_name
  refine ⟨f, fd, ["text"], def_ok (N := N_is_name) (m := m_is_name_b) F sc_is_name rfl (by decide) (fun cdv A outer s H E ρ hr kx => ?_), hm, F.kp, hb⟩
  exact (css_one (cs_ret (ce_and (ce_chain op_le ok_intB op_le ok_intB (RB.CE.w ce_int) (RB.CE.w (ce_callB call_len ok_len T.b_len PySem.boot_len (ca_consW (cw_var 0) ca_nil))) (RB.CE.w (ce_glob T.c_LONGEST_NAME))) (ce_one (ce_callB (cr_all kx.calm) ok_all T.b_all (by decide +kernel) (ca_consW (RB.CE.w (RB.CF.ce (cf_lc kx.calm sc_is_name.nd (ci_str (ce_var 0)) (blkOk_by (own := [("sign", 1)]) (N := N_is_name) (sc := defScope s_is_name) (by decide +kernel)) (t := (.one 1)) (fun _ _ _ _ _ => (pg_name (i := 1) sc_is_name.nd rfl (by first | exact Or.inl rfl | exact Or.inr rfl))) (fun _ _ _ _ _ ρ => cps_nil) (fun _ _ _ _ _ ρ => (ce_cmp op_in_sign ok_inS (cw_var 1) (RB.CE.w (ce_glob T.c_NAME_SIGNS)) (by rfl)))))) ca_nil))))))
theorem t_is_drift (T : Tx w K mg) : FnT P w K mg base "is_drift" 1 fl_is_drift m_is_drift := by
  obtain ⟨f, fd, F, hm, hb⟩ := T.d_is_drift
  refine ⟨f, fd, ["word"], def_ok (N := N_is_drift) (m := m_is_drift_b) F sc_is_drift rfl (by decide) (fun cdv A outer s H E ρ hr kx => ?_), hm, F.kp, hb⟩
  exact (css_one (cs_ret (ce_cmp op_in_seq ok_inT (cw_var 0) (RB.CE.w (ce_glob T.c_DRIFTS)) (by rfl))))
theorem t_is_highest_grade (T : Tx w K mg) : FnT P w K mg base "is_highest_grade" 1 fl_is_highest_grade m_is_highest_grade := by
  obtain ⟨f, fd, F, hm, hb⟩ := T.d_is_highest_grade
  refine ⟨f, fd, ["grade"], def_ok (N := N_is_highest_grade) (m := m_is_highest_grade_b) F sc_is_highest_grade rfl (by decide) (fun cdv A outer s H E ρ hr kx => ?_), hm, F.kp, hb⟩
  exact (css_one (cs_ret (ce_chain op_le ok_intB op_le ok_intB (RB.CE.w ce_int) (cw_var 0) (RB.CE.w (ce_glob T.c_MOST_GRADES)))))
theorem t_may_follow (T : Tx w K mg) : FnT P w K mg base "may_follow" 2 fl_may_follow m_may_follow := by
  obtain ⟨f, fd, F, hm, hb⟩ := T.d_may_follow
  refine ⟨f, fd, ["name", "names", "most"], def_ok (N := N_may_follow) (m := m_may_follow_b) F sc_may_follow rfl (by decide) (fun cdv A outer s H E ρ hr kx => ?_), hm, F.kp, hb⟩
  exact (css_one (cs_ret (ce_and (ce_cmp op_lt ok_intB (RB.CE.w (ce_callB call_len ok_len T.b_len PySem.boot_len (ca_consW (cw_var 1) ca_nil))) (cw_var 2) (nomark _)) (ce_and (ce_call kx.tk (t_is_name T) (hr.mono (by decide)) (ca_cons (ce_var 0) ca_nil)) (ce_one (ce_cmp (op_notInD (hu65 hr)) ok_notInD (cw_var 0) (cw_var 1) (by rfl)))))))
theorem t_is_event (T : Tx w K mg) : FnT P w K mg base "is_event" 1 fl_is_event m_is_event := by
  obtain ⟨f, fd, F, hm, hb⟩ := T.d_is_event
  refine ⟨f, fd, ["event", "items", "grades", "judge_names"], def_ok (N := N_is_event) (m := m_is_event_b) F sc_is_event rfl (by decide) (fun cdv A outer s H E ρ hr kx => ?_), hm, F.kp, hb⟩
  exact (css_cons (cs_if (cw_pt (cw_and (ct_cmp (op_eqD (hu64 hr)) ok_eqD (RB.CE.w (ce_callB call_len ok_len T.b_len PySem.boot_len (ca_consW (cw_var 0) ca_nil))) (RB.CE.w ce_int) (nomark _)) (cw_one_and (ct_cmp (op_eqD (hu64 hr)) ok_eqD (RB.CE.w (ce_ix (cw_var 0) ce_int)) (RB.CE.w ce_str) (nomark _))))) (css_one (cs_ret (ce_cmp (op_inD (hu65 hr)) ok_inD (RB.CE.w (ce_ix (cw_var 0) ce_int)) (cw_var 3) (by rfl)))) css_nil) (fun ρ => (css_cons (cs_if (cw_pt (cw_and (ct_cmp (op_eqD (hu64 hr)) ok_eqD (RB.CE.w (ce_callB call_len ok_len T.b_len PySem.boot_len (ca_consW (cw_var 0) ca_nil))) (RB.CE.w ce_int) (nomark _)) (cw_one_and (ct_cmp (op_eqD (hu64 hr)) ok_eqD (RB.CE.w (ce_ix (cw_var 0) ce_int)) (RB.CE.w ce_str) (nomark _))))) (css_one (cs_ret (ce_and (ce_cmp (op_inD (hu65 hr)) ok_inD (RB.CE.w (ce_ix (cw_var 0) ce_int)) (cw_var 3) (by rfl)) (ce_and (ce_cmp (op_inD (hu65 hr)) ok_inD (RB.CE.w (ce_ix (cw_var 0) ce_int)) (cw_var 1) (by rfl)) (ce_one (ce_chain op_le ok_intB op_le ok_intB (RB.CE.w ce_int) (RB.CE.w (ce_ix (cw_var 0) ce_int)) (cw_var 2))))))) css_nil) (fun ρ => (css_one (cs_ret ce_bl))))))
theorem t__check_names (T : Tx w K mg) : FnT P w K mg base "_check_names" 3 fl__check_names m_check_names := by
  obtain ⟨f, fd, F, hm, hb⟩ := T.d__check_names
  refine ⟨f, fd, ["names", "most", "what"], def_ok (N := N__check_names) (m := m_check_names_b) F sc__check_names rfl (by decide) (fun cdv A outer s H E ρ hr kx => ?_), hm, F.kp, hb⟩
  exact (css_cons (cs_if (ct_cmp (op_eqD (hu64 hr)) ok_eqD (RB.CE.w (ce_callB call_len ok_len T.b_len PySem.boot_len (ca_consW (cw_var 0) ca_nil))) (RB.CE.w ce_int) (nomark _)) (css_one (cs_raise1 kx T.x_InvalidLog (ce_fstr (CJ.cons cj_str (CJ.cons (cj_fmt (ce_var 2)) CJ.nil))))) css_nil) (fun ρ => (css_one (cs_for (t := (.many [3, 4])) (bo := b1__check_names) kx (ci_enumV 0 T.b_enumerate) (pg_tup rfl (pgs_cons (pg_name (i := 3) sc__check_names.nd rfl (by first | exact Or.inl rfl | exact Or.inr rfl)) (pgs_cons (pg_name (i := 4) sc__check_names.nd rfl (by first | exact Or.inl rfl | exact Or.inr rfl)) pgs_nil))) (fun ρ => (css_one (cs_if (ct_not (ct_val (ce_call kx.tk (t_may_follow T) (hr.mono (by decide)) (ca_cons (ce_var 4) (ca_cons (RB.CF.ce (cf_slice (cw_var 0) co_none (co_some (ce_var 3)))) (ca_cons (ce_var 1) ca_nil)))))) (css_one (cs_raise1 kx T.x_InvalidLog (ce_fstr (CJ.cons cj_str (CJ.cons (cj_fmt (ce_var 2)) (CJ.cons cj_str CJ.nil)))))) css_nil)))))))
theorem t__check_judges (T : Tx w K mg) : FnT P w K mg base "_check_judges" 4 fl__check_judges m_check_judges := by
  obtain ⟨f, fd, F, hm, hb⟩ := T.d__check_judges
  refine ⟨f, fd, ["judges"], def_ok (N := N__check_judges) (m := m_check_judges_b) F sc__check_judges rfl (by decide) (fun cdv A outer s H E ρ hr kx => ?_), hm, F.kp, hb⟩
  exact (css_cons (cs_for (t := (.one 1)) (bo := b1__check_judges) kx (ci_var 0) (pg_name (i := 1) sc__check_judges.nd rfl (by first | exact Or.inl rfl | exact Or.inr rfl)) (fun ρ => (css_one (cs_if (cw_pt (cw_or (ct_cmp (op_neD (hu64 hr)) ok_neD (RB.CE.w (ce_callB call_len ok_len T.b_len PySem.boot_len (ca_consW (cw_var 1) ca_nil))) (RB.CE.w ce_int) (nomark _)) (cw_one_or (ct_not (ct_val (ce_call kx.tk (t_is_drift T) (hr.mono (by decide)) (ca_cons (ce_ix (cw_var 1) ce_int) ca_nil))))))) (css_one (cs_raise1 kx T.x_InvalidLog ce_str)) css_nil)))) (fun ρ => (css_one (cs_expr (ce_call kx.tk (t__check_names T) (hr.mono (by decide)) (ca_consW (RB.CE.w (RB.CF.ce (cf_lc kx.calm sc__check_judges.nd (ci_var 0) (blkOk_by (own := [("judge", 1)]) (N := N__check_judges) (sc := defScope s__check_judges) (by decide +kernel)) (t := (.one 1)) (fun _ _ _ _ _ => (pg_name (i := 1) sc__check_judges.nd rfl (by first | exact Or.inl rfl | exact Or.inr rfl))) (fun _ _ _ _ _ ρ => cps_nil) (fun _ _ _ _ _ ρ => (ce_ix (cw_var 1) ce_int))))) (ca_cons (ce_glob T.c_MOST_JUDGES) (ca_cons ce_str ca_nil))))))))
theorem t__check_log (T : Tx w K mg) : FnT P w K mg base "_check_log" 5 fl__check_log m_check_log := by
  obtain ⟨f, fd, F, hm, hb⟩ := T.d__check_log
  refine ⟨f, fd, ["items", "grades", "judges", "events"], def_ok (N := N__check_log) (m := m_check_log_b) F sc__check_log rfl (by decide) (fun cdv A outer s H E ρ hr kx => ?_), hm, F.kp, hb⟩
  exact (css_cons (cs_expr (ce_call kx.tk (t__check_names T) (hr.mono (by decide)) (ca_consW (cw_var 0) (ca_cons (ce_glob T.c_MOST_ITEMS) (ca_cons ce_str ca_nil))))) (fun ρ => (css_cons (cs_if (ct_not (ct_val (ce_call kx.tk (t_is_highest_grade T) (hr.mono (by decide)) (ca_cons (ce_var 1) ca_nil)))) (css_one (cs_raise1 kx T.x_InvalidLog ce_str)) css_nil) (fun ρ => (css_cons (cs_expr (ce_call kx.tk (t__check_judges T) (hr.mono (by decide)) (ca_consW (cw_var 2) ca_nil))) (fun ρ => (css_cons (cs_if (ct_cmp op_gt ok_intB (RB.CE.w (ce_callB call_len ok_len T.b_len PySem.boot_len (ca_consW (cw_var 3) ca_nil))) (RB.CE.w (ce_glob T.c_MOST_EVENTS)) (nomark _)) (css_one (cs_raise1 kx T.x_InvalidLog ce_str)) css_nil) (fun ρ => (css_cons (cs_setLc 4 kx.calm sc__check_log.nd (ci_var 2) (blkOk_by (own := [("judge", 6)]) (N := N__check_log) (sc := defScope s__check_log) (by decide +kernel)) (t := (.one 6)) (fun _ _ _ _ _ => (pg_name (i := 6) sc__check_log.nd rfl (by first | exact Or.inl rfl | exact Or.inr rfl))) (fun _ _ _ _ _ ρ => cps_nil) (fun _ _ _ _ _ ρ => (ce_ix (cw_var 6) ce_int)) (sw_true rfl rfl rfl (by decide +kernel))) (fun ρ => (css_one (cs_for (t := (.one 5)) (bo := b1__check_log) kx (ci_var 3) (pg_name (i := 5) sc__check_log.nd rfl (by first | exact Or.inl rfl | exact Or.inr rfl)) (fun ρ => (css_one (cs_if (ct_not (ct_val (ce_call kx.tk (t_is_event T) (hr.mono (by decide)) (ca_cons (ce_var 5) (ca_consW (cw_var 0) (ca_cons (ce_var 1) (ca_cons (ce_var 4) ca_nil))))))) (css_one (cs_raise1 kx T.x_InvalidLog ce_str)) css_nil)))))))))))))))
theorem t__resets_ahead (T : Tx w K mg) : FnT P w K mg base "_resets_ahead" 1 fl__resets_ahead m_resets_ahead := by
  obtain ⟨f, fd, F, hm, hb⟩ := T.d__resets_ahead
  refine ⟨f, fd, ["events"], def_ok (N := N__resets_ahead) (m := m_resets_ahead_b) F sc__resets_ahead rfl (by decide) (fun cdv A outer s H E ρ hr kx => ?_), hm, F.kp, hb⟩
  exact (css_cons (cs_dnew 1 sc__resets_ahead.nd) (fun ρ => (css_cons (cs_setF 2 sc__resets_ahead.nd (cf_lst ca_nil)) (fun ρ => (css_cons (cs_for (t := (.one 3)) (bo := b1__resets_ahead) kx (ci_var 0) (pg_name (i := 3) sc__resets_ahead.nd rfl (by first | exact Or.inl rfl | exact Or.inr rfl)) (fun ρ => (css_cons (cs_set 4 sc__resets_ahead.nd (ce_ix (cw_var 3) ce_int)) (fun ρ => (css_frz 1 ((css_cons (cs_append 2 (ce_get2 1 hr (ce_var 4) ce_int)) (fun ρ => (css_one (cs_if (ct_cmp (op_eqD (hu64 hr)) ok_eqD (RB.CE.w (ce_ix (cw_var 3) ce_int)) (RB.CE.w ce_str) (nomark _)) (css_frz 1 ((css_one (cs_dput 1 hr (ce_op op_add ok_intI (RB.CE.w (ce_get2 1 hr (ce_var 4) ce_int)) (RB.CE.w ce_int)) (ce_var 4))))) css_nil)))))))))) (fun ρ => (css_frz 2 ((css_one (cs_ret (ce_var 2)))))))))))
theorem t_Log___init__ (T : Tx w K mg) : MakeT P w K mg base "Log" 6 fl_Log___init__ m_Log___init__ := by
  obtain ⟨C, f, fd, F, hm, me, hb⟩ := T.d_Log___init__
  refine ⟨C, f, fd, ["self", "items", "grades", "judges", "events"], m_Log___init___xy, hm, init_ok (c := "Log") (N := N_Log___init__) (m := m_Log___init___b) F sc_Log___init__ rfl (by decide) (fun cdv A outer s H E ρ hr kx => ?_), me, hb, fun x dx ds hl => par_Log___init__ x dx ds hl⟩
  exact (css_cons (cs_expr (ce_call kx.tk (t__check_log T) (hr.mono (by decide)) (ca_consW (cw_var 1) (ca_cons (ce_var 2) (ca_consW (cw_var 3) (ca_consW (cw_var 4) ca_nil)))))) (fun ρ => (css_cons (cs_setF' 0 T.f_Log__item_names (RB.CF.ce (cf_list T.b_list (cw_var 1)))) (fun ρ => (css_cons (cs_setF' 0 T.f_Log__grades (ce_var 2)) (fun ρ => (css_cons (cs_setF' 0 T.f_Log__judges (RB.CF.ce (cf_list T.b_list (cw_var 3)))) (fun ρ => (css_cons (cs_setF' 0 T.f_Log__events (RB.CF.ce (cf_list T.b_list (cw_var 4)))) (fun ρ => (css_cons (cs_setF' 0 T.f_Log__drifts (ce_dc kx.calm sc_Log___init__.nd (ci_var 3) (blkOk_by (own := [("name", 5), ("drift", 6)]) (N := N_Log___init__) (sc := defScope s_Log___init__) (by decide +kernel)) (t := (.many [5, 6])) (fun _ _ _ _ _ => (pg_tup rfl (pgs_cons (pg_name (i := 5) sc_Log___init__.nd rfl (by first | exact Or.inl rfl | exact Or.inr rfl)) (pgs_cons (pg_name (i := 6) sc_Log___init__.nd rfl (by first | exact Or.inl rfl | exact Or.inr rfl)) pgs_nil)))) (fun _ _ _ _ _ ρ => cps_nil) (fun _ _ _ _ _ ρ => (ce_var 5)) (fun _ _ _ _ _ ρ => (ce_var 6)))) (fun ρ => (css_one (cs_setF' 0 T.f_Log__resets (ce_call kx.tk (t__resets_ahead T) (hr.mono (by decide)) (ca_consW (cw_var 4) ca_nil))))))))))))))))
theorem t__law_log (T : Tx w K mg) : FnT P w K mg base "_law_log" 8 fl__law_log m_law_log := by
  obtain ⟨f, fd, F, hm, hb⟩ := T.d__law_log
  refine ⟨f, fd, ["parts"], def_ok (N := N__law_log) (m := m_law_log_b) F sc__law_log rfl (by decide) (fun cdv A outer s H E ρ hr kx => ?_), hm, F.kp, hb⟩
  exact (css_cons (cs_unpack (is := [1, 2, 3, 4]) (ce_var 0) (pg_tup rfl (pgs_cons (pg_name (i := 1) sc__law_log.nd rfl (by first | exact Or.inl rfl | exact Or.inr rfl)) (pgs_cons (pg_name (i := 2) sc__law_log.nd rfl (by first | exact Or.inl rfl | exact Or.inr rfl)) (pgs_cons (pg_name (i := 3) sc__law_log.nd rfl (by first | exact Or.inl rfl | exact Or.inr rfl)) (pgs_cons (pg_name (i := 4) sc__law_log.nd rfl (by first | exact Or.inl rfl | exact Or.inr rfl)) pgs_nil)))))) (fun ρ => (css_one (cs_ret (ce_make kx.tk (t_Log___init__ T) (hr.mono (by decide)) (ca_consW (cw_var 1) (ca_cons (ce_var 2) (ca_consW (cw_var 3) (ca_consW (cw_var 4) ca_nil)))))))))
theorem t_are_in_order (T : Tx w K mg) : FnT P w K mg base "are_in_order" 1 fl_are_in_order m_are_in_order := by
  obtain ⟨f, fd, F, hm, hb⟩ := T.d_are_in_order
  refine ⟨f, fd, ["drift", "one", "other"], def_ok (N := N_are_in_order) (m := m_are_in_order_b) F sc_are_in_order rfl (by decide) (fun cdv A outer s H E ρ hr kx => ?_), hm, F.kp, hb⟩
  exact (css_cons (cs_if (ct_cmp (op_eqD (hu64 hr)) ok_eqD (cw_var 0) (RB.CE.w ce_str) (nomark _)) (css_one (cs_ret (ce_cmp op_le ok_intB (cw_var 1) (cw_var 2) (nomark _)))) css_nil) (fun ρ => (css_cons (cs_if (ct_cmp (op_eqD (hu64 hr)) ok_eqD (cw_var 0) (RB.CE.w ce_str) (nomark _)) (css_one (cs_ret (ce_cmp op_ge ok_intB (cw_var 1) (cw_var 2) (nomark _)))) css_nil) (fun ρ => (css_one (cs_ret ce_bl))))))
theorem t_Log_answers (T : Tx w K mg) : MethT P w K mg base "Log" "answers" 1 fl_Log_answers m_Log_answers := by
  obtain ⟨C, f, fd, F, hm, cl, me, hb⟩ := T.d_Log_answers
  refine ⟨C, f, fd, ["self"], hm, cl, def_ok (N := N_Log_answers) (m := m_Log_answers_b) F sc_Log_answers rfl (by decide) (fun cdv A outer s H E ρ hr kx => ?_), me, hb⟩
  exact (css_one (cs_ret (RB.CF.ce (cf_lc kx.calm sc_Log_answers.nd (ci_enum T.b_enumerate (ce_fld T.f_Log__events (ce_var 0))) (blkOk_by (own := [("place", 1), ("event", 2)]) (N := N_Log_answers) (sc := defScope s_Log_answers) (by decide +kernel)) (t := (.many [1, 2])) (fun _ _ _ _ _ => (pg_tup rfl (pgs_cons (pg_name (i := 1) sc_Log_answers.nd rfl (by first | exact Or.inl rfl | exact Or.inr rfl)) (pgs_cons (pg_name (i := 2) sc_Log_answers.nd rfl (by first | exact Or.inl rfl | exact Or.inr rfl)) pgs_nil)))) (fun _ _ _ _ _ ρ => (cps_one (ct_cmp (op_eqD (hu64 hr)) ok_eqD (RB.CE.w (ce_ix (cw_var 2) ce_int)) (RB.CE.w ce_str) (nomark _)))) (fun _ _ _ _ _ ρ => (ce_var 1))))))
theorem t_Log_is_answer (T : Tx w K mg) : MethT P w K mg base "Log" "is_answer" 1 fl_Log_is_answer m_Log_is_answer := by
  obtain ⟨C, f, fd, F, hm, cl, me, hb⟩ := T.d_Log_is_answer
  refine ⟨C, f, fd, ["self", "place"], hm, cl, def_ok (N := N_Log_is_answer) (m := m_Log_is_answer_b) F sc_Log_is_answer rfl (by decide) (fun cdv A outer s H E ρ hr kx => ?_), me, hb⟩
  exact (css_one (cs_ret (ce_and (ce_chain op_le ok_intB op_lt ok_intB (RB.CE.w ce_int) (cw_var 1) (RB.CE.w (ce_callB call_len ok_len T.b_len PySem.boot_len (ca_consW (RB.CE.w (ce_fld T.f_Log__events (ce_var 0))) ca_nil)))) (ce_one (ce_cmp (op_eqD (hu64 hr)) ok_eqD (RB.CE.w (ce_ix (RB.CE.w (ce_ix (RB.CE.w (ce_fld T.f_Log__events (ce_var 0))) (ce_var 1))) ce_int)) (RB.CE.w ce_str) (nomark _))))))
theorem t_Log__need_judge (T : Tx w K mg) : MethT P w K mg base "Log" "_need_judge" 3 fl_Log__need_judge m_Log__need_judge := by
  obtain ⟨C, f, fd, F, hm, cl, me, hb⟩ := T.d_Log__need_judge
  refine ⟨C, f, fd, ["self", "judge"], hm, cl, def_ok (N := N_Log__need_judge) (m := m_Log__need_judge_b) F sc_Log__need_judge rfl (by decide) (fun cdv A outer s H E ρ hr kx => ?_), me, hb⟩
  exact (css_one (cs_if (ct_dnotin hr (ce_var 1) (ce_fld T.f_Log__drifts (ce_var 0))) (css_one (cs_raiseI (k := 0) kx (t_x_UnknownJudge T) (hr.mono (by decide)) (ce_var 1))) css_nil))
theorem t_Log__need_answer (T : Tx w K mg) : MethT P w K mg base "Log" "_need_answer" 3 fl_Log__need_answer m_Log__need_answer := by
  obtain ⟨C, f, fd, F, hm, cl, me, hb⟩ := T.d_Log__need_answer
  refine ⟨C, f, fd, ["self", "place"], hm, cl, def_ok (N := N_Log__need_answer) (m := m_Log__need_answer_b) F sc_Log__need_answer rfl (by decide) (fun cdv A outer s H E ρ hr kx => ?_), me, hb⟩
  exact (css_one (cs_if (ct_not (ct_val (ce_meth kx.tk (t_Log_is_answer T) (hr.mono (by decide)) (ce_var 0) (ca_cons (ce_var 1) ca_nil)))) (css_one (cs_raiseI (k := 0) kx (t_x_InvalidPlace T) (hr.mono (by decide)) (ce_var 1))) css_nil))
theorem t_Log__need_lost_place (T : Tx w K mg) : MethT P w K mg base "Log" "_need_lost_place" 3 fl_Log__need_lost_place m_Log__need_lost_place := by
  obtain ⟨C, f, fd, F, hm, cl, me, hb⟩ := T.d_Log__need_lost_place
  refine ⟨C, f, fd, ["self", "place"], hm, cl, def_ok (N := N_Log__need_lost_place) (m := m_Log__need_lost_place_b) F sc_Log__need_lost_place rfl (by decide) (fun cdv A outer s H E ρ hr kx => ?_), me, hb⟩
  exact (css_one (cs_if (ct_not (ct_chain op_le ok_intB op_le ok_intB (RB.CE.w ce_int) (cw_var 1) (RB.CE.w (ce_callB call_len ok_len T.b_len PySem.boot_len (ca_consW (RB.CE.w (ce_fld T.f_Log__events (ce_var 0))) ca_nil))))) (css_one (cs_raiseI (k := 0) kx (t_x_InvalidPlace T) (hr.mono (by decide)) (ce_var 1))) css_nil))
theorem t_Log_answers_of (T : Tx w K mg) : MethT P w K mg base "Log" "answers_of" 4 fl_Log_answers_of m_Log_answers_of := by
  obtain ⟨C, f, fd, F, hm, cl, me, hb⟩ := T.d_Log_answers_of
  refine ⟨C, f, fd, ["self", "judge"], hm, cl, def_ok (N := N_Log_answers_of) (m := m_Log_answers_of_b) F sc_Log_answers_of rfl (by decide) (fun cdv A outer s H E ρ hr kx => ?_), me, hb⟩
  exact (css_cons (cs_expr (ce_meth kx.tk (t_Log__need_judge T) (hr.mono (by decide)) (ce_var 0) (ca_cons (ce_var 1) ca_nil))) (fun ρ => (css_one (cs_ret (RB.CF.ce (cf_lc kx.calm sc_Log_answers_of.nd (ci_list (ce_meth0 kx.tk (t_Log_answers T) (hr.mono (by decide)) (ce_var 0))) (blkOk_by (own := [("place", 2)]) (N := N_Log_answers_of) (sc := defScope s_Log_answers_of) (by decide +kernel)) (t := (.one 2)) (fun _ _ _ _ _ => (pg_name (i := 2) sc_Log_answers_of.nd rfl (by first | exact Or.inl rfl | exact Or.inr rfl))) (fun _ _ _ _ _ ρ => (cps_one (ct_cmp (op_eqD (hu64 hr)) ok_eqD (RB.CE.w (ce_ix (RB.CE.w (ce_ix (RB.CE.w (ce_fld T.f_Log__events (ce_var 0))) (ce_var 2))) ce_int)) (cw_var 1) (nomark _)))) (fun _ _ _ _ _ ρ => (ce_var 2))))))))
theorem t_Log__stretch_behind (T : Tx w K mg) : MethT P w K mg base "Log" "_stretch_behind" 5 fl_Log__stretch_behind m_Log__stretch_behind := by
  obtain ⟨C, f, fd, F, hm, cl, me, hb⟩ := T.d_Log__stretch_behind
  refine ⟨C, f, fd, ["self", "judge", "resets"], hm, cl, def_ok (N := N_Log__stretch_behind) (m := m_Log__stretch_behind_b) F sc_Log__stretch_behind rfl (by decide) (fun cdv A outer s H E ρ hr kx => ?_), me, hb⟩
  exact (css_one (cs_ret (RB.CF.ce (cf_lc kx.calm sc_Log__stretch_behind.nd (ci_list (ce_meth kx.tk (t_Log_answers_of T) (hr.mono (by decide)) (ce_var 0) (ca_cons (ce_var 1) ca_nil))) (blkOk_by (own := [("place", 3)]) (N := N_Log__stretch_behind) (sc := defScope s_Log__stretch_behind) (by decide +kernel)) (t := (.one 3)) (fun _ _ _ _ _ => (pg_name (i := 3) sc_Log__stretch_behind.nd rfl (by first | exact Or.inl rfl | exact Or.inr rfl))) (fun _ _ _ _ _ ρ => (cps_one (ct_cmp (op_eqD (hu64 hr)) ok_eqD (RB.CE.w (ce_ix (RB.CE.w (ce_fld T.f_Log__resets (ce_var 0))) (ce_var 3))) (cw_var 2) (nomark _)))) (fun _ _ _ _ _ ρ => (ce_var 3))))))
theorem t_Log_stretch_at (T : Tx w K mg) : MethT P w K mg base "Log" "stretch_at" 6 fl_Log_stretch_at m_Log_stretch_at := by
  obtain ⟨C, f, fd, F, hm, cl, me, hb⟩ := T.d_Log_stretch_at
  refine ⟨C, f, fd, ["self", "judge", "place"], hm, cl, def_ok (N := N_Log_stretch_at) (m := m_Log_stretch_at_b) F sc_Log_stretch_at rfl (by decide) (fun cdv A outer s H E ρ hr kx => ?_), me, hb⟩
  exact (css_cons (cs_expr (ce_meth kx.tk (t_Log__need_judge T) (hr.mono (by decide)) (ce_var 0) (ca_cons (ce_var 1) ca_nil))) (fun ρ => (css_cons (cs_expr (ce_meth kx.tk (t_Log__need_lost_place T) (hr.mono (by decide)) (ce_var 0) (ca_cons (ce_var 2) ca_nil))) (fun ρ => (css_one (cs_ret (ce_meth kx.tk (t_Log__stretch_behind T) (hr.mono (by decide)) (ce_var 0) (ca_cons (ce_var 1) (ca_cons (ce_count hr (RB.CE.w (RB.CF.ce (cf_slice (RB.CE.w (ce_fld T.f_Log__events (ce_var 0))) co_none (co_some (ce_var 2))))) (ce_tup (ca_cons ce_str (ca_cons (ce_var 1) ca_nil)))) ca_nil)))))))))
theorem t_Log_in_order (T : Tx w K mg) : MethT P w K mg base "Log" "in_order" 4 fl_Log_in_order m_Log_in_order := by
  obtain ⟨C, f, fd, F, hm, cl, me, hb⟩ := T.d_Log_in_order
  refine ⟨C, f, fd, ["self", "one", "other"], hm, cl, def_ok (N := N_Log_in_order) (m := m_Log_in_order_b) F sc_Log_in_order rfl (by decide) (fun cdv A outer s H E ρ hr kx => ?_), me, hb⟩
  exact (css_cons (cs_expr (ce_meth kx.tk (t_Log__need_answer T) (hr.mono (by decide)) (ce_var 0) (ca_cons (ce_var 1) ca_nil))) (fun ρ => (css_cons (cs_expr (ce_meth kx.tk (t_Log__need_answer T) (hr.mono (by decide)) (ce_var 0) (ca_cons (ce_var 2) ca_nil))) (fun ρ => (css_cons (cs_set 3 sc_Log_in_order.nd (ce_ix (RB.CE.w (ce_ix (RB.CE.w (ce_fld T.f_Log__events (ce_var 0))) (ce_var 1))) ce_int)) (fun ρ => (css_cons (cs_if (cw_pt (cw_or (ct_cmp (op_neD (hu64 hr)) ok_neD (cw_var 3) (RB.CE.w (ce_ix (RB.CE.w (ce_ix (RB.CE.w (ce_fld T.f_Log__events (ce_var 0))) (ce_var 2))) ce_int)) (nomark _)) (cw_one_or (ct_cmp (op_neD (hu64 hr)) ok_neD (RB.CE.w (ce_ix (RB.CE.w (ce_fld T.f_Log__resets (ce_var 0))) (ce_var 1))) (RB.CE.w (ce_ix (RB.CE.w (ce_fld T.f_Log__resets (ce_var 0))) (ce_var 2))) (nomark _))))) (css_one (cs_ret ce_bl)) css_nil) (fun ρ => (css_one (cs_ret (ce_call kx.tk (t_are_in_order T) (hr.mono (by decide)) (ca_cons (ce_dget hr (ce_fld T.f_Log__drifts (ce_var 0)) (ce_var 3)) (ca_cons (ce_var 1) (ca_cons (ce_var 2) ca_nil))))))))))))))
theorem t_Log_lost_first (T : Tx w K mg) : MethT P w K mg base "Log" "lost_first" 7 fl_Log_lost_first m_Log_lost_first := by
  obtain ⟨C, f, fd, F, hm, cl, me, hb⟩ := T.d_Log_lost_first
  refine ⟨C, f, fd, ["self", "judge", "place", "at"], hm, cl, def_ok (N := N_Log_lost_first) (m := m_Log_lost_first_b) F sc_Log_lost_first rfl (by decide) (fun cdv A outer s H E ρ hr kx => ?_), me, hb⟩
  exact (css_cons (cs_set 4 sc_Log_lost_first.nd (ce_meth kx.tk (t_Log_stretch_at T) (hr.mono (by decide)) (ce_var 0) (ca_cons (ce_var 1) (ca_cons (ce_var 2) ca_nil)))) (fun ρ => (css_cons (cs_expr (ce_meth kx.tk (t_Log__need_answer T) (hr.mono (by decide)) (ce_var 0) (ca_cons (ce_var 3) ca_nil))) (fun ρ => (css_one (cs_ret (ce_and (ce_cmp (op_inD (hu65 hr)) ok_inD (cw_var 3) (cw_var 4) (by rfl)) (ce_one (ce_call kx.tk (t_are_in_order T) (hr.mono (by decide)) (ca_cons (ce_dget hr (ce_fld T.f_Log__drifts (ce_var 0)) (ce_var 1)) (ca_cons (ce_op op_sub ok_intI (RB.CE.w (ce_op op_mulW (ok_intC okmul) (RB.CE.w ce_int) (cw_var 2))) (RB.CE.w ce_int)) (ca_cons (ce_op op_mulW (ok_intC okmul) (RB.CE.w ce_int) (cw_var 3)) ca_nil))))))))))))
theorem t_Log_lost_second (T : Tx w K mg) : MethT P w K mg base "Log" "lost_second" 7 fl_Log_lost_second m_Log_lost_second := by
  obtain ⟨C, f, fd, F, hm, cl, me, hb⟩ := T.d_Log_lost_second
  refine ⟨C, f, fd, ["self", "judge", "place", "at"], hm, cl, def_ok (N := N_Log_lost_second) (m := m_Log_lost_second_b) F sc_Log_lost_second rfl (by decide) (fun cdv A outer s H E ρ hr kx => ?_), me, hb⟩
  exact (css_cons (cs_set 4 sc_Log_lost_second.nd (ce_meth kx.tk (t_Log_stretch_at T) (hr.mono (by decide)) (ce_var 0) (ca_cons (ce_var 1) (ca_cons (ce_var 2) ca_nil)))) (fun ρ => (css_cons (cs_expr (ce_meth kx.tk (t_Log__need_answer T) (hr.mono (by decide)) (ce_var 0) (ca_cons (ce_var 3) ca_nil))) (fun ρ => (css_one (cs_ret (ce_and (ce_cmp (op_inD (hu65 hr)) ok_inD (cw_var 3) (cw_var 4) (by rfl)) (ce_one (ce_call kx.tk (t_are_in_order T) (hr.mono (by decide)) (ca_cons (ce_dget hr (ce_fld T.f_Log__drifts (ce_var 0)) (ce_var 1)) (ca_cons (ce_op op_mulW (ok_intC okmul) (RB.CE.w ce_int) (cw_var 3)) (ca_cons (ce_op op_sub ok_intI (RB.CE.w (ce_op op_mulW (ok_intC okmul) (RB.CE.w ce_int) (cw_var 2))) (RB.CE.w ce_int)) ca_nil))))))))))))
theorem t_Log_backwards (T : Tx w K mg) : MethT P w K mg base "Log" "backwards" 8 fl_Log_backwards m_Log_backwards := by
  obtain ⟨C, f, fd, F, hm, cl, me, hb⟩ := T.d_Log_backwards
  refine ⟨C, f, fd, ["self"], hm, cl, def_ok (N := N_Log_backwards) (m := m_Log_backwards_b) F sc_Log_backwards rfl (by decide) (fun cdv A outer s H E ρ hr kx => ?_), me, hb⟩
  exact (css_cons (cs_setLc 1 kx.calm sc_Log_backwards.nd (ci_list (ce_fld T.f_Log__judges (ce_var 0))) (blkOk_by (own := [("name", 2), ("drift", 3)]) (N := N_Log_backwards) (sc := defScope s_Log_backwards) (by decide +kernel)) (t := (.many [2, 3])) (fun _ _ _ _ _ => (pg_tup rfl (pgs_cons (pg_name (i := 2) sc_Log_backwards.nd rfl (by first | exact Or.inl rfl | exact Or.inr rfl)) (pgs_cons (pg_name (i := 3) sc_Log_backwards.nd rfl (by first | exact Or.inl rfl | exact Or.inr rfl)) pgs_nil)))) (fun _ _ _ _ _ ρ => cps_nil) (fun _ _ _ _ _ ρ => (ce_tup (ca_cons (ce_var 2) (ca_cons (ce_kdict T.k_TURNED_DRIFTS (ce_var 3)) ca_nil)))) (sw_true rfl rfl rfl (by decide +kernel))) (fun ρ => (css_one (cs_ret (ce_make kx.tk (t_Log___init__ T) (hr.mono (by decide)) (ca_consW (RB.CE.w (ce_fld T.f_Log__item_names (ce_var 0))) (ca_cons (ce_fld T.f_Log__grades (ce_var 0)) (ca_consW (cw_var 1) (ca_consW (RB.CE.w (RB.CF.ce (cf_rev (RB.CE.w (ce_fld T.f_Log__events (ce_var 0)))))) ca_nil)))))))))
theorem t__law_drift (T : Tx w K mg) : FnT P w K mg base "_law_drift" 1 fl__law_drift m_law_drift := by
  obtain ⟨f, fd, F, hm, hb⟩ := T.d__law_drift
  refine ⟨f, fd, ["parts", "judge"], def_ok (N := N__law_drift) (m := m_law_drift_b) F sc__law_drift rfl (by decide) (fun cdv A outer s H E ρ hr kx => ?_), hm, F.kp, hb⟩
  exact (css_one (cs_ret (ce_ix (RB.CE.w (RB.CF.ce (cf_lc kx.calm sc__law_drift.nd (ci_list (ce_ix (cw_var 0) ce_int)) (blkOk_by (own := [("name", 2), ("drift", 3)]) (N := N__law_drift) (sc := defScope s__law_drift) (by decide +kernel)) (t := (.many [2, 3])) (fun _ _ _ _ _ => (pg_tup rfl (pgs_cons (pg_name (i := 2) sc__law_drift.nd rfl (by first | exact Or.inl rfl | exact Or.inr rfl)) (pgs_cons (pg_name (i := 3) sc__law_drift.nd rfl (by first | exact Or.inl rfl | exact Or.inr rfl)) pgs_nil)))) (fun _ _ _ _ _ ρ => (cps_one (ct_cmp (op_eqD (hu64 hr)) ok_eqD (cw_var 2) (cw_var 1) (nomark _)))) (fun _ _ _ _ _ ρ => (ce_var 3))))) ce_int)))
theorem t__law_stretch_at (T : Tx w K mg) : FnT P w K mg base "_law_stretch_at" 1 fl__law_stretch_at m_law_stretch_at := by
  obtain ⟨f, fd, F, hm, hb⟩ := T.d__law_stretch_at
  refine ⟨f, fd, ["parts", "judge", "place"], def_ok (N := N__law_stretch_at) (m := m_law_stretch_at_b) F sc__law_stretch_at rfl (by decide) (fun cdv A outer s H E ρ hr kx => ?_), hm, F.kp, hb⟩
  exact (css_cons (cs_setF 3 sc__law_stretch_at.nd (cf_lst ca_nil)) (fun ρ => (css_cons (cs_for (t := (.one 4)) (bo := b1__law_stretch_at) kx (ci_range1 T.b_range (ce_callB call_len ok_len T.b_len PySem.boot_len (ca_consW (RB.CE.w (ce_ix (cw_var 0) ce_int)) ca_nil))) (pg_name (i := 4) sc__law_stretch_at.nd rfl (by first | exact Or.inl rfl | exact Or.inr rfl)) (fun ρ => (css_cons (cs_unl (is := [5, 6]) (RB.CF.ce (cf_sorted T.b_sorted (RB.CE.w (RB.CF.ce (cf_lst (ca_cons (ce_var 4) (ca_cons (ce_var 2) ca_nil))))))) (pg_unl rfl (pgs_cons (pg_name (i := 5) sc__law_stretch_at.nd rfl (by first | exact Or.inl rfl | exact Or.inr rfl)) (pgs_cons (pg_name (i := 6) sc__law_stretch_at.nd rfl (by first | exact Or.inl rfl | exact Or.inr rfl)) pgs_nil)))) (fun ρ => (css_one (cs_if (cw_pt (cw_and (ct_cmp (op_eqD (hu64 hr)) ok_eqD (RB.CE.w (ce_sliceT (RB.CE.w (ce_ix (RB.CE.w (ce_ix (cw_var 0) ce_int)) (ce_var 4))) co_none (co_some ce_int))) (RB.CE.w (ce_tup (ca_cons ce_str (ca_cons (ce_var 1) ca_nil)))) (nomark _)) (cw_one_and (ct_cmp (op_notInD (hu65 hr)) ok_notInD (RB.CE.w (ce_tup (ca_cons ce_str (ca_cons (ce_var 1) ca_nil)))) (RB.CE.w (RB.CF.ce (cf_slice (RB.CE.w (ce_ix (cw_var 0) ce_int)) (co_some (ce_var 5)) (co_some (ce_var 6))))) (by rfl))))) (css_one (cs_append 3 (ce_var 4))) css_nil)))))) (fun ρ => (css_frz 3 ((css_one (cs_ret (ce_var 3)))))))))
theorem t__law_in_order (T : Tx w K mg) : FnT P w K mg base "_law_in_order" 2 fl__law_in_order m_law_in_order := by
  obtain ⟨f, fd, F, hm, hb⟩ := T.d__law_in_order
  refine ⟨f, fd, ["parts", "one", "other"], def_ok (N := N__law_in_order) (m := m_law_in_order_b) F sc__law_in_order rfl (by decide) (fun cdv A outer s H E ρ hr kx => ?_), hm, F.kp, hb⟩
  exact (css_cons (cs_set 3 sc__law_in_order.nd (ce_ix (RB.CE.w (ce_ix (RB.CE.w (ce_ix (cw_var 0) ce_int)) (ce_var 1))) ce_int)) (fun ρ => (css_cons (cs_if (ct_cmp (op_notInD (hu65 hr)) ok_notInD (cw_var 2) (RB.CE.w (ce_call kx.tk (t__law_stretch_at T) (hr.mono (by decide)) (ca_cons (ce_var 0) (ca_cons (ce_var 3) (ca_cons (ce_var 1) ca_nil))))) (by rfl)) (css_one (cs_ret ce_bl)) css_nil) (fun ρ => (css_cons (cs_set 4 sc__law_in_order.nd (ce_call kx.tk (t__law_drift T) (hr.mono (by decide)) (ca_cons (ce_var 0) (ca_cons (ce_var 3) ca_nil)))) (fun ρ => (css_one (cs_ret (ce_or (ce_cmp (op_eqD (hu64 hr)) ok_eqD (cw_var 4) (RB.CE.w ce_str) (nomark _)) (ce_or (ce_and (ce_cmp (op_eqD (hu64 hr)) ok_eqD (cw_var 4) (RB.CE.w ce_str) (nomark _)) (ce_one (ce_cmp op_le ok_intB (cw_var 1) (cw_var 2) (nomark _)))) (ce_one (ce_and (ce_cmp (op_eqD (hu64 hr)) ok_eqD (cw_var 4) (RB.CE.w ce_str) (nomark _)) (ce_one (ce_cmp op_ge ok_intB (cw_var 1) (cw_var 2) (nomark _)))))))))))))))
theorem t__law_is (T : Tx w K mg) : FnT P w K mg base "_law_is" 1 fl__law_is m_law_is := by
  obtain ⟨f, fd, F, hm, hb⟩ := T.d__law_is
  refine ⟨f, fd, ["told", "due"], def_ok (N := N__law_is) (m := m_law_is_b) F sc__law_is rfl (by decide) (fun cdv A outer s H E ρ hr kx => ?_), hm, F.kp, hb⟩
  exact (css_one (cs_ret (ce_and (ce_isbool T.b_isinstance T.b_bool (ce_var 0)) (ce_one (ce_cmp (op_eqD (hu64 hr)) ok_eqD (cw_var 0) (cw_var 1) (nomark _))))))
theorem t__law_lost (T : Tx w K mg) : FnT P w K mg base "_law_lost" 2 fl__law_lost m_law_lost := by
  obtain ⟨f, fd, F, hm, hb⟩ := T.d__law_lost
  refine ⟨f, fd, ["parts", "judge", "place", "at", "first"], def_ok (N := N__law_lost) (m := m_law_lost_b) F sc__law_lost rfl (by decide) (fun cdv A outer s H E ρ hr kx => ?_), hm, F.kp, hb⟩
  exact (css_cons (cs_set 5 sc__law_lost.nd (ce_call kx.tk (t__law_drift T) (hr.mono (by decide)) (ca_cons (ce_var 0) (ca_cons (ce_var 1) ca_nil)))) (fun ρ => (css_cons (cs_if (ct_cmp (op_notInD (hu65 hr)) ok_notInD (cw_var 3) (RB.CE.w (ce_call kx.tk (t__law_stretch_at T) (hr.mono (by decide)) (ca_cons (ce_var 0) (ca_cons (ce_var 1) (ca_cons (ce_var 2) ca_nil))))) (by rfl)) (css_one (cs_ret ce_bl)) css_nil) (fun ρ => (css_one (cs_ret (ce_or (ce_cmp (op_eqD (hu64 hr)) ok_eqD (cw_var 5) (RB.CE.w ce_str) (nomark _)) (ce_one (ce_cmp (op_eqD (hu64 hr)) ok_eqD (RB.CE.w (ce_cmp op_ge ok_intB (cw_var 3) (cw_var 2) (nomark _))) (RB.CE.w (ce_cmp (op_eqD (hu64 hr)) ok_eqD (cw_var 4) (RB.CE.w (ce_cmp (op_eqD (hu64 hr)) ok_eqD (cw_var 5) (RB.CE.w ce_str) (nomark _))) (nomark _))) (nomark _))))))))))
theorem t__law_error (T : Tx w K mg) : FnT P w K mg base "_law_error" 8 fl__law_error m_law_error := by
  obtain ⟨f, fd, F, hm, hb⟩ := T.d__law_error
  refine ⟨f, fd, ["log", "kind", "judge", "place", "at"], def_ok (N := N__law_error) (m := m_law_error_b) F sc__law_error rfl (by decide) (fun cdv A outer s H E ρ hr kx => ?_), hm, F.kp, hb⟩
  exact (css_one (cs_try_all 5 kx rfl rfl sc__law_error.nd (fun W pn xe kx => (css_cons (cs_if (ct_cmp (op_eqD (hu64 hr)) ok_eqD (cw_var 1) (RB.CE.w ce_int) (nomark _)) (css_one (cs_expr (ce_meth kx.tk (t_Log_in_order T) (hr.mono (by decide)) (ce_var 0) (ca_cons (ce_var 3) (ca_cons (ce_var 4) ca_nil))))) (css_one (cs_if (ct_cmp (op_eqD (hu64 hr)) ok_eqD (cw_var 1) (RB.CE.w ce_int) (nomark _)) (css_one (cs_expr (ce_meth kx.tk (t_Log_lost_first T) (hr.mono (by decide)) (ce_var 0) (ca_cons (ce_var 2) (ca_cons (ce_var 3) (ca_cons (ce_var 4) ca_nil)))))) (css_one (cs_expr (ce_meth kx.tk (t_Log_lost_second T) (hr.mono (by decide)) (ce_var 0) (ca_cons (ce_var 2) (ca_cons (ce_var 3) (ca_cons (ce_var 4) ca_nil))))))))) (fun ρ => (css_one (cs_ret ce_non))))) (.cons (h := h1__law_error) T.tk_InvalidPlace rfl (by decide) (fun a oe cls d pn ρ0 ex hz hf => suite1 (h := h1__law_error) (fun ρ hi => (css_one (cs_ret (ce_xf 5 T.xf_InvalidPlace_place hz hf hi))))) par_h1__law_error (pt_cons T.pt_InvalidPlace_UnknownJudge pt_nil) (.cons (h := h2__law_error) T.tk_UnknownJudge rfl (by decide) (fun a oe cls d pn ρ0 ex hz hf => suite1 (h := h2__law_error) (fun ρ hi => (css_one (cs_ret (ce_xf 5 T.xf_UnknownJudge_name hz hf hi))))) par_h2__law_error pt_nil .nil))))
theorem ok_law (T : Tx w K mg) {f : Addr} {fd : FuncData} (F : Fun K "law" "law" s_law f fd) : FnOk P w K mg base (L2.CX P w) 9 f fd ["script"] (spM K mg fl_law m_law) := by
  refine def_ok (N := N_law) (m := m_law_b) F sc_law rfl (by decide) (fun cdv A outer s H E ρ hr kx => ?_)
  exact (css_cons (cs_set 1 sc_law.nd (ce_call kx.tk (t__law_numbers T) (hr.mono (by decide)) (ca_consW (cw_var 0) (ca_cons ce_int ca_nil)))) (fun ρ => (css_cons (cs_set 2 sc_law.nd (ce_call kx.tk (t__law_parts T) (hr.mono (by decide)) (ca_cons (ce_var 1) (ca_cons ce_int (ca_cons ce_int (ca_cons ce_int ca_nil)))))) (fun ρ => (css_cons (cs_set 3 sc_law.nd (ce_call kx.tk (t__law_log T) (hr.mono (by decide)) (ca_cons (ce_var 2) ca_nil))) (fun ρ => (css_cons (cs_set 4 sc_law.nd (ce_ix (cw_var 2) ce_int)) (fun ρ => (css_cons (cs_set 5 sc_law.nd (ce_callB call_len ok_len T.b_len PySem.boot_len (ca_consW (cw_var 4) ca_nil))) (fun ρ => (css_cons (cs_setLc 6 kx.calm sc_law.nd (ci_range1 T.b_range (ce_var 5)) (blkOk_by (own := [("at", 14)]) (N := N_law) (sc := defScope s_law) (by decide +kernel)) (t := (.one 14)) (fun _ _ _ _ _ => (pg_name (i := 14) sc_law.nd rfl (by first | exact Or.inl rfl | exact Or.inr rfl))) (fun _ _ _ _ _ ρ => (cps_one (ct_cmp (op_eqD (hu64 hr)) ok_eqD (RB.CE.w (ce_ix (RB.CE.w (ce_ix (cw_var 4) (ce_var 14))) ce_int)) (RB.CE.w ce_str) (nomark _)))) (fun _ _ _ _ _ ρ => (ce_var 14)) (sw_true rfl rfl rfl (by decide +kernel))) (fun ρ => (css_cons (cs_set 7 sc_law.nd (ce_meth0 kx.tk (t_Log_backwards T) (hr.mono (by decide)) (ce_var 3))) (fun ρ => (css_cons (cs_for (t := (.one 8)) (bo := b2_law) kx (ci_var 6) (pg_name (i := 8) sc_law.nd rfl (by first | exact Or.inl rfl | exact Or.inr rfl)) (fun ρ => (css_one (cs_for (t := (.one 9)) (bo := b1_law) kx (ci_var 6) (pg_name (i := 9) sc_law.nd rfl (by first | exact Or.inl rfl | exact Or.inr rfl)) (fun ρ => (css_cons (cs_set 10 sc_law.nd (ce_call kx.tk (t__law_in_order T) (hr.mono (by decide)) (ca_cons (ce_var 2) (ca_cons (ce_var 8) (ca_cons (ce_var 9) ca_nil))))) (fun ρ => (css_one (cs_if (cw_pt (cw_or (ct_not (ct_val (ce_call kx.tk (t__law_is T) (hr.mono (by decide)) (ca_cons (ce_meth kx.tk (t_Log_in_order T) (hr.mono (by decide)) (ce_var 3) (ca_cons (ce_var 8) (ca_cons (ce_var 9) ca_nil))) (ca_cons (ce_var 10) ca_nil))))) (cw_one_or (ct_not (ct_val (ce_call kx.tk (t__law_is T) (hr.mono (by decide)) (ca_cons (ce_meth kx.tk (t_Log_in_order T) (hr.mono (by decide)) (ce_var 7) (ca_cons (ce_op op_sub ok_intI (RB.CE.w (ce_op op_sub ok_intI (cw_var 5) (RB.CE.w ce_int))) (cw_var 8)) (ca_cons (ce_op op_sub ok_intI (RB.CE.w (ce_op op_sub ok_intI (cw_var 5) (RB.CE.w ce_int))) (cw_var 9)) ca_nil))) (ca_cons (ce_var 10) ca_nil)))))))) (css_one (cs_ret ce_bl)) css_nil))))))))) (fun ρ => (css_cons (cs_for (t := (.many [11, 12])) (bo := b5_law) kx (ci_list (ce_ix (cw_var 2) ce_int)) (pg_tup rfl (pgs_cons (pg_name (i := 11) sc_law.nd rfl (by first | exact Or.inl rfl | exact Or.inr rfl)) (pgs_cons (pg_name (i := 12) sc_law.nd rfl (by first | exact Or.inl rfl | exact Or.inr rfl)) pgs_nil))) (fun ρ => (css_one (cs_for (t := (.one 13)) (bo := b4_law) kx (ci_range1 T.b_range (ce_op op_add ok_intI (cw_var 5) (RB.CE.w ce_int))) (pg_name (i := 13) sc_law.nd rfl (by first | exact Or.inl rfl | exact Or.inr rfl)) (fun ρ => (css_one (cs_for (t := (.one 14)) (bo := b3_law) kx (ci_var 6) (pg_name (i := 14) sc_law.nd rfl (by first | exact Or.inl rfl | exact Or.inr rfl)) (fun ρ => (css_cons (cs_if (ct_not (ct_val (ce_call kx.tk (t__law_is T) (hr.mono (by decide)) (ca_cons (ce_meth kx.tk (t_Log_lost_first T) (hr.mono (by decide)) (ce_var 3) (ca_cons (ce_var 11) (ca_cons (ce_var 13) (ca_cons (ce_var 14) ca_nil)))) (ca_cons (ce_call kx.tk (t__law_lost T) (hr.mono (by decide)) (ca_cons (ce_var 2) (ca_cons (ce_var 11) (ca_cons (ce_var 13) (ca_cons (ce_var 14) (ca_cons ce_bl ca_nil)))))) ca_nil))))) (css_one (cs_ret ce_bl)) css_nil) (fun ρ => (css_one (cs_if (ct_not (ct_val (ce_call kx.tk (t__law_is T) (hr.mono (by decide)) (ca_cons (ce_meth kx.tk (t_Log_lost_second T) (hr.mono (by decide)) (ce_var 3) (ca_cons (ce_var 11) (ca_cons (ce_var 13) (ca_cons (ce_var 14) ca_nil)))) (ca_cons (ce_call kx.tk (t__law_lost T) (hr.mono (by decide)) (ca_cons (ce_var 2) (ca_cons (ce_var 11) (ca_cons (ce_var 13) (ca_cons (ce_var 14) (ca_cons ce_bl ca_nil)))))) ca_nil))))) (css_one (cs_ret ce_bl)) css_nil)))))))))))) (fun ρ => (css_cons (cs_set 11 sc_law.nd (ce_ix (RB.CE.w (ce_ix (RB.CE.w (ce_ix (cw_var 2) ce_int)) ce_int)) ce_int)) (fun ρ => (css_cons (cs_for (t := (.one 15)) (bo := b6_law) kx (ci_list (RB.CF.ce (cf_lst (ca_cons ce_int (ca_cons ce_int ca_nil))))) (pg_name (i := 15) sc_law.nd rfl (by first | exact Or.inl rfl | exact Or.inr rfl)) (fun ρ => (css_cons (cs_if (cw_pt (cw_or (ct_cmp (op_neD (hu64 hr)) ok_neD (RB.CE.w (ce_call kx.tk (t__law_error T) (hr.mono (by decide)) (ca_cons (ce_var 3) (ca_cons (ce_var 15) (ca_cons ce_str (ca_cons (ce_neg ce_int) (ca_cons (ce_neg ce_int) ca_nil))))))) (RB.CE.w ce_str) (nomark _)) (cw_one_or (ct_cmp (op_neD (hu64 hr)) ok_neD (RB.CE.w (ce_call kx.tk (t__law_error T) (hr.mono (by decide)) (ca_cons (ce_var 3) (ca_cons (ce_var 15) (ca_cons (ce_var 11) (ca_cons (ce_neg ce_int) (ca_cons (ce_var 5) ca_nil))))))) (RB.CE.w (ce_neg ce_int)) (nomark _))))) (css_one (cs_ret ce_bl)) css_nil) (fun ρ => (css_one (cs_if (cw_pt (cw_or (ct_cmp (op_neD (hu64 hr)) ok_neD (RB.CE.w (ce_call kx.tk (t__law_error T) (hr.mono (by decide)) (ca_cons (ce_var 3) (ca_cons (ce_var 15) (ca_cons (ce_var 11) (ca_cons (ce_op op_add ok_intI (cw_var 5) (RB.CE.w ce_int)) (ca_cons (ce_neg ce_int) ca_nil))))))) (RB.CE.w (ce_op op_add ok_intI (cw_var 5) (RB.CE.w ce_int))) (nomark _)) (cw_one_or (ct_cmp (op_neD (hu64 hr)) ok_neD (RB.CE.w (ce_call kx.tk (t__law_error T) (hr.mono (by decide)) (ca_cons (ce_var 3) (ca_cons (ce_var 15) (ca_cons (ce_var 11) (ca_cons ce_int (ca_cons (ce_var 5) ca_nil))))))) (cw_var 5) (nomark _))))) (css_one (cs_ret ce_bl)) css_nil)))))) (fun ρ => (css_cons (cs_set 16 sc_law.nd (RB.CF.ce (cf_cat (RB.CF.ce (cf_lc kx.calm sc_law.nd (ci_range1 T.b_range (ce_var 5)) (blkOk_by (own := [("at", 14)]) (N := N_law) (sc := defScope s_law) (by decide +kernel)) (t := (.one 14)) (fun _ _ _ _ _ => (pg_name (i := 14) sc_law.nd rfl (by first | exact Or.inl rfl | exact Or.inr rfl))) (fun _ _ _ _ _ ρ => (cps_one (ct_cmp (op_eqD (hu64 hr)) ok_eqD (RB.CE.w (ce_ix (RB.CE.w (ce_ix (cw_var 4) (ce_var 14))) ce_int)) (RB.CE.w ce_str) (nomark _)))) (fun _ _ _ _ _ ρ => (ce_var 14)))) (RB.CF.ce (cf_lst (ca_cons (ce_var 5) ca_nil)))))) (fun ρ => (css_one (cs_ret (ce_and (ce_cmp (op_eqD (hu64 hr)) ok_eqD (RB.CE.w (ce_call kx.tk (t__law_error T) (hr.mono (by decide)) (ca_cons (ce_var 3) (ca_cons ce_int (ca_cons (ce_var 11) (ca_cons (ce_ix (cw_var 16) ce_int) (ca_cons (ce_neg ce_int) ca_nil))))))) (RB.CE.w (ce_ix (cw_var 16) ce_int)) (nomark _)) (ce_one (ce_cmp (op_eqD (hu64 hr)) ok_eqD (RB.CE.w (ce_call kx.tk (t__law_error T) (hr.mono (by decide)) (ca_cons (ce_var 3) (ca_cons ce_int (ca_cons (ce_var 11) (ca_cons (ce_neg ce_int) (ca_cons (ce_var 5) ca_nil))))))) (RB.CE.w (ce_neg ce_int)) (nomark _))))))))))))))))))))))))))))))
end
end K03


set_option Elab.async false
set_option linter.all false
set_option maxRecDepth 100000
set_option maxHeartbeats 2000000
/-! what the mirrors compute: plain mathematics -/
namespace RB
open PySem L2
/-! evaluation, by lemmas whose proofs the kernel need not look through -/
theorem e_bind {α β : Type} (a : α) (k : α → R β) : (R.ok a).bind k = k a := Eq.trans rfl rfl
theorem e_bindr {α β : Type} (x : Exn) (k : α → R β) : (R.rs x : R α).bind k = .rs x := Eq.trans rfl rfl
theorem e_map {α β : Type} (a : α) (k : α → β) : (R.ok a).map k = .ok (k a) := Eq.trans rfl rfl
theorem e_mapr {α β : Type} (x : Exn) (k : α → β) : (R.rs x : R α).map k = .rs x := Eq.trans rfl rfl
theorem e_onE {α : Type} (a : α) (ρ : List B) (k : α → Option Out) : onE (.ok a) ρ k = k a := Eq.trans rfl rfl
theorem e_onr {α : Type} (x : Exn) (ρ : List B) (k : α → Option Out) : onE (.rs x) ρ k = some (.rs x ρ) := Eq.trans rfl rfl
theorem e_seq (ρ : List B) (k : List B → Option Out) : seqO (some (.nx ρ)) k = k ρ := Eq.trans rfl rfl
theorem e_seqt (d : D) (k : List B → Option Out) : seqO (some (.rt d)) k = some (.rt d) := Eq.trans rfl rfl
theorem e_seqr (x : Exn) (ρ : List B) (k : List B → Option Out) : seqO (some (.rs x ρ)) k = some (.rs x ρ) := Eq.trans rfl rfl
theorem e_of {α : Type} (a : α) : R.of (some a) = .ok a := Eq.trans rfl rfl
theorem e_asB (b : Bool) : asB (.bool b) = .ok b := Eq.trans rfl rfl
theorem e_asI (i : Int) : asI (.int i) = .ok (some i) := Eq.trans rfl rfl
theorem e_lstOf (ds : List D) : lstOf (.list ds) = .ok ds := Eq.trans rfl rfl
theorem e_listOf (ds : List D) : listOf (.list ds) = .ok ds := Eq.trans rfl rfl
theorem e_noRs {α : Type} (a : α) : noRs (.ok a) = .ok a := Eq.trans rfl rfl
theorem e_getB0 (d : D) (ρ : List B) : getB (.dat d :: ρ) 0 = .ok d := Eq.trans rfl rfl
theorem e_getBs (b : B) (ρ : List B) (n : Nat) : getB (b :: ρ) (n + 1) = getB ρ n := Eq.trans rfl rfl
theorem e_getW0 (d : D) (ρ : List B) : getW (.dat d :: ρ) 0 = .ok d := Eq.trans rfl rfl
theorem e_getW0k (ds : List D) (ρ : List B) : getW (.wk ds :: ρ) 0 = .ok (.list ds) := Eq.trans rfl rfl
theorem e_getW0o (ds : List D) (ρ : List B) : getW (.own ds :: ρ) 0 = .ok (.list ds) := Eq.trans rfl rfl
theorem e_getWs (b : B) (ρ : List B) (n : Nat) : getW (b :: ρ) (n + 1) = getW ρ n := Eq.trans rfl rfl
theorem e_getK0 (ds : List D) (ρ : List B) : getK (.dat (.list ds) :: ρ) 0 = .ok ds := Eq.trans rfl rfl
theorem e_getK0k (ds : List D) (ρ : List B) : getK (.wk ds :: ρ) 0 = .ok ds := Eq.trans rfl rfl
theorem e_getKs (b : B) (ρ : List B) (n : Nat) : getK (b :: ρ) (n + 1) = getK ρ n := Eq.trans rfl rfl
theorem e_frz0 (ds : List D) (ρ : List B) : frz 0 (.own ds :: ρ) = .dat (.list ds) :: ρ := Eq.trans rfl rfl
theorem e_frzs (b : B) (ρ : List B) (n : Nat) : frz (n + 1) (b :: ρ) = b :: frz n ρ := by
  unfold frz
  rw [List.getElem?_cons_succ]
  split <;> rfl
theorem e_both (b : Bool) (r : R D) : bothB (.ok (.bool b)) r = if b = true then r else .ok (.bool false) := Eq.trans rfl rfl
theorem e_either (b : Bool) (r : R D) : eitherB (.ok (.bool b)) r = if b = true then .ok (.bool true) else r := Eq.trans rfl rfl
theorem e_bothT (b : Bool) (r : R Bool) : bothT (.ok b) r = if b = true then r else .ok false := Eq.trans rfl rfl
theorem e_eitherT (b : Bool) (r : R Bool) : eitherT (.ok b) r = if b = true then .ok true else r := Eq.trans rfl rfl
theorem e_add (i j : Int) : addD (.int i) (.int j) = .ok (.int (i + j)) := Eq.trans rfl rfl
theorem e_sub (i j : Int) : subD (.int i) (.int j) = .ok (.int (i - j)) := Eq.trans rfl rfl
theorem e_lt (i j : Int) : ltD (.int i) (.int j) = .ok (.bool (decide (i < j))) := Eq.trans rfl rfl
theorem e_le (i j : Int) : leD (.int i) (.int j) = .ok (.bool (decide (i ≤ j))) := Eq.trans rfl rfl
theorem e_gt (i j : Int) : gtD (.int i) (.int j) = .ok (.bool (decide (j < i))) := Eq.trans rfl rfl
theorem e_ge (i j : Int) : geD (.int i) (.int j) = .ok (.bool (decide (j ≤ i))) := Eq.trans rfl rfl
theorem e_intF (i : Int) : intF [.int i] = .ok (.int i) := Eq.trans rfl rfl
theorem e_neg (i : Int) : negD (.int i) = .ok (.int (-i)) := Eq.trans rfl rfl
theorem e_lenL (ds : List D) : lenD [.list ds] = .ok (.int (ds.length : Nat)) := Eq.trans rfl rfl
theorem e_lenT (ds : List D) : lenD [.tuple ds] = .ok (.int (ds.length : Nat)) := Eq.trans rfl rfl
theorem e_max (i j : Int) : maxD [.int i, .int j] = .ok (.int (if j > i then j else i)) := Eq.trans rfl rfl
theorem e_unfl0 : unfl [] = .ok [] := Eq.trans rfl rfl
theorem e_unfl1 (d : D) (xs : List (Bool × D)) : unfl ((false, d) :: xs) = (unfl xs).map (d :: ·) := by
  unfold unfl
  simp only [List.all_cons, Bool.not_false, Bool.true_and, List.map_cons]
  split <;> rfl
theorem small_is {ds : List D} (h : ds.length ≤ 100000) : small ds = .ok ds := if_pos h
theorem e_small0 : small [] = .ok [] := small_is (by simp)
theorem e_small1 (a : D) : small [a] = .ok [a] := small_is (by simp)
theorem e_small2 (a b : D) : small [a, b] = .ok [a, b] := small_is (by simp)
theorem e_small3 (a b c : D) : small [a, b, c] = .ok [a, b, c] := small_is (by simp)
theorem e_small4 (a b c d : D) : small [a, b, c, d] = .ok [a, b, c, d] := small_is (by simp)
theorem e_small5 (a b c d e : D) : small [a, b, c, d, e] = .ok [a, b, c, d, e] := small_is (by simp)
theorem e_small8 (a b c d e f g h : D) : small [a, b, c, d, e, f, g, h] = .ok [a, b, c, d, e, f, g, h] := small_is (by simp)
theorem e_runt (d : D) : runO (some (.rt d)) = .ok d := Eq.trans rfl rfl
theorem e_runn (ρ : List B) : runO (some (.nx ρ)) = .ok .none := Eq.trans rfl rfl
theorem e_runr (x : Exn) (ρ : List B) : runO (some (.rs x ρ)) = .rs x := Eq.trans rfl rfl
theorem forO_rule {t : Tg} {body : List B → Option Out} (I : Nat → List B → Prop) {ds : List D} {ρ : List B} (h : I 0 ρ)
    (step : ∀ i d ρ, ds[i]? = some d → I i ρ → ∃ ρ1 ρ', t.set d ρ = some ρ1 ∧ (body ρ1 = some (.nx ρ') ∨ body ρ1 = some (.ct ρ')) ∧ I (i + 1) ρ') : ∃ ρ', forO t body ds ρ = some (.nx ρ') ∧ I ds.length ρ' := by
  induction ds generalizing I ρ with
  | nil => exact ⟨ρ, rfl, h⟩
  | cons d ds ih =>
    obtain ⟨ρ1, ρ', h1, h2, h3⟩ := step 0 d ρ rfl h
    obtain ⟨ρ2, h4, h5⟩ := ih (fun i => I (i + 1)) h3 fun i d ρ hd hi => step (i + 1) d ρ hd hi
    refine ⟨ρ2, ?_, h5⟩
    unfold forO
    rw [h1]
    rcases h2 with h2 | h2 <;> simp only [h2] <;> exact h4
theorem range_at {lo : Int} {n i : Nat} {d : D} (h : (rangeD lo n)[i]? = some d) : d = .int (lo + (i : Nat)) ∧ i < n := by
  unfold rangeD at h
  rw [List.getElem?_map] at h
  have hi : i < n := by
    cases e : (List.range n)[i]? with
    | none => rw [e] at h; cases h
    | some x =>
      have := (List.getElem?_eq_some_iff.mp e).1
      simpa using this
  rw [List.getElem?_range hi] at h
  cases h
  exact ⟨rfl, hi⟩
theorem log2_small {n : Nat} (h : n < 2 ^ 64) : n.log2 < 64 := by
  by_cases z : n = 0
  · subst z
    decide
  · exact (Nat.log2_lt z).mpr h
theorem mulD_ok {i j : Int} (hi : i.natAbs < 2 ^ 64) (hj : j.natAbs < 2 ^ 64) : mulD (.int i) (.int j) = .ok (.int (i * j)) := by
  have h1 := log2_small hi
  have h2 := log2_small hj
  have : decide (i.natAbs.log2 + j.natAbs.log2 < 1000000) = true := decide_eq_true (by omega)
  show (if decide (i.natAbs.log2 + j.natAbs.log2 < 1000000) = true then _ else _) = _
  rw [if_pos this]
theorem modD_ok {i j : Int} (hj : j ≠ 0) : modD (.int i) (.int j) = .ok (.int (i.fmod j)) := by
  show (if decide (j ≠ 0) = true then _ else _) = _
  rw [if_pos (decide_eq_true hj)]
theorem fdivD_ok {i j : Int} (hj : j ≠ 0) (hk : j.natAbs < 1073741824) : fdivD (.int i) (.int j) = .ok (.int (i.fdiv j)) := by
  show (if (decide (j ≠ 0) && decide (j.natAbs < 1073741824)) = true then _ else _) = _
  rw [if_pos (by simp [hj, hk])]
theorem addD_ok {i j : Int} : addD (.int i) (.int j) = .ok (.int (i + j)) := rfl
theorem subD_ok {i j : Int} : subD (.int i) (.int j) = .ok (.int (i - j)) := rfl
theorem fmod_pos {i j : Int} (h : 0 < j) : 0 ≤ i.fmod j ∧ i.fmod j < j := ⟨Int.fmod_nonneg_of_pos i h, Int.fmod_lt_of_pos i h⟩
theorem rng1_ok {j : Int} (h1 : -(2 ^ 62) ≤ j) (h2 : j < 2 ^ 62) : rng1 (.int j) = .ok (rangeD 0 j.toNat) := if_pos ⟨h1, h2⟩
theorem appE_ok {ρ : List B} {i : Nat} {ds : List D} {d : D} (h : ρ[i]? = some (.own ds)) (hl : ds.length < 100000) : appE ρ i (.ok d) = some (.nx (ρ.set i (.own (ds ++ [d])))) := by
  unfold appE
  rw [h]
  show (if _ then _ else _) = _
  rw [if_pos hl]
/-- integers, as data -/
abbrev intL (ns : List Int) : List D := ns.map .int
theorem ixD_list {ds : List D} {k : Nat} {d : D} (h : ds[k]? = some d) : ixD (.list ds) (.int (k : Int)) = .ok d := by
  show R.of (atI ds (k : Int)) = _
  rw [atI_nat h]
  rfl
theorem ixD_tup {ds : List D} {k : Nat} {d : D} (h : ds[k]? = some d) : ixD (.tuple ds) (.int (k : Int)) = .ok d := by
  show R.of (atI ds (k : Int)) = _
  rw [atI_nat h]
  rfl
theorem ixD_ints {ns : List Int} {k : Nat} (h : k < ns.length) : ixD (.list (intL ns)) (.int (k : Int)) = .ok (.int (ns.getD k 0)) := ixD_list (by
  rw [List.getElem?_map, List.getElem?_eq_getElem h, List.getD_eq_getElem?_getD, List.getElem?_eq_getElem h]
  rfl)
theorem cutG_take {α : Type} (xs : List α) (k : Nat) : cutG xs none (some (k : Int)) = xs.take k := by
  unfold cutG
  rw [HT.sIx_none, HT.sIx_nat, List.drop_zero, Nat.sub_zero]
  rcases Nat.le_total k xs.length with h | h
  · rw [Nat.min_eq_left h]
  · rw [Nat.min_eq_right h, List.take_of_length_le (Nat.le_refl _), List.take_of_length_le h]
theorem intL_len (ns : List Int) : (intL ns).length = ns.length := List.length_map _
theorem intL_at {ns : List Int} {i : Nat} {d : D} (h : (intL ns)[i]? = some d) : ∃ z, ns[i]? = some z ∧ d = .int z := by
  rw [List.getElem?_map] at h
  cases e : ns[i]? with
  | none => rw [e] at h; cases h
  | some z => rw [e] at h; cases h; exact ⟨z, rfl, rfl⟩
theorem intL_add (a b : List Int) : intL a ++ intL b = intL (a ++ b) := List.map_append.symm
end RB


set_option Elab.async false
set_option linter.all false
set_option maxRecDepth 100000
set_option maxHeartbeats 2000000
/-! logs as plain data -/
namespace RB
open PySem L2
inductive Ev where
  | ans (j i : Str) (g : Int)
  | res (j : Str)
deriving DecidableEq
def Ev.d : Ev → D
  | .ans j i g => .tuple [.str "answer", .str j, .str i, .int g]
  | .res j => .tuple [.str "reset", .str j]
def Ev.j : Ev → Str
  | .ans j _ _ => j
  | .res j => j
def Ev.isA : Ev → Bool
  | .ans _ _ _ => true
  | .res _ => false
abbrev strL (ss : List Str) : List D := ss.map .str
def jD (p : Str × Str) : D := .tuple [.str p.1, .str p.2]
abbrev jL (js : List (Str × Str)) : List D := js.map jD
abbrev evL (es : List Ev) : List D := es.map Ev.d
structure Pt where
  items : List Str
  grades : Int
  judges : List (Str × Str)
  events : List Ev
deriving DecidableEq
def Pt.d (p : Pt) : D := .tuple [.list (strL p.items), .int p.grades, .list (jL p.judges), .list (evL p.events)]
def driftS : List Str := ["rises", "falls", "stays"]
def signS : Str := "abcdefghijklmnopqrstuvwxyz0123456789"
def isNm (s : Str) : Bool := decide (1 ≤ s.length) && decide (s.length ≤ 12) && s.cps.toList.all fun c => decide (c ∈ signS.cps.toList)
def evOk (items names : List Str) (g : Int) : Ev → Prop
  | .ans j i x => j ∈ names ∧ i ∈ items ∧ 0 ≤ x ∧ x ≤ g
  | .res j => j ∈ names
structure Pt.Ok (p : Pt) : Prop where
  in1 : p.items ≠ []
  in2 : p.items.length ≤ 20
  inN : ∀ s ∈ p.items, isNm s = true
  inD : p.items.Nodup
  g1 : 1 ≤ p.grades
  g2 : p.grades ≤ 9
  jn1 : p.judges ≠ []
  jn2 : p.judges.length ≤ 8
  jnN : ∀ q ∈ p.judges, isNm q.1 = true
  jnD : (p.judges.map (·.1)).Nodup
  jnR : ∀ q ∈ p.judges, q.2 ∈ driftS
  en : p.events.length ≤ 120
  eo : ∀ e ∈ p.events, evOk p.items (p.judges.map (·.1)) p.grades e
theorem ixD_i {ds : List D} {i : Int} (h0 : 0 ≤ i) (h : i < ds.length) : ∃ d, ixD (.list ds) (.int i) = .ok d ∧ ds[i.toNat]? = some d := by
  have hl : i.toNat < ds.length := by omega
  refine ⟨ds[i.toNat], ?_, List.getElem?_eq_getElem hl⟩
  have := @ixD_list ds i.toNat _ (List.getElem?_eq_getElem hl)
  rwa [Int.toNat_of_nonneg h0] at this
theorem ixD_n {ns : List Int} {i : Int} (h0 : 0 ≤ i) (h : i < ns.length) : ixD (.list (intL ns)) (.int i) = .ok (.int (ns.getD i.toNat 0)) := by
  have := @ixD_ints ns i.toNat (by omega)
  rwa [Int.toNat_of_nonneg h0] at this
end RB


set_option Elab.async false
set_option linter.all false
set_option maxRecDepth 100000
set_option maxHeartbeats 2000000
/-! equality, membership -/
namespace RB
open PySem L2
abbrev sOk (s : Str) : Prop := PyData.strOk s = true
theorem shp_int (i : Int) : SeqAt.shaped (.int i) = true := by simp [SeqAt.shaped, PyData.canLay0, PyData.depth]
theorem shp_bool (i : Bool) : SeqAt.shaped (.bool i) = true := by simp [SeqAt.shaped, PyData.canLay0, PyData.depth]
theorem shp_none : SeqAt.shaped .none = true := by simp [SeqAt.shaped, PyData.canLay0, PyData.depth]
theorem shp_str {s : Str} (h : sOk s) : SeqAt.shaped (.str s) = true := by simp [SeqAt.shaped, PyData.canLay0, PyData.depth]; exact h
theorem e_eqI (a b : Int) : eqD (.int a) (.int b) = .ok (.bool (decide (a = b))) := by
  unfold eqD
  rw [if_pos ⟨shp_int a, shp_int b⟩]
  simp [PyData.eqv]
  rfl
theorem e_neI (a b : Int) : neD (.int a) (.int b) = .ok (.bool (!decide (a = b))) := by
  unfold neD
  rw [if_pos ⟨shp_int a, shp_int b⟩]
  simp [PyData.eqv]
  rfl
theorem e_eqB (a b : Bool) : eqD (.bool a) (.bool b) = .ok (.bool (a == b)) := by
  unfold eqD
  rw [if_pos ⟨shp_bool a, shp_bool b⟩]
  simp [PyData.eqv]
theorem e_eqS {a b : Str} (ha : sOk a) (hb : sOk b) : eqD (.str a) (.str b) = .ok (.bool (decide (a = b))) := by
  unfold eqD
  rw [if_pos ⟨shp_str ha, shp_str hb⟩]
  simp [PyData.eqv]
  rfl
theorem e_neS {a b : Str} (ha : sOk a) (hb : sOk b) : neD (.str a) (.str b) = .ok (.bool (!decide (a = b))) := by
  unfold neD
  rw [if_pos ⟨shp_str ha, shp_str hb⟩]
  simp [PyData.eqv]
  rfl
/-- events -/
def Ev.sOk : Ev → Prop
  | .ans j i _ => RB.sOk j ∧ RB.sOk i
  | .res j => RB.sOk j
theorem ok_answer : sOk ("answer" : Str) := by decide +kernel
theorem ok_reset : sOk ("reset" : Str) := by decide +kernel
theorem shp_ev {e : Ev} (h : e.sOk) : SeqAt.shaped e.d = true := by
  cases e with
  | ans j i g => simp [SeqAt.shaped, Ev.d, PyData.canLay0, PyData.canLayAll0, PyData.depth, PyData.depthAll]; exact ⟨ok_answer, h.1, h.2⟩
  | res j => simp [SeqAt.shaped, Ev.d, PyData.canLay0, PyData.canLayAll0, PyData.depth, PyData.depthAll]; exact ⟨ok_reset, h⟩
theorem eqv_ev (a b : Ev) : PyData.eqv a.d b.d = decide (a = b) := by
  cases a with
  | ans j i g =>
    cases b with
    | ans j' i' g' =>
      simp only [Ev.d, PyData.eqv, PyData.eqvAll, Ev.ans.injEq, beq_self_eq_true, Bool.true_and, Bool.and_true]
      by_cases h1 : j = j' <;> by_cases h2 : i = i' <;> by_cases h3 : g = g' <;> simp [h1, h2, h3]
    | res j' => simp [Ev.d, PyData.eqv, PyData.eqvAll]
  | res j =>
    cases b with
    | ans j' i' g' => simp [Ev.d, PyData.eqv, PyData.eqvAll]
    | res j' =>
      simp only [Ev.d, PyData.eqv, PyData.eqvAll, Ev.res.injEq, beq_self_eq_true, Bool.true_and, Bool.and_true]
      by_cases h1 : j = j' <;> simp [h1]
theorem lay_all {α : Type} (f : α → D) (xs : List α) (n : Nat) (h : ∀ x ∈ xs, (f x).canLay0 = true ∧ (f x).depth ≤ n) : PyData.canLayAll0 (xs.map f) = true ∧ PyData.depthAll (xs.map f) ≤ n := by
  induction xs with
  | nil => simp [PyData.canLayAll0, PyData.depthAll]
  | cons x xs ih =>
    have h1 := h x List.mem_cons_self
    have h2 := ih fun y hy => h y (List.mem_cons_of_mem _ hy)
    simp only [List.map_cons, PyData.canLayAll0, PyData.depthAll, h1.1, h2.1, Bool.and_self, true_and]
    exact Nat.max_le.mpr ⟨h1.2, h2.2⟩
theorem shp_list {α : Type} (f : α → D) (xs : List α) (n : Nat) (hn : n < 64) (h : ∀ x ∈ xs, (f x).canLay0 = true ∧ (f x).depth ≤ n) : SeqAt.shaped (.list (xs.map f)) = true := by
  have := lay_all f xs n h
  have h2 : PyData.depthAll (xs.map f) + 1 ≤ 64 := by have := this.2; omega
  simp only [SeqAt.shaped, PyData.canLay0, PyData.depth, this.1, Bool.true_and]
  exact decide_eq_true h2
theorem shp_tup {α : Type} (f : α → D) (xs : List α) (n : Nat) (hn : n < 64) (h : ∀ x ∈ xs, (f x).canLay0 = true ∧ (f x).depth ≤ n) : SeqAt.shaped (.tuple (xs.map f)) = true := by
  have := lay_all f xs n h
  have h2 : PyData.depthAll (xs.map f) + 1 ≤ 64 := by have := this.2; omega
  simp only [SeqAt.shaped, PyData.canLay0, PyData.depth, this.1, Bool.true_and]
  exact decide_eq_true h2
theorem shp_evs {es : List Ev} (h : ∀ e ∈ es, e.sOk) : SeqAt.shaped (.list (evL es)) = true := shp_list Ev.d es 1 (by decide) fun e he => by
  have := h e he
  cases e with
  | ans j i g => simp [Ev.d, PyData.canLay0, PyData.canLayAll0, PyData.depth, PyData.depthAll]; exact ⟨ok_answer, this.1, this.2⟩
  | res j => simp [Ev.d, PyData.canLay0, PyData.canLayAll0, PyData.depth, PyData.depthAll]; exact ⟨ok_reset, this⟩
theorem shp_strs {ss : List Str} (h : ∀ s ∈ ss, sOk s) : SeqAt.shaped (.list (strL ss)) = true := shp_list PyData.str ss 0 (by decide) fun s hs => by
  simp [PyData.canLay0, PyData.depth]
  exact h s hs
theorem shp_ints (ns : List Int) : SeqAt.shaped (.list (intL ns)) = true := shp_list PyData.int ns 0 (by decide) fun s hs => by
  simp [PyData.canLay0, PyData.depth]
theorem any_dec {α : Type} [DecidableEq α] (xs : List α) (x : α) : (xs.any fun z => decide (z = x)) = decide (x ∈ xs) := by
  induction xs with
  | nil => simp
  | cons y ys ih =>
    rw [List.any_cons, ih]
    by_cases h : y = x
    · subst h
      simp
    · simp [h, Ne.symm h]
theorem e_inEv (neg : Bool) {e : Ev} {es : List Ev} (he : e.sOk) (h : ∀ e ∈ es, e.sOk) : inD neg e.d (.list (evL es)) = .ok (.bool (if neg = true then !decide (e ∈ es) else decide (e ∈ es))) := by
  have ea : ((evL es).any fun z => PyData.eqv z e.d) = decide (e ∈ es) := by
    rw [List.any_map, ← any_dec]
    exact congrArg (List.any es) (funext fun z => eqv_ev z e)
  show (if SeqAt.shaped e.d = true ∧ SeqAt.shaped (.list (evL es)) = true then _ else _) = _
  rw [if_pos ⟨shp_ev he, shp_evs h⟩, ea]
theorem e_inS (neg : Bool) {s : Str} {ss : List Str} (hs : sOk s) (h : ∀ s ∈ ss, sOk s) : inD neg (.str s) (.list (strL ss)) = .ok (.bool (if neg = true then !decide (s ∈ ss) else decide (s ∈ ss))) := by
  have ea : ((strL ss).any fun z => PyData.eqv z (.str s)) = decide (s ∈ ss) := by
    rw [List.any_map, ← any_dec]
    exact congrArg (List.any ss) (funext fun z => by simp [PyData.eqv]; rfl)
  show (if SeqAt.shaped (.str s) = true ∧ SeqAt.shaped (.list (strL ss)) = true then _ else _) = _
  rw [if_pos ⟨shp_str hs, shp_strs h⟩, ea]
theorem e_inI (neg : Bool) (i : Int) (ns : List Int) : inD neg (.int i) (.list (intL ns)) = .ok (.bool (if neg = true then !decide (i ∈ ns) else decide (i ∈ ns))) := by
  have ea : ((intL ns).any fun z => PyData.eqv z (.int i)) = decide (i ∈ ns) := by
    rw [List.any_map, ← any_dec]
    exact congrArg (List.any ns) (funext fun z => by simp [PyData.eqv]; rfl)
  show (if SeqAt.shaped (.int i) = true ∧ SeqAt.shaped (.list (intL ns)) = true then _ else _) = _
  rw [if_pos ⟨shp_int i, shp_ints ns⟩, ea]
theorem e_countEv {e : Ev} {es : List Ev} (he : e.sOk) (h : ∀ e ∈ es, e.sOk) : countD (.list (evL es)) e.d = .ok (.int ((es.countP fun z => decide (z = e) : Nat) : Int)) := by
  have ea : ((evL es).countP fun z => PyData.eqv z e.d) = es.countP fun z => decide (z = e) := by
    rw [List.countP_map]
    exact congrArg (fun p => List.countP p es) (funext fun z => eqv_ev z e)
  show (if SeqAt.shaped (.list (evL es)) = true ∧ SeqAt.shaped e.d = true then _ else _) = _
  rw [if_pos ⟨shp_evs h, shp_ev he⟩, ea]
end RB


set_option Elab.async false
set_option linter.all false
set_option maxRecDepth 100000
set_option maxHeartbeats 2000000
/-! comprehensions, dicts, objects -/
namespace RB
open PySem L2
theorem comp_map {α : Type} {cond : D → R Bool} {elt : D → R D} (f : α → D) (p : α → Bool) (g : α → D) (xs : List α) (hc : ∀ x ∈ xs, cond (f x) = .ok (p x)) (he : ∀ x ∈ xs, p x = true → elt (f x) = .ok (g x)) : compM cond elt (xs.map f) = .ok ((xs.filter p).map g) := by
  induction xs with
  | nil => rfl
  | cons x xs ih =>
    have ih' := ih (fun y hy => hc y (List.mem_cons_of_mem _ hy)) (fun y hy => he y (List.mem_cons_of_mem _ hy))
    rw [List.map_cons]
    unfold compM
    rw [hc x List.mem_cons_self, e_bind]
    cases h : p x with
    | false =>
      rw [if_neg Bool.false_ne_true, ih', List.filter_cons, h]
      rfl
    | true =>
      rw [if_pos rfl, he x List.mem_cons_self h, e_bind, ih', e_map, List.filter_cons, h]
      rfl
theorem lc_map {α : Type} {t : Tg} {vs : List Nat} {cb : List B → R Bool} {eb : List B → R D} {ρ : List B} (f : α → D) (p : α → Bool) (g : α → D) (xs : List α) (hl : xs.length ≤ 100000) (hc : ∀ x ∈ xs, tgR t (wipeB ρ vs) (f x) cb = .ok (p x))
    (he : ∀ x ∈ xs, p x = true → tgR t (wipeB ρ vs) (f x) eb = .ok (g x)) : lcM t vs cb eb ρ (xs.map f) = .ok ((xs.filter p).map g) := by
  unfold lcM
  rw [if_pos (by rw [List.length_map]; exact hl), comp_map f p g xs hc he]
  rfl
theorem lc_all {α : Type} {t : Tg} {vs : List Nat} {eb : List B → R D} {ρ : List B} (f : α → D) (g : α → D) (xs : List α) (hl : xs.length ≤ 100000) (ht : ∀ x ∈ xs, ∃ ρ', t.set (f x) (wipeB ρ vs) = some ρ' ∧ eb ρ' = .ok (g x)) : lcM t vs (fun _ => .ok true) eb ρ (xs.map f) = .ok (xs.map g) := by
  rw [lc_map f (fun _ => true) g xs hl (fun x hx => ?_) (fun x hx _ => ?_), List.filter_eq_self.mpr (fun _ _ => rfl)]
  · obtain ⟨ρ', h1, _⟩ := ht x hx
    unfold tgR
    rw [h1]
  · obtain ⟨ρ', h1, h2⟩ := ht x hx
    unfold tgR
    rw [h1]
    exact h2
theorem enum_at {ds : List D} {i : Nat} {d : D} (h : (enumD ds)[i]? = some d) : ∃ e, ds[i]? = some e ∧ d = .tuple [.int (i : Nat), e] := by
  unfold enumD at h
  rw [List.getElem?_map, List.getElem?_zipIdx] at h
  cases e : ds[i]? with
  | none => rw [e] at h; cases h
  | some x => rw [e] at h; cases h; exact ⟨x, rfl, by simp⟩
theorem enum_len (ds : List D) : (enumD ds).length = ds.length := by simp [enumD]
theorem bools_map (bs : List Bool) : bools (bs.map PyData.bool) = some bs := by
  induction bs with
  | nil => rfl
  | cons b bs ih => simp [bools, ih]
theorem e_all (bs : List Bool) : allD [.list (bs.map PyData.bool)] = .ok (.bool (bs.all id)) := by
  unfold allD
  simp only [bools_map]
/-- a dict of texts -/
abbrev drK (js : List (Str × Str)) : List (D × D) := js.map fun q => (.str q.1, .str q.2)
theorem pairs_dr : ∀ js : List (Str × Str), pairsK (drK js) = some (js.map fun q => (.inr q.1, .str q.2))
  | [] => rfl
  | q :: js => by
    show ((asK (.str q.1)).bind fun k => (pairsK (drK js)).map ((k, PyData.str q.2) :: ·)) = _
    rw [pairs_dr js]
    rfl
theorem look_dr (js : List (Str × Str)) (j : Str) : lookD (js.map fun q => ((.inr q.1 : Key), PyData.str q.2)) (.inr j) = (js.lookup j).map PyData.str := by
  unfold lookD
  induction js with
  | nil => rfl
  | cons q js ih =>
    rw [List.map_cons, List.find?_cons, List.lookup_cons]
    by_cases h : q.1 = j
    · subst h
      simp
    · have h1 : decide ((Sum.inr q.1 : Key) = .inr j) = false := decide_eq_false fun z => h (Sum.inr.inj z)
      have h2 : (j == q.1) = false := beq_eq_false_iff_ne.mpr fun z => h z.symm
      rw [h1, h2]
      exact ih
theorem e_getDr {js : List (Str × Str)} {j : Str} {d : Str} (h : js.lookup j = some d) : getDD (.dict (drK js)) (.str j) = .ok (.str d) := by
  unfold getDD dictOf
  simp only [pairs_dr, e_of, e_bind]
  rw [show asK (.str j) = some (.inr j) from rfl, e_of, e_bind, look_dr, h]
  rfl
theorem e_inDr (neg : Bool) (js : List (Str × Str)) (j : Str) : inDD neg (.str j) (.dict (drK js)) = .ok (.bool (if neg = true then !(js.lookup j).isSome else (js.lookup j).isSome)) := by
  unfold inDD dictOf
  simp only [pairs_dr, e_of, e_bind]
  rw [show asK (.str j) = some (.inr j) from rfl, e_of, e_map, look_dr, Option.isSome_map]
/-- the drifts as a new dict -/
theorem comp_dr {cond : D → R Bool} {ek ev : D → R D} (js : List (Str × Str)) (acc : List (Str × Str)) (hn : (acc ++ js).map (·.1) |>.Nodup) (hc : ∀ q ∈ js, cond (jD q) = .ok true) (hk : ∀ q ∈ js, ek (jD q) = .ok (.str q.1)) (hv : ∀ q ∈ js, ev (jD q) = .ok (.str q.2)) :
    compD cond ek ev (jL js) (acc.map fun q => (.inr q.1, .str q.2)) = .ok ((acc ++ js).map fun q => (.inr q.1, .str q.2)) := by
  induction js generalizing acc with
  | nil => simp [compD]
  | cons q js ih =>
    have p : putD (acc.map fun q => ((.inr q.1 : Key), PyData.str q.2)) (.inr q.1) (.str q.2) = (acc ++ [q]).map fun q => ((.inr q.1 : Key), PyData.str q.2) := by
      unfold putD
      rw [if_neg]
      · simp
      · rw [List.any_map]
        intro z
        obtain ⟨r, hr, e⟩ := List.any_eq_true.mp z
        have e' : r.1 = q.1 := Sum.inr.inj (of_decide_eq_true e)
        rw [List.map_append, List.nodup_append] at hn
        exact hn.2.2 r.1 (List.mem_map_of_mem hr) q.1 (by simp) e'
    rw [show jL (q :: js) = jD q :: jL js from rfl]
    unfold compD
    rw [hc q List.mem_cons_self, e_bind, if_pos rfl, hk q List.mem_cons_self, e_bind, hv q List.mem_cons_self, e_bind, show asK (.str q.1) = some (.inr q.1) from rfl, e_of, e_bind, p,
      ih (acc ++ [q]) (by simpa using hn) (fun r hr => hc r (List.mem_cons_of_mem _ hr)) (fun r hr => hk r (List.mem_cons_of_mem _ hr)) (fun r hr => hv r (List.mem_cons_of_mem _ hr))]
    simp
end RB


set_option Elab.async false
set_option linter.all false
set_option maxRecDepth 100000
set_option maxHeartbeats 2000000
namespace RB
open PySem L2
/-! names -/
theorem sign_ok : ∀ c ∈ signS.cps.toList, c < 0x110000 := by decide +kernel
theorem nm_ok {s : Str} (h : isNm s = true) : sOk s := by
  unfold isNm at h
  simp only [Bool.and_eq_true, List.all_eq_true, decide_eq_true_eq] at h
  show s.cps.all _ = true
  rw [← Array.all_toList, List.all_eq_true]
  intro c hc
  exact decide_eq_true (sign_ok c (h.2 c hc))
theorem nm_len {s : Str} (h : isNm s = true) : 1 ≤ s.length ∧ s.length ≤ 12 := by
  unfold isNm at h
  simp only [Bool.and_eq_true, decide_eq_true_eq] at h
  exact h.1
theorem nm_signs {s : Str} (h : isNm s = true) : ∀ c ∈ s.cps.toList, c ∈ signS.cps.toList := by
  unfold isNm at h
  simp only [Bool.and_eq_true, List.all_eq_true, decide_eq_true_eq] at h
  exact h.2
theorem dr_ok {s : Str} (h : s ∈ driftS) : sOk s := by
  revert s
  decide +kernel
theorem Pt.Ok.evs {p : Pt} (h : p.Ok) : ∀ e ∈ p.events, e.sOk := fun e he => by
  have := h.eo e he
  have nj : ∀ j, j ∈ p.judges.map (·.1) → sOk j := fun j hj => by
    obtain ⟨q, hq, rfl⟩ := List.mem_map.mp hj
    exact nm_ok (h.jnN q hq)
  cases e with
  | ans j i g => exact ⟨nj _ this.1, nm_ok (h.inN _ this.2.1)⟩
  | res j => exact nj _ this
/-! a log's object -/
def rct (es : List Ev) (j : Str) : Nat := es.countP fun z => decide (z = .res j)
def rsts (es : List Ev) : List Int := (es.zipIdx).map fun p => ((rct (es.take p.2) p.1.j : Nat) : Int)
theorem rsts_len (es : List Ev) : (rsts es).length = es.length := by simp [rsts]
theorem rsts_at {es : List Ev} {i : Nat} {e : Ev} (h : es[i]? = some e) : (rsts es)[i]? = some ((rct (es.take i) e.j : Nat) : Int) := by
  unfold rsts
  rw [List.getElem?_map, List.getElem?_zipIdx, h]
  simp
def logF (p : Pt) : List (Str × D) := [("_item_names", .list (strL p.items)), ("_grades", .int p.grades), ("_judges", .list (jL p.judges)), ("_events", .list (evL p.events)), ("_drifts", .dict (drK p.judges)), ("_resets", .list (intL (rsts p.events)))]
def logD (p : Pt) : D := insD "Log" (logF p)
theorem fld_items (p : Pt) : fldD "Log" "_item_names" (logD p) = .ok (.list (strL p.items)) := rfl
theorem fld_grades (p : Pt) : fldD "Log" "_grades" (logD p) = .ok (.int p.grades) := rfl
theorem fld_judges (p : Pt) : fldD "Log" "_judges" (logD p) = .ok (.list (jL p.judges)) := rfl
theorem fld_events (p : Pt) : fldD "Log" "_events" (logD p) = .ok (.list (evL p.events)) := rfl
theorem fld_drifts (p : Pt) : fldD "Log" "_drifts" (logD p) = .ok (.dict (drK p.judges)) := rfl
theorem fld_resets (p : Pt) : fldD "Log" "_resets" (logD p) = .ok (.list (intL (rsts p.events))) := rfl
theorem chain_ok {f g : D → D → R D} {x y z : D} {b1 b2 : Bool} (h1 : f x y = .ok (.bool b1)) (h2 : g y z = .ok (.bool b2)) : chainD f g (.ok x) (.ok y) (.ok z) = .ok (.bool (b1 && b2)) := by
  unfold chainD
  rw [e_bind, e_bind, h1, e_bind, e_asB, e_bind]
  cases b1
  · rfl
  · rw [if_pos rfl, e_bind, h2]
    rfl
theorem look_cons {κ α : Type} [DecidableEq κ] (p : κ × α) (kvs : List (κ × α)) (k : κ) : lookD (p :: kvs) k = if p.1 = k then some p.2 else lookD kvs k := by
  unfold lookD
  rw [List.find?_cons]
  by_cases h : p.1 = k
  · rw [decide_eq_true h, if_pos h]
    rfl
  · rw [decide_eq_false h, if_neg h]
theorem look_app {κ α : Type} [DecidableEq κ] (kvs : List (κ × α)) (k k' : κ) (v : α) (h : ∀ p ∈ kvs, p.1 ≠ k) : lookD (kvs ++ [(k, v)]) k' = if k = k' then some v else lookD kvs k' := by
  induction kvs with
  | nil => rw [List.nil_append, look_cons]
  | cons p kvs ih =>
    rw [List.cons_append, look_cons, look_cons, ih fun q hq => h q (List.mem_cons_of_mem _ hq)]
    by_cases hk : k = k'
    · rw [if_pos hk, if_neg (fun z => h p List.mem_cons_self (z.trans hk.symm)), if_pos hk]
    · rw [if_neg hk, if_neg hk]
theorem look_map {κ α : Type} [DecidableEq κ] (kvs : List (κ × α)) (k k' : κ) (v : α) : lookD (kvs.map fun kv => if kv.1 = k then (kv.1, v) else kv) k' = if k = k' ∧ (kvs.any fun kv => decide (kv.1 = k)) = true then some v else lookD kvs k' := by
  induction kvs with
  | nil => simp [lookD]
  | cons p kvs ih =>
    rw [List.map_cons, look_cons, look_cons, ih, List.any_cons]
    by_cases hp : p.1 = k
    · rw [if_pos hp]
      by_cases hk : k = k'
      · subst hk
        simp [hp]
      · have : ¬ p.1 = k' := fun z => hk (hp.symm.trans z)
        simp [hk, this]
    · rw [if_neg hp]
      by_cases hk : k = k'
      · subst hk
        rw [if_neg hp, decide_eq_false hp, Bool.false_or, if_neg hp]
      · simp [hk]
theorem look_put {κ α : Type} [DecidableEq κ] (kvs : List (κ × α)) (k k' : κ) (v : α) : lookD (putD kvs k v) k' = if k = k' then some v else lookD kvs k' := by
  unfold putD
  by_cases h : (kvs.any fun kv => decide (kv.1 = k)) = true
  · rw [if_pos h, look_map, h]
    simp
  · rw [if_neg h, look_app]
    intro p hp z
    exact h (List.any_eq_true.mpr ⟨p, hp, decide_eq_true z⟩)
end RB


set_option Elab.async false
set_option linter.all false
set_option maxRecDepth 100000
set_option maxHeartbeats 2000000
namespace RB
open PySem L2
open PySem L2
/-! places -/
abbrev natL (ns : List Nat) : List D := ns.map fun (k : Nat) => .int (k : Int)
def evA (es : List Ev) (i : Nat) : Ev := es.getD i (.res Str.empty)
theorem evA_of {es : List Ev} {i : Nat} (h : i < es.length) : es[i]? = some (evA es i) := by
  unfold evA
  rw [List.getD_eq_getElem?_getD, List.getElem?_eq_getElem h]
  rfl
theorem evA_out {es : List Ev} {i : Nat} (h : es.length ≤ i) : evA es i = .res Str.empty := by
  unfold evA
  rw [List.getD_eq_getElem?_getD, List.getElem?_eq_none h]
  rfl
/-- an answer stands there -/
def isAt (es : List Ev) (i : Nat) : Bool := (evA es i).isA
theorem isAt_lt {es : List Ev} {i : Nat} (h : isAt es i = true) : i < es.length := by
  apply Classical.byContradiction
  intro z
  unfold isAt at h
  rw [evA_out (by omega)] at h
  cases h
def isAns (es : List Ev) (i : Int) : Bool := decide (0 ≤ i) && isAt es i.toNat
def ansN (es : List Ev) : List Nat := (List.range es.length).filter (isAt es)
theorem mem_ansN {es : List Ev} {i : Nat} : i ∈ ansN es ↔ isAt es i = true := by
  unfold ansN
  rw [List.mem_filter, List.mem_range]
  exact ⟨fun h => h.2, fun h => ⟨isAt_lt h, h⟩⟩
theorem enum_range (ds : List D) : enumD ds = (List.range ds.length).map fun i => .tuple [.int (i : Nat), ds.getD i .none] := by
  apply List.ext_getElem?
  intro i
  rw [List.getElem?_map]
  unfold enumD
  rw [List.getElem?_map, List.getElem?_zipIdx]
  by_cases h : i < ds.length
  · rw [List.getElem?_range h, List.getElem?_eq_getElem h]
    simp [h]
  · rw [List.getElem?_eq_none (l := ds) (by omega), List.getElem?_eq_none (l := List.range ds.length) (by rw [List.length_range]; omega)]
    rfl
theorem enum_ev (es : List Ev) : enumD (evL es) = (List.range es.length).map fun i => .tuple [.int (i : Nat), (evA es i).d] := by
  rw [enum_range, List.length_map]
  refine List.map_congr_left fun i hi => ?_
  have h := List.mem_range.mp hi
  rw [List.getD_eq_getElem?_getD, List.getElem?_map, evA_of h]
  rfl
theorem ix_ev {es : List Ev} {i : Nat} (h : i < es.length) : ixD (.list (evL es)) (.int (i : Int)) = .ok (evA es i).d := ixD_list (by rw [List.getElem?_map, evA_of h]; rfl)
theorem ix_ev0 (e : Ev) : ixD e.d (.int 0) = .ok (.str (if e.isA = true then "answer" else "reset")) := by cases e <;> rfl
theorem ix_ev1 (e : Ev) : ixD e.d (.int 1) = .ok (.str e.j) := by cases e <;> rfl
theorem kind_ok (e : Ev) : sOk (if e.isA = true then ("answer" : Str) else "reset") := by
  cases e.isA
  · exact ok_reset
  · exact ok_answer
theorem kind_A (e : Ev) : eqD (.str (if e.isA = true then ("answer" : Str) else "reset")) (.str "answer") = .ok (.bool e.isA) := by
  rw [e_eqS (kind_ok e) ok_answer]
  cases e.isA
  · rfl
  · rfl
theorem kind_R (e : Ev) : eqD (.str (if e.isA = true then ("answer" : Str) else "reset")) (.str "reset") = .ok (.bool (!e.isA)) := by
  rw [e_eqS (kind_ok e) ok_reset]
  cases e.isA
  · rfl
  · rfl
theorem evA_ok {es : List Ev} (h : ∀ e ∈ es, e.sOk) {i : Nat} (hi : i < es.length) : sOk (evA es i).j := by
  have := h _ (List.mem_of_getElem? (evA_of hi))
  cases e : evA es i with
  | ans j it g => rw [e] at this; exact this.1
  | res j => rw [e] at this; exact this
theorem e_inN (neg : Bool) (k : Nat) (ns : List Nat) : inD neg (.int (k : Int)) (.list (natL ns)) = .ok (.bool (if neg = true then !decide (k ∈ ns) else decide (k ∈ ns))) := by
  have e : natL ns = intL (ns.map fun (k : Nat) => (k : Int)) := by simp [natL, intL]
  have h : ((k : Int) ∈ ns.map fun (k : Nat) => (k : Int)) ↔ k ∈ ns := by
    rw [List.mem_map]
    constructor
    · rintro ⟨a, ha, e⟩
      have : a = k := by omega
      subst this
      exact ha
    · exact fun h => ⟨k, h, rfl⟩
  rw [e, e_inI]
  simp only [h]
theorem natL_len (ns : List Nat) : (natL ns).length = ns.length := List.length_map _
theorem ix_rst {es : List Ev} {i : Nat} (h : i < es.length) : ixD (.list (intL (rsts es))) (.int (i : Int)) = .ok (.int ((rct (es.take i) (evA es i).j : Nat) : Int)) := ixD_list (by
  rw [List.getElem?_map, rsts_at (evA_of h)]
  rfl)
/-- no beginning anew between two places -/
theorem rct_app (a b : List Ev) (j : Str) : rct (a ++ b) j = rct a j + rct b j := List.countP_append
theorem rct_zero (a : List Ev) (j : Str) : rct a j = 0 ↔ .res j ∉ a := by
  unfold rct
  rw [List.countP_eq_zero]
  constructor
  · intro h m
    have := h _ m
    simp at this
  · intro h e m
    rw [decide_eq_true_eq]
    intro z
    subst z
    exact h m
theorem rct_split (es : List Ev) (j : Str) {a b : Nat} (h : a ≤ b) : rct (es.take b) j = rct (es.take a) j + rct ((es.take b).drop a) j := by
  rw [← rct_app]
  congr 1
  have : es.take a = (es.take b).take a := by rw [List.take_take, Nat.min_eq_left h]
  rw [this, List.take_append_drop]
theorem rct_same (es : List Ev) (j : Str) {a b : Nat} (h : a ≤ b) : rct (es.take a) j = rct (es.take b) j ↔ .res j ∉ (es.take b).drop a := by
  rw [← rct_zero, rct_split es j h]
  omega
def orderB (d : Str) (a b : Int) : Bool := if d = "rises" then decide (a ≤ b) else if d = "falls" then decide (b ≤ a) else true
end RB
namespace RB
open PySem L2
open PySem L2
theorem look_mem : ∀ {js : List (Str × Str)} {j : Str}, j ∈ js.map (·.1) → ∃ d, js.lookup j = some d ∧ (j, d) ∈ js
  | [], j, h => by cases h
  | q :: js, j, h => by
    rw [List.lookup_cons]
    by_cases z : j = q.1
    · subst z
      rw [beq_self_eq_true]
      exact ⟨q.2, rfl, List.mem_cons_self⟩
    · rw [(beq_eq_false_iff_ne).mpr z]
      have h' : j ∈ js.map (·.1) := by
        rcases List.mem_cons.mp h with e | e
        · exact absurd e z
        · exact e
      obtain ⟨d, h1, h2⟩ := look_mem h'
      exact ⟨d, h1, List.mem_cons_of_mem _ h2⟩
theorem Pt.Ok.look {p : Pt} (h : p.Ok) {j : Str} (hj : j ∈ p.judges.map (·.1)) : ∃ d, p.judges.lookup j = some d ∧ d ∈ driftS := by
  obtain ⟨d, h1, h2⟩ := look_mem hj
  exact ⟨d, h1, h.jnR _ h2⟩
theorem Pt.Ok.evJ {p : Pt} (h : p.Ok) {i : Nat} (hi : i < p.events.length) : (evA p.events i).j ∈ p.judges.map (·.1) := by
  have := h.eo _ (List.mem_of_getElem? (evA_of hi))
  cases e : evA p.events i with
  | ans j it g => rw [e] at this; exact this.1
  | res j => rw [e] at this; exact this
def drf (p : Pt) (j : Str) : Str := (p.judges.lookup j).getD Str.empty
def inOrd (p : Pt) (a b : Nat) : Bool := decide ((evA p.events a).j = (evA p.events b).j) && (decide (rct (p.events.take a) (evA p.events a).j = rct (p.events.take b) (evA p.events b).j) && orderB (drf p (evA p.events a).j) a b)
theorem nms_ok {p : Pt} (h : p.Ok) {j : Str} (hj : j ∈ p.judges.map (·.1)) : sOk j := by
  obtain ⟨q, hq, rfl⟩ := List.mem_map.mp hj
  exact nm_ok (h.jnN q hq)
theorem isAns_nat {es : List Ev} {i : Int} (h : isAns es i = true) : ∃ k : Nat, i = (k : Int) ∧ isAt es k = true := by
  unfold isAns at h
  rw [Bool.and_eq_true, decide_eq_true_eq] at h
  exact ⟨i.toNat, by omega, h.2⟩
end RB
namespace RB
open PySem L2
theorem look_in : ∀ {js : List (Str × Str)} {j d : Str}, js.lookup j = some d → (j, d) ∈ js
  | [], _, _, h => by cases h
  | q :: js, j, d, h => by
    rw [List.lookup_cons] at h
    by_cases z : j = q.1
    · subst z
      rw [beq_self_eq_true] at h
      cases h
      exact List.mem_cons_self
    · rw [(beq_eq_false_iff_ne).mpr z] at h
      exact List.mem_cons_of_mem _ (look_in h)
theorem Pt.Ok.some {p : Pt} (h : p.Ok) {j : Str} (hk : (p.judges.lookup j).isSome = true) : ∃ d, p.judges.lookup j = .some d ∧ d ∈ driftS ∧ j ∈ p.judges.map (·.1) := by
  obtain ⟨d, hd⟩ := Option.isSome_iff_exists.mp hk
  exact ⟨d, hd, h.jnR _ (look_in hd), List.mem_map.mpr ⟨_, look_in hd, rfl⟩⟩
end RB


set_option Elab.async false
set_option linter.all false
set_option maxRecDepth 100000
set_option maxHeartbeats 2000000
namespace RB
open PySem L2
def turnL : List (Str × Str) := [("rises", "falls"), ("falls", "rises"), ("stays", "stays")]
def turnS (d : Str) : Str := (turnL.lookup d).getD d
theorem turn_ok {d : Str} (h : d ∈ driftS) : turnL.lookup d = some (turnS d) ∧ turnS d ∈ driftS := by
  revert d
  decide +kernel
theorem turn_kd {d : Str} (h : d ∈ driftS) : getKD turnL (.str d) = .ok (.str (turnS d)) := by
  show (R.of (turnL.lookup d)).map PyData.str = _
  rw [(turn_ok h).1]
  rfl
def Pt.back (p : Pt) : Pt := ⟨p.items, p.grades, p.judges.map fun q => (q.1, turnS q.2), p.events.reverse⟩
theorem Pt.back_nm (p : Pt) : p.back.judges.map (·.1) = p.judges.map (·.1) := by
  show (p.judges.map fun q => (q.1, turnS q.2)).map (·.1) = _
  rw [List.map_map]
  rfl
theorem Pt.Ok.back {p : Pt} (h : p.Ok) : p.back.Ok where
  in1 := h.in1
  in2 := h.in2
  inN := h.inN
  inD := h.inD
  g1 := h.g1
  g2 := h.g2
  jn1 := fun z => h.jn1 (List.map_eq_nil_iff.mp z)
  jn2 := by
    show (p.judges.map _).length ≤ 8
    rw [List.length_map]
    exact h.jn2
  jnN := fun q hq => by
    obtain ⟨r, hr, rfl⟩ := List.mem_map.mp hq
    exact h.jnN r hr
  jnD := by
    rw [p.back_nm]
    exact h.jnD
  jnR := fun q hq => by
    obtain ⟨r, hr, rfl⟩ := List.mem_map.mp hq
    exact (turn_ok (h.jnR r hr)).2
  en := by
    show p.events.reverse.length ≤ 120
    rw [List.length_reverse]
    exact h.en
  eo := fun e he => by
    rw [p.back_nm]
    exact h.eo e (List.mem_reverse.mp he)
theorem look_turn : ∀ {js : List (Str × Str)} {j d : Str}, js.lookup j = some d → (js.map fun q => (q.1, turnS q.2)).lookup j = some (turnS d)
  | [], _, _, h => by cases h
  | q :: js, j, d, h => by
    rw [List.map_cons, List.lookup_cons]
    rw [List.lookup_cons] at h
    by_cases z : j = q.1
    · subst z
      rw [beq_self_eq_true] at h ⊢
      cases h
      rfl
    · rw [(beq_eq_false_iff_ne).mpr z] at h ⊢
      exact look_turn h
theorem evA_rev {es : List Ev} {i : Nat} (h : i < es.length) : evA es.reverse (es.length - 1 - i) = evA es i := by
  have h1 := @evA_of es.reverse (es.length - 1 - i) (by rw [List.length_reverse]; omega)
  rw [List.getElem?_reverse (by omega)] at h1
  rw [show es.length - 1 - (es.length - 1 - i) = i by omega, evA_of h] at h1
  exact (Option.some.inj h1).symm
theorem take_rev (es : List Ev) {i : Nat} (h : i < es.length) : es.reverse.take (es.length - 1 - i) = (es.drop (i + 1)).reverse := by
  rw [List.take_reverse, show es.length - (es.length - 1 - i) = i + 1 by omega]
theorem rct_rev (es : List Ev) (j : Str) : rct es.reverse j = rct es j := by
  unfold rct
  rw [List.countP_reverse]
/-- an answer: the counts from both ends -/
theorem rct_back {es : List Ev} {i : Nat} (j : Str) (h : isAt es i = true) : rct (es.take i) j + rct (es.reverse.take (es.length - 1 - i)) j = rct es j := by
  have hl := isAt_lt h
  rw [take_rev es hl, rct_rev]
  have e : es = es.take i ++ (evA es i :: es.drop (i + 1)) := by
    have := evA_of hl
    conv => lhs; rw [← List.take_append_drop i es]
    rw [List.drop_eq_getElem_cons hl]
    rw [List.getElem?_eq_getElem hl] at this
    rw [Option.some.inj this]
  have z : rct (evA es i :: es.drop (i + 1)) j = rct (es.drop (i + 1)) j := by
    unfold isAt at h
    cases e : evA es i with
    | ans a b c => simp [rct]
    | res a => rw [e] at h; cases h
  conv => rhs; rw [e]
  rw [rct_app, z]
theorem order_turn {d : Str} (h : d ∈ driftS) (a b n : Int) : orderB (turnS d) (n - a) (n - b) = orderB d a b := by
  simp only [driftS, List.mem_cons, List.not_mem_nil, or_false] at h
  rcases h with rfl | rfl | rfl
  · show orderB "falls" _ _ = _
    unfold orderB
    rw [if_neg (by decide +kernel : ¬ ("falls" : Str) = "rises"), if_pos rfl, if_pos rfl]
    apply Bool.eq_iff_iff.mpr
    simp only [decide_eq_true_eq]
    omega
  · show orderB "rises" _ _ = _
    unfold orderB
    rw [if_pos rfl, if_neg (by decide +kernel : ¬ ("falls" : Str) = "rises"), if_pos rfl]
    apply Bool.eq_iff_iff.mpr
    simp only [decide_eq_true_eq]
    omega
  · show orderB "stays" _ _ = _
    unfold orderB
    rw [if_neg (by decide +kernel), if_neg (by decide +kernel), if_neg (by decide +kernel), if_neg (by decide +kernel)]
theorem inOrd_back {p : Pt} (h : p.Ok) {a b : Nat} (ha : isAt p.events a = true) (hb : isAt p.events b = true) : inOrd p.back (p.events.length - 1 - a) (p.events.length - 1 - b) = inOrd p a b := by
  have la := isAt_lt ha
  have lb := isAt_lt hb
  unfold inOrd
  show (decide ((evA p.events.reverse _).j = (evA p.events.reverse _).j) && (decide (rct (p.events.reverse.take _) (evA p.events.reverse _).j = rct (p.events.reverse.take _) (evA p.events.reverse _).j) && _)) = _
  have e1 : evA p.back.events (p.events.length - 1 - a) = evA p.events a := evA_rev la
  rw [e1, evA_rev la, evA_rev lb]
  obtain ⟨d, hd, hm⟩ := h.look (h.evJ la)
  have d1 : drf p (evA p.events a).j = d := by unfold drf; rw [hd]; rfl
  have d2 : drf p.back (evA p.events a).j = turnS d := by
    unfold drf
    show ((p.judges.map fun q => (q.1, turnS q.2)).lookup _).getD _ = _
    rw [look_turn hd]
    rfl
  rw [d1, d2]
  by_cases hj : (evA p.events a).j = (evA p.events b).j
  · have r1 := rct_back (evA p.events a).j ha
    have r2 := rct_back (evA p.events b).j hb
    have o := order_turn hm a b ((p.events.length : Int) - 1)
    rw [show ((p.events.length - 1 - a : Nat) : Int) = (p.events.length : Int) - 1 - a by omega, show ((p.events.length - 1 - b : Nat) : Int) = (p.events.length : Int) - 1 - b by omega, o]
    congr 2
    apply Bool.eq_iff_iff.mpr
    rw [decide_eq_true_eq, decide_eq_true_eq]
    rw [← hj] at r2 ⊢
    omega
  · rw [decide_eq_false hj, Bool.false_and, Bool.false_and]
theorem isAt_rev {es : List Ev} {i : Nat} (h : isAt es i = true) : isAt es.reverse (es.length - 1 - i) = true := by
  unfold isAt
  rw [evA_rev (isAt_lt h)]
  exact h
end RB


set_option Elab.async false
set_option linter.all false
set_option maxRecDepth 100000
set_option maxHeartbeats 2000000
namespace RB
open PySem L2
theorem filter_look : ∀ {js : List (Str × Str)} {j d : Str}, js.lookup j = some d → ∃ r, js.filter (fun q => decide (q.1 = j)) = (j, d) :: r
  | [], _, _, h => by cases h
  | q :: js, j, d, h => by
    rw [List.lookup_cons] at h
    by_cases z : j = q.1
    · subst z
      rw [beq_self_eq_true] at h
      cases h
      rw [List.filter_cons, decide_eq_true rfl]
      exact ⟨_, rfl⟩
    · rw [(beq_eq_false_iff_ne).mpr z] at h
      rw [List.filter_cons, decide_eq_false (fun e => z e.symm)]
      exact filter_look h
theorem shp_two {a b : Str} (ha : sOk a) (hb : sOk b) : SeqAt.shaped (.tuple [.str a, .str b]) = true := by
  simp [SeqAt.shaped, PyData.canLay0, PyData.canLayAll0, PyData.depth, PyData.depthAll]
  exact ⟨ha, hb⟩
theorem e_eq2 {a b c d : Str} (ha : sOk a) (hb : sOk b) (hc : sOk c) (hd : sOk d) : eqD (.tuple [.str a, .str b]) (.tuple [.str c, .str d]) = .ok (.bool (decide (a = c) && decide (b = d))) := by
  unfold eqD
  rw [if_pos ⟨shp_two ha hb, shp_two hc hd⟩]
  simp only [PyData.eqv, PyData.eqvAll, Bool.and_true]
  rfl
theorem cut_ev (e : Ev) : cutTD e.d none (some 2) = .ok (.tuple [.str (if e.isA = true then "answer" else "reset"), .str e.j]) := by cases e <;> rfl
theorem kind_eq (e : Ev) : decide ((if e.isA = true then ("answer" : Str) else "reset") = "answer") = e.isA := by
  cases e.isA
  · decide +kernel
  · decide +kernel
theorem sort_two (t k : Nat) : sortedOf (.list [.int (t : Int), .int (k : Int)]) = .ok [.int ((min t k : Nat) : Int), .int ((max t k : Nat) : Int)] := by
  show (if ([(t : Int), (k : Int)] : List Int).length < 64 then R.ok ((inRow [(t : Int), (k : Int)]).map PyData.int) else R.bad) = _
  rw [if_pos (by simp)]
  have : inRow [(t : Int), (k : Int)] = if (t : Int) ≤ (k : Int) then [(t : Int), (k : Int)] else [(k : Int), (t : Int)] := rfl
  rw [this]
  by_cases h : t ≤ k
  · rw [if_pos (by omega), Nat.min_eq_left h, Nat.max_eq_right h]
    rfl
  · rw [if_neg (by omega), Nat.min_eq_right (by omega), Nat.max_eq_left (by omega)]
    rfl
theorem cut_mid {es : List Ev} {a b : Nat} (h1 : a ≤ b) (h2 : b ≤ es.length) : cutG (evL es) (some (a : Int)) (some (b : Int)) = evL ((es.take b).drop a) := by
  unfold cutG
  rw [HT.sIx_nat, HT.sIx_nat, List.length_map, Nat.min_eq_left h2, Nat.min_eq_left (Nat.le_trans h1 h2), List.drop_take]
  show _ = List.map _ _
  rw [List.map_take, List.map_drop]
def ansJ (es : List Ev) (j : Str) : List Nat := (ansN es).filter fun i => decide ((evA es i).j = j)
def strB (es : List Ev) (j : Str) (r : Nat) : List Nat := (ansJ es j).filter fun i => decide (rct (es.take i) j = r)
theorem ansJ_mem {es : List Ev} {j : Str} {i : Nat} : i ∈ ansJ es j ↔ isAt es i = true ∧ (evA es i).j = j := by
  unfold ansJ
  rw [List.mem_filter, mem_ansN, decide_eq_true_eq]
theorem ansJ_len (es : List Ev) (j : Str) : (ansJ es j).length ≤ es.length := Nat.le_trans (List.length_filter_le _ _) (Nat.le_trans (List.length_filter_le _ _) (by rw [List.length_range]; exact Nat.le_refl _))
def lawC (es : List Ev) (j : Str) (k t : Nat) : Bool := isAt es t && decide ((evA es t).j = j) && decide (.res j ∉ (es.take (max t k)).drop (min t k))
def lawS (es : List Ev) (j : Str) (k n : Nat) : List Nat := (List.range n).filter (lawC es j k)
theorem lawS_mem {es : List Ev} {j : Str} {k t : Nat} : t ∈ lawS es j k es.length ↔ t ∈ strB es j (rct (es.take k) j) := by
  unfold lawS strB lawC
  rw [List.mem_filter, List.mem_filter, ansJ_mem, List.mem_range, Bool.and_eq_true, Bool.and_eq_true, decide_eq_true_eq, decide_eq_true_eq, decide_eq_true_eq]
  have key : rct (es.take t) j = rct (es.take k) j ↔ .res j ∉ (es.take (max t k)).drop (min t k) := by
    by_cases h : t ≤ k
    · rw [Nat.max_eq_right h, Nat.min_eq_left h]
      exact rct_same es j h
    · rw [Nat.max_eq_left (by omega), Nat.min_eq_right (by omega)]
      rw [← rct_same es j (by omega)]
      exact eq_comm
  rw [key]
  constructor
  · rintro ⟨_, ⟨h1, h2⟩, h3⟩
    exact ⟨⟨h1, h2⟩, h3⟩
  · rintro ⟨⟨h1, h2⟩, h3⟩
    exact ⟨isAt_lt h1, ⟨h1, h2⟩, h3⟩
end RB


set_option Elab.async false
set_option linter.all false
set_option maxRecDepth 100000
set_option maxHeartbeats 2000000
namespace K03
open PySem L2 RB
/-! ### the numbers that the law draws -/
theorem row_step (cell many : D) (row : List Int) (rest st : Int) (x5 : B) (k : Nat) (hk : k < 1000) (hs : 0 ≤ st ∧ st < 2147483647) (hl : row.length < 1000) :
    ∃ z rest' st', (0 ≤ st' ∧ st' < 2147483647) ∧ b1__law_row [.dat cell, .dat many, .own (intL row), .dat (.int rest), .dat (.int st), .dat (.int (k : Int))] = some (.nx [.dat cell, .dat many, .own (intL (row ++ [z])), .dat (.int rest'), .dat (.int st'), .dat (.int (k : Int))]) := by
  have m1 : mulD (.int (st + 1)) (.int 48271) = .ok (.int ((st + 1) * 48271)) := mulD_ok (by omega) (by decide)
  have m2 : mulD (.int 69621) (.int (k : Int)) = .ok (.int (69621 * (k : Int))) := mulD_ok (by decide) (by omega)
  have hp := @fmod_pos ((st + 1) * 48271 + 69621 * (k : Int)) 2147483647 (by decide)
  have ap : ∀ (rest st z : Int), appE [.dat cell, .dat many, .own (intL row), .dat (.int rest), .dat (.int st), .dat (.int (k : Int))] 2 (.ok (.int z)) = some (.nx [.dat cell, .dat many, .own (intL (row ++ [z])), .dat (.int rest), .dat (.int st), .dat (.int (k : Int))]) := fun rest st z => by
    rw [appE_ok (ds := intL row) rfl (by simp; omega)]
    simp [intL]
  unfold b1__law_row
  simp only [b2, consF, consT, lstM, tupM, sliceM, sliceTM, catM, notT, ifO, letρ, bcall, e_bind, e_bindr, e_map, e_mapr, e_onE, e_onr, e_seq, e_seqt, e_seqr, e_of, e_asB, e_asI, e_lstOf, e_listOf, e_noRs, e_getB0, e_getBs, e_getW0, e_getW0k, e_getW0o, e_getWs, e_getK0, e_getK0k, e_getKs, e_frz0, e_frzs, e_both, e_either, e_bothT, e_eitherT, e_add, e_sub, e_lt, e_le, e_gt, e_ge, e_intF, e_neg, e_lenL, e_lenT, e_max, e_unfl0, e_unfl1, e_small0, e_small1, e_small2, e_small3, e_small4, e_small5, e_small8, e_runt, e_runn, e_runr, List.set_cons_zero, List.set_cons_succ, List.map_cons, List.map_nil, if_true, Bool.false_eq_true, if_false, Bool.not_true, Bool.not_false, decide_true, decide_false, m1, m2, modD_ok (show (2147483647 : Int) ≠ 0 by decide), modD_ok (show (1009 : Int) ≠ 0 by decide), fdivD_ok (show (1009 : Int) ≠ 0 by decide) (by decide), fdivD_ok (show (2048 : Int) ≠ 0 by decide) (by decide), ap]
  by_cases hr : 0 < rest
  · simp only [b2, consF, consT, lstM, tupM, sliceM, sliceTM, catM, notT, ifO, letρ, bcall, e_bind, e_bindr, e_map, e_mapr, e_onE, e_onr, e_seq, e_seqt, e_seqr, e_of, e_asB, e_asI, e_lstOf, e_listOf, e_noRs, e_getB0, e_getBs, e_getW0, e_getW0k, e_getW0o, e_getWs, e_getK0, e_getK0k, e_getKs, e_frz0, e_frzs, e_both, e_either, e_bothT, e_eitherT, e_add, e_sub, e_lt, e_le, e_gt, e_ge, e_intF, e_neg, e_lenL, e_lenT, e_max, e_unfl0, e_unfl1, e_small0, e_small1, e_small2, e_small3, e_small4, e_small5, e_small8, e_runt, e_runn, e_runr, List.set_cons_zero, List.set_cons_succ, List.map_cons, List.map_nil, if_true, Bool.false_eq_true, if_false, Bool.not_true, Bool.not_false, decide_true, decide_false, decide_eq_true hr]
    exact ⟨_, _, _, hp, rfl⟩
  · simp only [b2, consF, consT, lstM, tupM, sliceM, sliceTM, catM, notT, ifO, letρ, bcall, e_bind, e_bindr, e_map, e_mapr, e_onE, e_onr, e_seq, e_seqt, e_seqr, e_of, e_asB, e_asI, e_lstOf, e_listOf, e_noRs, e_getB0, e_getBs, e_getW0, e_getW0k, e_getW0o, e_getWs, e_getK0, e_getK0k, e_getKs, e_frz0, e_frzs, e_both, e_either, e_bothT, e_eitherT, e_add, e_sub, e_lt, e_le, e_gt, e_ge, e_intF, e_neg, e_lenL, e_lenT, e_max, e_unfl0, e_unfl1, e_small0, e_small1, e_small2, e_small3, e_small4, e_small5, e_small8, e_runt, e_runn, e_runr, List.set_cons_zero, List.set_cons_succ, List.map_cons, List.map_nil, if_true, Bool.false_eq_true, if_false, Bool.not_true, Bool.not_false, decide_true, decide_false, decide_eq_false hr]
    exact ⟨_, _, _, hp, rfl⟩
theorem row_loop (c a rest : Int) (m : Nat) (hm : m < 1000) (ha : 0 ≤ a ∧ a < 2147483647) : ∃ (row : List Int) (rest' st' : Int) (x5 : B), (onE (rng1 (.int (m : Int))) [.dat (.int c), .dat (.int (m : Int)), .own [], .dat (.int rest), .dat (.int a), .un] fun ds => forO (.one 5) b1__law_row ds [.dat (.int c), .dat (.int (m : Int)), .own [], .dat (.int rest), .dat (.int a), .un]) =
    some (.nx [.dat (.int c), .dat (.int (m : Int)), .own (intL row), .dat (.int rest'), .dat (.int st'), x5]) ∧ row.length = m := by
  rw [rng1_ok (by omega) (by omega)]
  obtain ⟨ρ', h1, row, rest', st', x5, h2, h3, h4⟩ := forO_rule (t := .one 5) (body := b1__law_row) (ds := rangeD 0 (m : Int).toNat) (ρ := [.dat (.int c), .dat (.int (m : Int)), .own [], .dat (.int rest), .dat (.int a), .un])
    (fun i ρ => ∃ (row : List Int) (rest st : Int) (x5 : B), ρ = [.dat (.int c), .dat (.int (m : Int)), .own (intL row), .dat (.int rest), .dat (.int st), x5] ∧ (0 ≤ st ∧ st < 2147483647) ∧ row.length = i)
    ⟨[], rest, _, .un, rfl, ha, rfl⟩ (by
      rintro i d ρ hd ⟨row, rest, st, x5, rfl, hs, hl⟩
      obtain ⟨rfl, hi⟩ := range_at hd
      obtain ⟨z, rest', st', hs', e⟩ := row_step (.int c) (.int (m : Int)) row rest st x5 i (by omega) hs (by omega)
      refine ⟨[.dat (.int c), .dat (.int (m : Int)), .own (intL row), .dat (.int rest), .dat (.int st), .dat (.int (i : Int))], _, ?_, .inl e, row ++ [z], rest', st', _, rfl, hs', by simp [hl]⟩
      simp [Tg.set])
  refine ⟨row, rest', st', x5, ?_, ?_⟩
  · rw [onE_ok, h1, h2]
  · rw [h4]
    simp [rangeD]
theorem row_ok (c : Int) (m : Nat) (hm : m < 1000) : ∃ row : List Int, m_law_row [.int c, .int (m : Int)] = .ok (.list (intL row)) ∧ row.length = m := by
  have st : start0 6 fl__law_row [.int c, .int (m : Int)] = [.dat (.int c), .dat (.int (m : Int)), .un, .un, .un, .un] := rfl
  obtain ⟨e18, pw⟩ : ∃ e : Int, powD (.int 10) (.int 18) = .ok (.int e) := ⟨_, by unfold powD intC; simp only []; rw [if_pos (by decide)]⟩
  have hp := @fmod_pos (if c < 0 then -c else c) 2147483647 (by decide)
  have ab : absD [.int c] = .ok (.int (if c < 0 then -c else c)) := rfl
  have md := @modD_ok (if c < 0 then -c else c) 2147483647 (by decide)
  generalize (if c < 0 then -c else c) = b at hp ab md
  generalize b.fmod 2147483647 = a at hp md
  obtain ⟨row, r', s', x5, h1, h2⟩ := row_loop c a (if decide (e18 ≤ b) = true then b else 0) m hm hp
  refine ⟨row, ?_, h2⟩
  unfold m_law_row
  rw [st]
  unfold m_law_row_b
  simp only [b2, consF, consT, lstM, tupM, sliceM, sliceTM, catM, notT, ifO, letρ, bcall, e_bind, e_bindr, e_map, e_mapr, e_onE, e_onr, e_seq, e_seqt, e_seqr, e_of, e_asB, e_asI, e_lstOf, e_listOf, e_noRs, e_getB0, e_getBs, e_getW0, e_getW0k, e_getW0o, e_getWs, e_getK0, e_getK0k, e_getKs, e_frz0, e_frzs, e_both, e_either, e_bothT, e_eitherT, e_add, e_sub, e_lt, e_le, e_gt, e_ge, e_intF, e_neg, e_lenL, e_lenT, e_max, e_unfl0, e_unfl1, e_small0, e_small1, e_small2, e_small3, e_small4, e_small5, e_small8, e_runt, e_runn, e_runr, List.set_cons_zero, List.set_cons_succ, List.map_cons, List.map_nil, if_true, Bool.false_eq_true, if_false, Bool.not_true, Bool.not_false, decide_true, decide_false, ab, pw, md]
  generalize decide (e18 ≤ b) = k at h1
  cases k
  · simp only [b2, consF, consT, lstM, tupM, sliceM, sliceTM, catM, notT, ifO, letρ, bcall, e_bind, e_bindr, e_map, e_mapr, e_onE, e_onr, e_seq, e_seqt, e_seqr, e_of, e_asB, e_asI, e_lstOf, e_listOf, e_noRs, e_getB0, e_getBs, e_getW0, e_getW0k, e_getW0o, e_getWs, e_getK0, e_getK0k, e_getKs, e_frz0, e_frzs, e_both, e_either, e_bothT, e_eitherT, e_add, e_sub, e_lt, e_le, e_gt, e_ge, e_intF, e_neg, e_lenL, e_lenT, e_max, e_unfl0, e_unfl1, e_small0, e_small1, e_small2, e_small3, e_small4, e_small5, e_small8, e_runt, e_runn, e_runr, List.set_cons_zero, List.set_cons_succ, List.map_cons, List.map_nil, if_true, Bool.false_eq_true, if_false, Bool.not_true, Bool.not_false, decide_true, decide_false] at h1
    simp only [b2, consF, consT, lstM, tupM, sliceM, sliceTM, catM, notT, ifO, letρ, bcall, e_bind, e_bindr, e_map, e_mapr, e_onE, e_onr, e_seq, e_seqt, e_seqr, e_of, e_asB, e_asI, e_lstOf, e_listOf, e_noRs, e_getB0, e_getBs, e_getW0, e_getW0k, e_getW0o, e_getWs, e_getK0, e_getK0k, e_getKs, e_frz0, e_frzs, e_both, e_either, e_bothT, e_eitherT, e_add, e_sub, e_lt, e_le, e_gt, e_ge, e_intF, e_neg, e_lenL, e_lenT, e_max, e_unfl0, e_unfl1, e_small0, e_small1, e_small2, e_small3, e_small4, e_small5, e_small8, e_runt, e_runn, e_runr, List.set_cons_zero, List.set_cons_succ, List.map_cons, List.map_nil, if_true, Bool.false_eq_true, if_false, Bool.not_true, Bool.not_false, decide_true, decide_false, ab, md, h1]
  · simp only [b2, consF, consT, lstM, tupM, sliceM, sliceTM, catM, notT, ifO, letρ, bcall, e_bind, e_bindr, e_map, e_mapr, e_onE, e_onr, e_seq, e_seqt, e_seqr, e_of, e_asB, e_asI, e_lstOf, e_listOf, e_noRs, e_getB0, e_getBs, e_getW0, e_getW0k, e_getW0o, e_getWs, e_getK0, e_getK0k, e_getKs, e_frz0, e_frzs, e_both, e_either, e_bothT, e_eitherT, e_add, e_sub, e_lt, e_le, e_gt, e_ge, e_intF, e_neg, e_lenL, e_lenT, e_max, e_unfl0, e_unfl1, e_small0, e_small1, e_small2, e_small3, e_small4, e_small5, e_small8, e_runt, e_runn, e_runr, List.set_cons_zero, List.set_cons_succ, List.map_cons, List.map_nil, if_true, Bool.false_eq_true, if_false, Bool.not_true, Bool.not_false, decide_true, decide_false] at h1
    simp only [b2, consF, consT, lstM, tupM, sliceM, sliceTM, catM, notT, ifO, letρ, bcall, e_bind, e_bindr, e_map, e_mapr, e_onE, e_onr, e_seq, e_seqt, e_seqr, e_of, e_asB, e_asI, e_lstOf, e_listOf, e_noRs, e_getB0, e_getBs, e_getW0, e_getW0k, e_getW0o, e_getWs, e_getK0, e_getK0k, e_getKs, e_frz0, e_frzs, e_both, e_either, e_bothT, e_eitherT, e_add, e_sub, e_lt, e_le, e_gt, e_ge, e_intF, e_neg, e_lenL, e_lenT, e_max, e_unfl0, e_unfl1, e_small0, e_small1, e_small2, e_small3, e_small4, e_small5, e_small8, e_runt, e_runn, e_runr, List.set_cons_zero, List.set_cons_succ, List.map_cons, List.map_nil, if_true, Bool.false_eq_true, if_false, Bool.not_true, Bool.not_false, decide_true, decide_false, ab, md, h1]
theorem nums_app (s m c e x5 x6 : B) (acc row : List Int) (h : acc.length + row.length < 100000) : ∃ x6', forO (.one 6) b1__law_numbers (intL row) [s, m, c, e, .own (intL acc), x5, x6] = some (.nx [s, m, c, e, .own (intL (acc ++ row)), x5, x6']) := by
  obtain ⟨ρ', h1, x, h2⟩ := forO_rule (t := .one 6) (body := b1__law_numbers) (ds := intL row) (ρ := [s, m, c, e, .own (intL acc), x5, x6]) (fun i ρ => ∃ x, ρ = [s, m, c, e, .own (intL (acc ++ row.take i)), x5, x])
    ⟨x6, by simp⟩ (by
      rintro i d ρ hd ⟨x, rfl⟩
      obtain ⟨z, hz, rfl⟩ := intL_at hd
      have hi := (List.getElem?_eq_some_iff.mp hz).1
      refine ⟨[s, m, c, e, .own (intL (acc ++ row.take i)), x5, .dat (.int z)], _, by simp [Tg.set], .inl ?_, .dat (.int z), rfl⟩
      unfold b1__law_numbers
      simp only [b2, consF, consT, lstM, tupM, sliceM, sliceTM, catM, notT, ifO, letρ, bcall, e_bind, e_bindr, e_map, e_mapr, e_onE, e_onr, e_seq, e_seqt, e_seqr, e_of, e_asB, e_asI, e_lstOf, e_listOf, e_noRs, e_getB0, e_getBs, e_getW0, e_getW0k, e_getW0o, e_getWs, e_getK0, e_getK0k, e_getKs, e_frz0, e_frzs, e_both, e_either, e_bothT, e_eitherT, e_add, e_sub, e_lt, e_le, e_gt, e_ge, e_intF, e_neg, e_lenL, e_lenT, e_max, e_unfl0, e_unfl1, e_small0, e_small1, e_small2, e_small3, e_small4, e_small5, e_small8, e_runt, e_runn, e_runr, List.set_cons_zero, List.set_cons_succ, List.map_cons, List.map_nil, if_true, Bool.false_eq_true, if_false, Bool.not_true, Bool.not_false, decide_true, decide_false]
      rw [appE_ok (ds := intL (acc ++ row.take i)) rfl (by rw [intL_len]; simp; omega)]
      simp only [b2, consF, consT, lstM, tupM, sliceM, sliceTM, catM, notT, ifO, letρ, bcall, e_bind, e_bindr, e_map, e_mapr, e_onE, e_onr, e_seq, e_seqt, e_seqr, e_of, e_asB, e_asI, e_lstOf, e_listOf, e_noRs, e_getB0, e_getBs, e_getW0, e_getW0k, e_getW0o, e_getWs, e_getK0, e_getK0k, e_getKs, e_frz0, e_frzs, e_both, e_either, e_bothT, e_eitherT, e_add, e_sub, e_lt, e_le, e_gt, e_ge, e_intF, e_neg, e_lenL, e_lenT, e_max, e_unfl0, e_unfl1, e_small0, e_small1, e_small2, e_small3, e_small4, e_small5, e_small8, e_runt, e_runn, e_runr, List.set_cons_zero, List.set_cons_succ, List.map_cons, List.map_nil, if_true, Bool.false_eq_true, if_false, Bool.not_true, Bool.not_false, decide_true, decide_false]
      rw [List.take_succ, hz]
      simp [intL])
  refine ⟨x, ?_⟩
  rw [h1, h2, intL_len, List.take_length]
theorem nums_fill (s c e x5 x6 : B) (M : Nat) : ∀ (n : Nat) (acc : List Int), M < n + acc.length ∧ 0 < n → M < 50000 → ∃ acc', whileO (fun ρ => ((b2 ltD (bcall lenD (consT (getW ρ 4) (R.ok []))) (getW ρ 1)).bind asB)) b3__law_numbers n [s, .dat (.int (M : Int)), c, e, .own (intL acc), x5, x6] = some (.nx [s, .dat (.int (M : Int)), c, e, .own (intL acc'), x5, x6]) ∧ M ≤ acc'.length
  | 0, acc, h, hb => absurd h.2 (by decide)
  | n + 1, acc, h, hb => by
    unfold whileO
    simp only [b2, consF, consT, lstM, tupM, sliceM, sliceTM, catM, notT, ifO, letρ, bcall, e_bind, e_bindr, e_map, e_mapr, e_onE, e_onr, e_seq, e_seqt, e_seqr, e_of, e_asB, e_asI, e_lstOf, e_listOf, e_noRs, e_getB0, e_getBs, e_getW0, e_getW0k, e_getW0o, e_getWs, e_getK0, e_getK0k, e_getKs, e_frz0, e_frzs, e_both, e_either, e_bothT, e_eitherT, e_add, e_sub, e_lt, e_le, e_gt, e_ge, e_intF, e_neg, e_lenL, e_lenT, e_max, e_unfl0, e_unfl1, e_small0, e_small1, e_small2, e_small3, e_small4, e_small5, e_small8, e_runt, e_runn, e_runr, List.set_cons_zero, List.set_cons_succ, List.map_cons, List.map_nil, if_true, Bool.false_eq_true, if_false, Bool.not_true, Bool.not_false, decide_true, decide_false, intL_len]
    by_cases hl : acc.length < M
    · have hl' : ((acc.length : Nat) : Int) < (M : Int) := by omega
      obtain ⟨acc', h1, h2⟩ := nums_fill s c e x5 x6 M n (acc ++ [0]) (by simp; omega) hb
      refine ⟨acc', ?_, h2⟩
      rw [← h1]
      have ap : b3__law_numbers [s, .dat (.int (M : Int)), c, e, .own (intL acc), x5, x6] = some (.nx [s, .dat (.int (M : Int)), c, e, .own (intL (acc ++ [0])), x5, x6]) := by
        unfold b3__law_numbers
        rw [appE_ok (ds := intL acc) rfl (by rw [intL_len]; omega)]
        simp [intL]
      simp only [decide_eq_true hl', if_true, ap]
      rfl
    · have hl' : ¬ ((acc.length : Nat) : Int) < (M : Int) := by omega
      refine ⟨acc, ?_, by omega⟩
      simp only [decide_eq_false hl', Bool.false_eq_true, if_false]
theorem nums_ok (ns : List Int) (M : Nat) (hn : ns.length ≤ 63) (hM : M ≤ 900) : ∃ xs : List Int, m_law_numbers [.list (intL ns), .int (M : Int)] = .ok (.list (intL xs)) ∧ xs.length = M := by
  have st : start0 7 fl__law_numbers [.list (intL ns), .int (M : Int)] = [.wk (intL ns), .dat (.int (M : Int)), .un, .un, .un, .un, .un] := rfl
  unfold m_law_numbers
  rw [st]
  unfold m_law_numbers_b
  have c63 : cutG (intL ns) none (some 63) = intL ns := by
    rw [show (63 : Int) = ((63 : Nat) : Int) from rfl, cutG_take, List.take_of_length_le (by rw [intL_len]; exact hn)]
  obtain ⟨E, hE, fd⟩ : ∃ E : Nat, E ≤ 900 ∧ fdivD (.int (M : Int)) (.int (if ((ns.length : Nat) : Int) > 1 then ((ns.length : Nat) : Int) else 1)) = .ok (.int (E : Int)) := by
    have hp : 0 < (if ((ns.length : Nat) : Int) > 1 then ((ns.length : Nat) : Int) else 1) := by split <;> omega
    refine ⟨M / (if ns.length > 1 then ns.length else 1), Nat.le_trans (Nat.div_le_self _ _) hM, ?_⟩
    rw [fdivD_ok (by omega) (by split <;> omega)]
    split
    · rename_i h
      rw [if_pos (by omega), Int.fdiv_eq_ediv_of_nonneg _ (by omega)]
      rfl
    · rename_i h
      rw [if_neg (by omega), Int.fdiv_eq_ediv_of_nonneg _ (by omega)]
      rfl
  simp only [b2, consF, consT, lstM, tupM, sliceM, sliceTM, catM, notT, ifO, letρ, bcall, e_bind, e_bindr, e_map, e_mapr, e_onE, e_onr, e_seq, e_seqt, e_seqr, e_of, e_asB, e_asI, e_lstOf, e_listOf, e_noRs, e_getB0, e_getBs, e_getW0, e_getW0k, e_getW0o, e_getWs, e_getK0, e_getK0k, e_getKs, e_frz0, e_frzs, e_both, e_either, e_bothT, e_eitherT, e_add, e_sub, e_lt, e_le, e_gt, e_ge, e_intF, e_neg, e_lenL, e_lenT, e_max, e_unfl0, e_unfl1, e_small0, e_small1, e_small2, e_small3, e_small4, e_small5, e_small8, e_runt, e_runn, e_runr, List.set_cons_zero, List.set_cons_succ, List.map_cons, List.map_nil, if_true, Bool.false_eq_true, if_false, Bool.not_true, Bool.not_false, decide_true, decide_false, c63, intL_len, fd]
  -- the cells
  obtain ⟨ρ', h1, acc, x5, x6, h2, h3⟩ := forO_rule (t := .one 5) (body := b2__law_numbers) (ds := intL ns) (ρ := [.wk (intL ns), .dat (.int (M : Int)), .dat (.list (intL ns)), .dat (.int (1 + (E : Int))), .own [], .un, .un])
    (fun i ρ => ∃ (acc : List Int) (x5 x6 : B), ρ = [.wk (intL ns), .dat (.int (M : Int)), .dat (.list (intL ns)), .dat (.int (1 + (E : Int))), .own (intL acc), x5, x6] ∧ acc.length ≤ 901 * i) ⟨[], .un, .un, rfl, Nat.le_refl _⟩ (by
      rintro i d ρ hd ⟨acc, x5, x6, rfl, hl⟩
      obtain ⟨z, hz, rfl⟩ := intL_at hd
      have hi := (List.getElem?_eq_some_iff.mp hz).1
      obtain ⟨row, hr, hrl⟩ := row_ok z (1 + E) (by omega)
      obtain ⟨x6', ha⟩ := nums_app (.wk (intL ns)) (.dat (.int (M : Int))) (.dat (.list (intL ns))) (.dat (.int (1 + (E : Int)))) (.dat (.int z)) x6 acc row (by omega)
      refine ⟨[.wk (intL ns), .dat (.int (M : Int)), .dat (.list (intL ns)), .dat (.int (1 + (E : Int))), .own (intL acc), .dat (.int z), x6], _, by simp [Tg.set], .inl ?_, acc ++ row, .dat (.int z), x6', rfl, by rw [List.length_append]; omega⟩
      unfold b2__law_numbers
      have cl : callM fl__law_row m_law_row [(false, .int z), (false, .int (1 + (E : Int)))] = .ok (.list (intL row)) := by
        rw [show (1 + (E : Int)) = ((1 + E : Nat) : Int) by omega]
        exact hr
      simp only [b2, consF, consT, lstM, tupM, sliceM, sliceTM, catM, notT, ifO, letρ, bcall, e_bind, e_bindr, e_map, e_mapr, e_onE, e_onr, e_seq, e_seqt, e_seqr, e_of, e_asB, e_asI, e_lstOf, e_listOf, e_noRs, e_getB0, e_getBs, e_getW0, e_getW0k, e_getW0o, e_getWs, e_getK0, e_getK0k, e_getKs, e_frz0, e_frzs, e_both, e_either, e_bothT, e_eitherT, e_add, e_sub, e_lt, e_le, e_gt, e_ge, e_intF, e_neg, e_lenL, e_lenT, e_max, e_unfl0, e_unfl1, e_small0, e_small1, e_small2, e_small3, e_small4, e_small5, e_small8, e_runt, e_runn, e_runr, List.set_cons_zero, List.set_cons_succ, List.map_cons, List.map_nil, if_true, Bool.false_eq_true, if_false, Bool.not_true, Bool.not_false, decide_true, decide_false, cl, ha])
  rw [intL_len] at h3
  obtain ⟨acc', h4, h5⟩ := nums_fill (.wk (intL ns)) (.dat (.list (intL ns))) (.dat (.int (1 + (E : Int)))) x5 x6 M 100000 acc ⟨by omega, by decide⟩ (by omega)
  refine ⟨acc'.take M, ?_, by rw [List.length_take]; omega⟩
  rw [h1, h2]
  simp only [b2, consF, consT, lstM, tupM, sliceM, sliceTM, catM, notT, ifO, letρ, bcall, e_bind, e_bindr, e_map, e_mapr, e_onE, e_onr, e_seq, e_seqt, e_seqr, e_of, e_asB, e_asI, e_lstOf, e_listOf, e_noRs, e_getB0, e_getBs, e_getW0, e_getW0k, e_getW0o, e_getWs, e_getK0, e_getK0k, e_getKs, e_frz0, e_frzs, e_both, e_either, e_bothT, e_eitherT, e_add, e_sub, e_lt, e_le, e_gt, e_ge, e_intF, e_neg, e_lenL, e_lenT, e_max, e_unfl0, e_unfl1, e_small0, e_small1, e_small2, e_small3, e_small4, e_small5, e_small8, e_runt, e_runn, e_runr, List.set_cons_zero, List.set_cons_succ, List.map_cons, List.map_nil, if_true, Bool.false_eq_true, if_false, Bool.not_true, Bool.not_false, decide_true, decide_false]
  simp only [b2, consF, consT, lstM, tupM, sliceM, sliceTM, catM, notT, ifO, letρ, bcall, e_bind, e_bindr, e_map, e_mapr, e_onE, e_onr, e_seq, e_seqt, e_seqr, e_of, e_asB, e_asI, e_lstOf, e_listOf, e_noRs, e_getB0, e_getBs, e_getW0, e_getW0k, e_getW0o, e_getWs, e_getK0, e_getK0k, e_getKs, e_frz0, e_frzs, e_both, e_either, e_bothT, e_eitherT, e_add, e_sub, e_lt, e_le, e_gt, e_ge, e_intF, e_neg, e_lenL, e_lenT, e_max, e_unfl0, e_unfl1, e_small0, e_small1, e_small2, e_small3, e_small4, e_small5, e_small8, e_runt, e_runn, e_runr, List.set_cons_zero, List.set_cons_succ, List.map_cons, List.map_nil, if_true, Bool.false_eq_true, if_false, Bool.not_true, Bool.not_false, decide_true, decide_false] at h4
  rw [h4]
  simp only [b2, consF, consT, lstM, tupM, sliceM, sliceTM, catM, notT, ifO, letρ, bcall, e_bind, e_bindr, e_map, e_mapr, e_onE, e_onr, e_seq, e_seqt, e_seqr, e_of, e_asB, e_asI, e_lstOf, e_listOf, e_noRs, e_getB0, e_getBs, e_getW0, e_getW0k, e_getW0o, e_getWs, e_getK0, e_getK0k, e_getKs, e_frz0, e_frzs, e_both, e_either, e_bothT, e_eitherT, e_add, e_sub, e_lt, e_le, e_gt, e_ge, e_intF, e_neg, e_lenL, e_lenT, e_max, e_unfl0, e_unfl1, e_small0, e_small1, e_small2, e_small3, e_small4, e_small5, e_small8, e_runt, e_runn, e_runr, List.set_cons_zero, List.set_cons_succ, List.map_cons, List.map_nil, if_true, Bool.false_eq_true, if_false, Bool.not_true, Bool.not_false, decide_true, decide_false, cutG_take]
  rw [show intL (acc'.take M) = (intL acc').take M from List.map_take]
end K03


set_option Elab.async false
set_option linter.all false
set_option maxRecDepth 100000
set_option maxHeartbeats 2000000
namespace K03
open PySem L2 RB
def nm3 : List Str := ["ann", "a", "j2"]
theorem parts_j (xs : List Int) (at' many more : Nat) (th g : B) (js : List (Str × Str)) (k : Nat) (e p q : B) (hk : k < 3) (hx : at' + 7 ≤ xs.length) (hl : js.length < 10) :
    ∃ dr ∈ driftS, b1__law_parts [.dat (.list (intL xs)), .dat (.int (at' : Int)), .dat (.int (many : Int)), .dat (.int (more : Int)), th, g, .own (jL js), .dat (.int (k : Int)), e, p, q] =
      some (.nx [.dat (.list (intL xs)), .dat (.int (at' : Int)), .dat (.int (many : Int)), .dat (.int (more : Int)), th, g, .own (jL (js ++ [(nm3.getD k "", dr)])), .dat (.int (k : Int)), e, p, q]) := by
  have i1 : ixD (.list (intL xs)) (.int ((at' : Int) + 3 + (k : Int))) = .ok (.int (xs.getD ((at' : Int) + 3 + (k : Int)).toNat 0)) := ixD_n (by omega) (by omega)
  have md := fun z : Int => @modD_ok z 3 (by decide)
  have hp := fun z : Int => @fmod_pos z 3 (by decide)
  have nmk : ixD (.list [.str "ann", .str "a", .str "j2"]) (.int (k : Int)) = .ok (.str (nm3.getD k "")) := by
    match k, hk with
    | 0, _ => rfl
    | 1, _ => rfl
    | 2, _ => rfl
  obtain ⟨d, hd, hm⟩ := @ixD_i [.str "rises", .str "falls", .str "stays"] ((xs.getD ((at' : Int) + 3 + (k : Int)).toNat 0).fmod 3) (hp _).1 (hp _).2
  obtain ⟨dr, hdr, rfl⟩ : ∃ dr ∈ driftS, d = .str dr := by
    have := List.mem_of_getElem? hm
    simp only [List.mem_cons, List.not_mem_nil, or_false] at this
    rcases this with rfl | rfl | rfl
    · exact ⟨"rises", by decide, rfl⟩
    · exact ⟨"falls", by decide, rfl⟩
    · exact ⟨"stays", by decide, rfl⟩
  refine ⟨dr, hdr, ?_⟩
  unfold b1__law_parts
  simp only [b2, consF, consT, lstM, tupM, sliceM, sliceTM, catM, notT, ifO, letρ, bcall, e_bind, e_bindr, e_map, e_mapr, e_onE, e_onr, e_seq, e_seqt, e_seqr, e_of, e_asB, e_asI, e_lstOf, e_listOf, e_noRs, e_getB0, e_getBs, e_getW0, e_getW0k, e_getW0o, e_getWs, e_getK0, e_getK0k, e_getKs, e_frz0, e_frzs, e_both, e_either, e_bothT, e_eitherT, e_add, e_sub, e_lt, e_le, e_gt, e_ge, e_intF, e_neg, e_lenL, e_lenT, e_max, e_unfl0, e_unfl1, e_small0, e_small1, e_small2, e_small3, e_small4, e_small5, e_small8, e_runt, e_runn, e_runr, List.set_cons_zero, List.set_cons_succ, List.map_cons, List.map_nil, if_true, Bool.false_eq_true, if_false, Bool.not_true, Bool.not_false, decide_true, decide_false, i1, md, nmk, hd]
  rw [appE_ok (ds := jL js) rfl (by simp; omega)]
  simp [jL, jD]
theorem parts_e (xs : List Int) (at' many more : Nat) (it : List Str) (g : Int) (js : List (Str × Str)) (k : Nat) (es : List Ev) (p q : B) (hk : k < 1000) (hx : at' + 10 + 3 * k ≤ xs.length) (hi : it ≠ []) (hj : js ≠ []) (hg : 1 ≤ g) (hl : es.length < 1000) :
    ∃ (e : Ev) (p' q' : B), evOk it (js.map (·.1)) g e ∧ b2__law_parts [.dat (.list (intL xs)), .dat (.int (at' : Int)), .dat (.int (many : Int)), .dat (.int (more : Int)), .dat (.list (strL it)), .dat (.int g), .own (jL js), .dat (.int (k : Int)), .own (evL es), p, q] =
      some (.nx [.dat (.list (intL xs)), .dat (.int (at' : Int)), .dat (.int (many : Int)), .dat (.int (more : Int)), .dat (.list (strL it)), .dat (.int g), .own (jL js), .dat (.int (k : Int)), .own (evL (es ++ [e])), p', q']) := by
  have hj0 : 0 < js.length := List.length_pos_iff.mpr hj
  have hi0 : 0 < it.length := List.length_pos_iff.mpr hi
  have m1 : mulD (.int 3) (.int (k : Int)) = .ok (.int (3 * (k : Int))) := mulD_ok (by decide) (by omega)
  have n0 : ixD (.list (intL xs)) (.int ((at' : Int) + 7 + 3 * (k : Int))) = .ok (.int (xs.getD ((at' : Int) + 7 + 3 * (k : Int)).toNat 0)) := ixD_n (by omega) (by omega)
  have n1 : ixD (.list (intL xs)) (.int ((at' : Int) + 7 + 3 * (k : Int) + 1)) = .ok (.int (xs.getD ((at' : Int) + 7 + 3 * (k : Int) + 1).toNat 0)) := ixD_n (by omega) (by omega)
  have n2 : ixD (.list (intL xs)) (.int ((at' : Int) + 7 + 3 * (k : Int) + 2)) = .ok (.int (xs.getD ((at' : Int) + 7 + 3 * (k : Int) + 2).toNat 0)) := ixD_n (by omega) (by omega)
  generalize xs.getD ((at' : Int) + 7 + 3 * (k : Int)).toNat 0 = z0 at n0
  generalize xs.getD ((at' : Int) + 7 + 3 * (k : Int) + 1).toNat 0 = z1 at n1
  generalize xs.getD ((at' : Int) + 7 + 3 * (k : Int) + 2).toNat 0 = z2 at n2
  have lj : ((jL js).length : Int) = (js.length : Int) := by simp
  have li : ((strL it).length : Int) = (it.length : Int) := by simp
  have d1 : modD (.int z0) (.int (js.length : Int)) = .ok (.int (z0.fmod (js.length : Int))) := modD_ok (by omega)
  have p1 := @fmod_pos z0 (js.length : Int) (by omega)
  obtain ⟨dq, i1, hq⟩ := @ixD_i (jL js) (z0.fmod (js.length : Int)) p1.1 (by rw [lj]; exact p1.2)
  obtain ⟨r, hr, rfl⟩ : ∃ r ∈ js, dq = jD r := by
    obtain ⟨r, hr, e⟩ := List.mem_map.mp (List.mem_of_getElem? hq)
    exact ⟨r, hr, e.symm⟩
  have i2 : ixD (jD r) (.int 0) = .ok (.str r.1) := rfl
  have d2 : fdivD (.int z0) (.int 8) = .ok (.int (z0.fdiv 8)) := fdivD_ok (by decide) (by decide)
  have d3 : modD (.int (z0.fdiv 8)) (.int 6) = .ok (.int ((z0.fdiv 8).fmod 6)) := modD_ok (by decide)
  have d4 : modD (.int z1) (.int (it.length : Int)) = .ok (.int (z1.fmod (it.length : Int))) := modD_ok (by omega)
  have p4 := @fmod_pos z1 (it.length : Int) (by omega)
  obtain ⟨ds, i4, hs⟩ := @ixD_i (strL it) (z1.fmod (it.length : Int)) p4.1 (by rw [li]; exact p4.2)
  obtain ⟨i, hi', rfl⟩ : ∃ i ∈ it, ds = .str i := by
    obtain ⟨i, hi', e⟩ := List.mem_map.mp (List.mem_of_getElem? hs)
    exact ⟨i, hi', e.symm⟩
  have d5 : modD (.int z2) (.int (g + 1)) = .ok (.int (z2.fmod (g + 1))) := modD_ok (by omega)
  have p5 := @fmod_pos z2 (g + 1) (by omega)
  have hm : r.1 ∈ js.map (·.1) := List.mem_map_of_mem hr
  unfold b2__law_parts
  simp only [b2, consF, consT, lstM, tupM, sliceM, sliceTM, catM, notT, ifO, letρ, bcall, e_bind, e_bindr, e_map, e_mapr, e_onE, e_onr, e_seq, e_seqt, e_seqr, e_of, e_asB, e_asI, e_lstOf, e_listOf, e_noRs, e_getB0, e_getBs, e_getW0, e_getW0k, e_getW0o, e_getWs, e_getK0, e_getK0k, e_getKs, e_frz0, e_frzs, e_both, e_either, e_bothT, e_eitherT, e_add, e_sub, e_lt, e_le, e_gt, e_ge, e_intF, e_neg, e_lenL, e_lenT, e_max, e_unfl0, e_unfl1, e_small0, e_small1, e_small2, e_small3, e_small4, e_small5, e_small8, e_runt, e_runn, e_runr, List.set_cons_zero, List.set_cons_succ, List.map_cons, List.map_nil, if_true, Bool.false_eq_true, if_false, Bool.not_true, Bool.not_false, decide_true, decide_false, m1, n0, n1, n2, lj, li, d1, i1, i2, d2, d3, d4, i4, d5, e_eqI]
  by_cases h5 : (z0.fdiv 8).fmod 6 = 5
  · refine ⟨.res r.1, .dat (.int ((at' : Int) + 7 + 3 * (k : Int))), .dat (.str r.1), hm, ?_⟩
    simp only [b2, consF, consT, lstM, tupM, sliceM, sliceTM, catM, notT, ifO, letρ, bcall, e_bind, e_bindr, e_map, e_mapr, e_onE, e_onr, e_seq, e_seqt, e_seqr, e_of, e_asB, e_asI, e_lstOf, e_listOf, e_noRs, e_getB0, e_getBs, e_getW0, e_getW0k, e_getW0o, e_getWs, e_getK0, e_getK0k, e_getKs, e_frz0, e_frzs, e_both, e_either, e_bothT, e_eitherT, e_add, e_sub, e_lt, e_le, e_gt, e_ge, e_intF, e_neg, e_lenL, e_lenT, e_max, e_unfl0, e_unfl1, e_small0, e_small1, e_small2, e_small3, e_small4, e_small5, e_small8, e_runt, e_runn, e_runr, List.set_cons_zero, List.set_cons_succ, List.map_cons, List.map_nil, if_true, Bool.false_eq_true, if_false, Bool.not_true, Bool.not_false, decide_true, decide_false, decide_eq_true h5]
    rw [appE_ok (ds := evL es) rfl (by simp; omega)]
    simp [evL, Ev.d]
  · refine ⟨.ans r.1 i (z2.fmod (g + 1)), .dat (.int ((at' : Int) + 7 + 3 * (k : Int))), .dat (.str r.1), ⟨hm, hi', p5.1, by omega⟩, ?_⟩
    simp only [b2, consF, consT, lstM, tupM, sliceM, sliceTM, catM, notT, ifO, letρ, bcall, e_bind, e_bindr, e_map, e_mapr, e_onE, e_onr, e_seq, e_seqt, e_seqr, e_of, e_asB, e_asI, e_lstOf, e_listOf, e_noRs, e_getB0, e_getBs, e_getW0, e_getW0k, e_getW0o, e_getWs, e_getK0, e_getK0k, e_getKs, e_frz0, e_frzs, e_both, e_either, e_bothT, e_eitherT, e_add, e_sub, e_lt, e_le, e_gt, e_ge, e_intF, e_neg, e_lenL, e_lenT, e_max, e_unfl0, e_unfl1, e_small0, e_small1, e_small2, e_small3, e_small4, e_small5, e_small8, e_runt, e_runn, e_runr, List.set_cons_zero, List.set_cons_succ, List.map_cons, List.map_nil, if_true, Bool.false_eq_true, if_false, Bool.not_true, Bool.not_false, decide_true, decide_false, decide_eq_false h5]
    rw [appE_ok (ds := evL es) rfl (by simp; omega)]
    simp [evL, Ev.d]
def nm8 : List Str := ["pear", "a", "x9", "b", "fig", "q0", "zz", "c"]
theorem nm8_ok : (∀ s ∈ nm8, isNm s = true) ∧ nm8.Nodup := by decide +kernel
theorem nm3_ok : (∀ s ∈ nm3, isNm s = true) ∧ nm3.Nodup := by decide +kernel
theorem parts_ok (xs : List Int) (at' many more : Nat) (hm : 1 ≤ many ∧ many ≤ 8) (hmore : more ≤ 100) (hx : at' + 10 + 3 * more ≤ xs.length) (hxl : xs.length < 10000) : ∃ p : Pt, m_law_parts [.list (intL xs), .int (at' : Int), .int (many : Int), .int (more : Int)] = .ok p.d ∧ p.Ok ∧ p.events.length ≤ more ∧ (∃ n, p.judges.map (·.1) = nm3.take n) ∧ ∃ n, p.items = nm8.take n := by
  have st : start0 11 fl__law_parts [.list (intL xs), .int (at' : Int), .int (many : Int), .int (more : Int)] = [.dat (.list (intL xs)), .dat (.int (at' : Int)), .dat (.int (many : Int)), .dat (.int (more : Int)), .un, .un, .un, .un, .un, .un, .un] := rfl
  unfold m_law_parts
  rw [st]
  unfold m_law_parts_b
  have n0 : ixD (.list (intL xs)) (.int (at' : Int)) = .ok (.int (xs.getD (at' : Int).toNat 0)) := ixD_n (by omega) (by omega)
  have n1 : ixD (.list (intL xs)) (.int ((at' : Int) + 1)) = .ok (.int (xs.getD ((at' : Int) + 1).toNat 0)) := ixD_n (by omega) (by omega)
  have n2 : ixD (.list (intL xs)) (.int ((at' : Int) + 2)) = .ok (.int (xs.getD ((at' : Int) + 2).toNat 0)) := ixD_n (by omega) (by omega)
  have n6 : ixD (.list (intL xs)) (.int ((at' : Int) + 6)) = .ok (.int (xs.getD ((at' : Int) + 6).toNat 0)) := ixD_n (by omega) (by omega)
  generalize xs.getD (at' : Int).toNat 0 = z0 at n0
  generalize xs.getD ((at' : Int) + 1).toNat 0 = z1 at n1
  generalize xs.getD ((at' : Int) + 2).toNat 0 = z2 at n2
  generalize xs.getD ((at' : Int) + 6).toNat 0 = z6 at n6
  have d0 : modD (.int z0) (.int (many : Int)) = .ok (.int (z0.fmod (many : Int))) := modD_ok (by omega)
  have p0 := @fmod_pos z0 (many : Int) (by omega)
  have d1 : modD (.int z1) (.int 5) = .ok (.int (z1.fmod 5)) := modD_ok (by decide)
  have p1 := @fmod_pos z1 5 (by decide)
  have d2 : modD (.int z2) (.int 3) = .ok (.int (z2.fmod 3)) := modD_ok (by decide)
  have p2 := @fmod_pos z2 3 (by decide)
  have d6 : modD (.int z6) (.int ((more : Int) + 1)) = .ok (.int (z6.fmod ((more : Int) + 1))) := modD_ok (by omega)
  have p6 := @fmod_pos z6 ((more : Int) + 1) (by omega)
  generalize z0.fmod (many : Int) = y0 at d0 p0
  generalize z1.fmod 5 = y1 at d1 p1
  generalize z2.fmod 3 = y2 at d2 p2
  generalize z6.fmod ((more : Int) + 1) = y6 at d6 p6
  -- the items
  obtain ⟨N, rfl⟩ := Int.eq_ofNat_of_zero_le p0.1
  have cut : cutG [PyData.str "pear", .str "a", .str "x9", .str "b", .str "fig", .str "q0", .str "zz", .str "c"] none (some (1 + (N : Int))) = strL (nm8.take (1 + N)) := by
    rw [show (1 + (N : Int)) = ((1 + N : Nat) : Int) by omega, cutG_take, show strL (nm8.take (1 + N)) = (strL nm8).take (1 + N) from List.map_take]
    rfl
  -- the highest grade
  obtain ⟨dg, ig, hg⟩ := @ixD_i [PyData.int 1, .int 1, .int 2, .int 3, .int 9] y1 p1.1 p1.2
  obtain ⟨g, rfl, g1, g2⟩ : ∃ g : Int, dg = .int g ∧ 1 ≤ g ∧ g ≤ 9 := by
    have := List.mem_of_getElem? hg
    simp only [List.mem_cons, List.not_mem_nil, or_false] at this
    rcases this with rfl | rfl | rfl | rfl | rfl
    · exact ⟨1, rfl, by decide, by decide⟩
    · exact ⟨1, rfl, by decide, by decide⟩
    · exact ⟨2, rfl, by decide, by decide⟩
    · exact ⟨3, rfl, by decide, by decide⟩
    · exact ⟨9, rfl, by decide, by decide⟩
  have r1 : rng1 (.int (1 + y2)) = .ok (rangeD 0 (1 + y2).toNat) := rng1_ok (by omega) (by omega)
  have r2 : rng1 (.int y6) = .ok (rangeD 0 y6.toNat) := rng1_ok (by omega) (by omega)
  simp only [b2, consF, consT, lstM, tupM, sliceM, sliceTM, catM, notT, ifO, letρ, bcall, e_bind, e_bindr, e_map, e_mapr, e_onE, e_onr, e_seq, e_seqt, e_seqr, e_of, e_asB, e_asI, e_lstOf, e_listOf, e_noRs, e_getB0, e_getBs, e_getW0, e_getW0k, e_getW0o, e_getWs, e_getK0, e_getK0k, e_getKs, e_frz0, e_frzs, e_both, e_either, e_bothT, e_eitherT, e_add, e_sub, e_lt, e_le, e_gt, e_ge, e_intF, e_neg, e_lenL, e_lenT, e_max, e_unfl0, e_unfl1, e_small0, e_small1, e_small2, e_small3, e_small4, e_small5, e_small8, e_runt, e_runn, e_runr, List.set_cons_zero, List.set_cons_succ, List.map_cons, List.map_nil, if_true, Bool.false_eq_true, if_false, Bool.not_true, Bool.not_false, decide_true, decide_false, n0, n1, n2, n6, d0, d1, d2, d6, cut, ig, r1, r2]
  -- the judges
  obtain ⟨ρ1, l1, js, x7, e1, ej, ed⟩ := forO_rule (t := .one 7) (body := b1__law_parts) (ds := rangeD 0 (1 + y2).toNat) (ρ := [.dat (.list (intL xs)), .dat (.int (at' : Int)), .dat (.int (many : Int)), .dat (.int (more : Int)), .dat (.list (strL (nm8.take (1 + N)))), .dat (.int g), .own [], .un, .un, .un, .un])
    (fun i ρ => ∃ (js : List (Str × Str)) (x7 : B), ρ = [.dat (.list (intL xs)), .dat (.int (at' : Int)), .dat (.int (many : Int)), .dat (.int (more : Int)), .dat (.list (strL (nm8.take (1 + N)))), .dat (.int g), .own (jL js), x7, .un, .un, .un] ∧ js.map (·.1) = nm3.take i ∧ ∀ q ∈ js, q.2 ∈ driftS)
    ⟨[], .un, rfl, rfl, fun q h => by cases h⟩ (by
      rintro i d ρ hd ⟨js, x7, rfl, ej, ed⟩
      obtain ⟨rfl, hi⟩ := range_at hd
      have hi3 : i < 3 := by omega
      have ejl : js.length ≤ 3 := by
        have := congrArg List.length ej
        rw [List.length_map, List.length_take] at this
        omega
      obtain ⟨dr, hdr, e⟩ := parts_j xs at' many more (.dat (.list (strL (nm8.take (1 + N))))) (.dat (.int g)) js i .un .un .un hi3 (by omega) (by omega)
      refine ⟨_, _, ?_, .inl e, js ++ [(nm3.getD i "", dr)], _, rfl, ?_, fun q hq => ?_⟩
      · simp [Tg.set]
      · rw [List.map_append, ej]
        match i, hi3 with
        | 0, _ => rfl
        | 1, _ => rfl
        | 2, _ => rfl
      · rcases List.mem_append.mp hq with h | h
        · exact ed q h
        · rw [List.mem_singleton.mp h]
          exact hdr)
  have hlen : (rangeD 0 (1 + y2).toNat).length = (1 + y2).toNat := by simp [rangeD]
  rw [hlen] at ej
  have ejl : js.length = (1 + y2).toNat := by
    have := congrArg List.length ej
    rw [List.length_map, List.length_take] at this
    rw [this]
    show min _ 3 = _
    omega
  have hj : js ≠ [] := List.length_pos_iff.mp (by omega)
  have hit : nm8.take (1 + N) ≠ [] := List.length_pos_iff.mp (by rw [List.length_take]; show 0 < min _ 8; omega)
  -- the events
  obtain ⟨ρ2, l2, es, y7, y9, y10, e2, el, eo⟩ := forO_rule (t := .one 7) (body := b2__law_parts) (ds := rangeD 0 y6.toNat) (ρ := [.dat (.list (intL xs)), .dat (.int (at' : Int)), .dat (.int (many : Int)), .dat (.int (more : Int)), .dat (.list (strL (nm8.take (1 + N)))), .dat (.int g), .own (jL js), x7, .own [], .un, .un])
    (fun i ρ => ∃ (es : List Ev) (x7 x9 x10 : B), ρ = [.dat (.list (intL xs)), .dat (.int (at' : Int)), .dat (.int (many : Int)), .dat (.int (more : Int)), .dat (.list (strL (nm8.take (1 + N)))), .dat (.int g), .own (jL js), x7, .own (evL es), x9, x10] ∧ es.length = i ∧ ∀ e ∈ es, evOk (nm8.take (1 + N)) (js.map (·.1)) g e)
    ⟨[], x7, .un, .un, rfl, rfl, fun q h => by cases h⟩ (by
      rintro i d ρ hd ⟨es, x7, x9, x10, rfl, el, eo⟩
      obtain ⟨rfl, hi⟩ := range_at hd
      obtain ⟨e, p', q', he, hb⟩ := parts_e xs at' many more (nm8.take (1 + N)) g js i es x9 x10 (by omega) (by omega) hit hj g1 (by omega)
      refine ⟨_, _, ?_, .inl hb, es ++ [e], _, p', q', rfl, by simp [el], fun q hq => ?_⟩
      · simp [Tg.set]
      · rcases List.mem_append.mp hq with h | h
        · exact eo q h
        · rw [List.mem_singleton.mp h]
          exact he)
  have hlen2 : (rangeD 0 y6.toNat).length = y6.toNat := by simp [rangeD]
  rw [hlen2] at el
  rw [l1, e1]
  simp only [b2, consF, consT, lstM, tupM, sliceM, sliceTM, catM, notT, ifO, letρ, bcall, e_bind, e_bindr, e_map, e_mapr, e_onE, e_onr, e_seq, e_seqt, e_seqr, e_of, e_asB, e_asI, e_lstOf, e_listOf, e_noRs, e_getB0, e_getBs, e_getW0, e_getW0k, e_getW0o, e_getWs, e_getK0, e_getK0k, e_getKs, e_frz0, e_frzs, e_both, e_either, e_bothT, e_eitherT, e_add, e_sub, e_lt, e_le, e_gt, e_ge, e_intF, e_neg, e_lenL, e_lenT, e_max, e_unfl0, e_unfl1, e_small0, e_small1, e_small2, e_small3, e_small4, e_small5, e_small8, e_runt, e_runn, e_runr, List.set_cons_zero, List.set_cons_succ, List.map_cons, List.map_nil, if_true, Bool.false_eq_true, if_false, Bool.not_true, Bool.not_false, decide_true, decide_false, n6, d6, r2]
  rw [l2, e2]
  simp only [b2, consF, consT, lstM, tupM, sliceM, sliceTM, catM, notT, ifO, letρ, bcall, e_bind, e_bindr, e_map, e_mapr, e_onE, e_onr, e_seq, e_seqt, e_seqr, e_of, e_asB, e_asI, e_lstOf, e_listOf, e_noRs, e_getB0, e_getBs, e_getW0, e_getW0k, e_getW0o, e_getWs, e_getK0, e_getK0k, e_getKs, e_frz0, e_frzs, e_both, e_either, e_bothT, e_eitherT, e_add, e_sub, e_lt, e_le, e_gt, e_ge, e_intF, e_neg, e_lenL, e_lenT, e_max, e_unfl0, e_unfl1, e_small0, e_small1, e_small2, e_small3, e_small4, e_small5, e_small8, e_runt, e_runn, e_runr, List.set_cons_zero, List.set_cons_succ, List.map_cons, List.map_nil, if_true, Bool.false_eq_true, if_false, Bool.not_true, Bool.not_false, decide_true, decide_false]
  refine ⟨⟨nm8.take (1 + N), g, js, es⟩, rfl, ⟨hit, ?_, fun s hs => nm8_ok.1 s (List.mem_of_mem_take hs), nm8_ok.2.sublist (List.take_sublist _ _), g1, g2, hj, by show js.length ≤ 8; omega, fun q hq => ?_, ?_, ed, by show es.length ≤ 120; omega, eo⟩, by show es.length ≤ more; omega, ⟨_, ej⟩, ⟨_, rfl⟩⟩
  · show (nm8.take (1 + N)).length ≤ 20
    rw [List.length_take]
    show min _ 8 ≤ 20
    omega
  · have : q.1 ∈ nm3.take (1 + y2).toNat := by
      rw [← ej]
      exact List.mem_map_of_mem hq
    exact nm3_ok.1 _ (List.mem_of_mem_take this)
  · show (js.map (·.1)).Nodup
    rw [ej]
    exact nm3_ok.2.sublist (List.take_sublist _ _)
end K03


set_option Elab.async false
set_option linter.all false
set_option maxRecDepth 100000
set_option maxHeartbeats 2000000
namespace K03
open PySem L2 RB
/-! ### a log is made -/
theorem is_name_ok {s : Str} (h : isNm s = true) : m_is_name [.str s] = .ok (.bool true) := by
  have st : start0 2 fl_is_name [.str s] = [.dat (.str s), .un] := rfl
  have ln := nm_len h
  unfold m_is_name
  rw [st]
  unfold m_is_name_b
  have l1 : lenD [.str s] = .ok (.int (s.length : Nat)) := if_pos (Nat.le_trans ln.2 (by decide))
  have ch : chainD leD leD (.ok (.int 1)) (.ok (.int (s.length : Nat))) (.ok g_LONGEST_NAME) = .ok (.bool true) := by
    show chainD leD leD (.ok (.int 1)) (.ok (.int (s.length : Nat))) (.ok (.int 12)) = _
    rw [chain_ok (e_le _ _) (e_le _ _)]
    rw [decide_eq_true (by omega), decide_eq_true (by omega)]
    rfl
  have sg : signsOf (.str s) = .ok (s.cps.toList.map fun c => .str ⟨#[c]⟩) := rfl
  have lc : lcM (.one 1) [1] (fun ρ => (R.ok true)) (fun ρ => (b2 (inS false) (getW ρ 1) (R.ok g_NAME_SIGNS))) [.dat (.str s), .un] (s.cps.toList.map fun c => .str ⟨#[c]⟩) = .ok (s.cps.toList.map fun c => .bool true) := by
    refine lc_all (fun c => PyData.str ⟨#[c]⟩) (fun c => .bool true) _ ?_ fun c hc => ⟨[.dat (.str s), .dat (.str ⟨#[c]⟩)], rfl, ?_⟩
    · have : s.cps.toList.length = s.length := rfl
      omega
    · simp only [b2, consF, consT, lstM, tupM, sliceM, sliceTM, catM, notT, ifO, letρ, bcall, e_bind, e_bindr, e_map, e_mapr, e_onE, e_onr, e_seq, e_seqt, e_seqr, e_of, e_asB, e_asI, e_lstOf, e_listOf, e_noRs, e_getB0, e_getBs, e_getW0, e_getW0k, e_getW0o, e_getWs, e_getK0, e_getK0k, e_getKs, e_frz0, e_frzs, e_both, e_either, e_bothT, e_eitherT, e_add, e_sub, e_lt, e_le, e_gt, e_ge, e_intF, e_neg, e_lenL, e_lenT, e_max, e_unfl0, e_unfl1, e_small0, e_small1, e_small2, e_small3, e_small4, e_small5, e_small8, e_runt, e_runn, e_runr, List.set_cons_zero, List.set_cons_succ, List.map_cons, List.map_nil, if_true, Bool.false_eq_true, if_false, Bool.not_true, Bool.not_false, decide_true, decide_false]
      show R.ok (PyData.bool (if false = true then _ else decide (c ∈ signS.cps.toList))) = _
      rw [if_neg Bool.false_ne_true, decide_eq_true (nm_signs h c hc)]
  have al : allD [.list (s.cps.toList.map fun c => .bool true)] = .ok (.bool true) := by
    rw [show (s.cps.toList.map fun c => PyData.bool true) = (s.cps.toList.map fun c => true).map PyData.bool by rw [List.map_map]; rfl, e_all]
    congr 2
    rw [List.all_eq_true]
    intro x hx
    obtain ⟨_, _, rfl⟩ := List.mem_map.mp hx
    rfl
  simp only [b2, consF, consT, lstM, tupM, sliceM, sliceTM, catM, notT, ifO, letρ, bcall, e_bind, e_bindr, e_map, e_mapr, e_onE, e_onr, e_seq, e_seqt, e_seqr, e_of, e_asB, e_asI, e_lstOf, e_listOf, e_noRs, e_getB0, e_getBs, e_getW0, e_getW0k, e_getW0o, e_getWs, e_getK0, e_getK0k, e_getKs, e_frz0, e_frzs, e_both, e_either, e_bothT, e_eitherT, e_add, e_sub, e_lt, e_le, e_gt, e_ge, e_intF, e_neg, e_lenL, e_lenT, e_max, e_unfl0, e_unfl1, e_small0, e_small1, e_small2, e_small3, e_small4, e_small5, e_small8, e_runt, e_runn, e_runr, List.set_cons_zero, List.set_cons_succ, List.map_cons, List.map_nil, if_true, Bool.false_eq_true, if_false, Bool.not_true, Bool.not_false, decide_true, decide_false, l1, ch, sg]
  simp only [b2, consF, consT, lstM, tupM, sliceM, sliceTM, catM, notT, ifO, letρ, bcall, e_bind, e_bindr, e_map, e_mapr, e_onE, e_onr, e_seq, e_seqt, e_seqr, e_of, e_asB, e_asI, e_lstOf, e_listOf, e_noRs, e_getB0, e_getBs, e_getW0, e_getW0k, e_getW0o, e_getWs, e_getK0, e_getK0k, e_getKs, e_frz0, e_frzs, e_both, e_either, e_bothT, e_eitherT, e_add, e_sub, e_lt, e_le, e_gt, e_ge, e_intF, e_neg, e_lenL, e_lenT, e_max, e_unfl0, e_unfl1, e_small0, e_small1, e_small2, e_small3, e_small4, e_small5, e_small8, e_runt, e_runn, e_runr, List.set_cons_zero, List.set_cons_succ, List.map_cons, List.map_nil, if_true, Bool.false_eq_true, if_false, Bool.not_true, Bool.not_false, decide_true, decide_false] at lc
  simp only [b2, consF, consT, lstM, tupM, sliceM, sliceTM, catM, notT, ifO, letρ, bcall, e_bind, e_bindr, e_map, e_mapr, e_onE, e_onr, e_seq, e_seqt, e_seqr, e_of, e_asB, e_asI, e_lstOf, e_listOf, e_noRs, e_getB0, e_getBs, e_getW0, e_getW0k, e_getW0o, e_getWs, e_getK0, e_getK0k, e_getKs, e_frz0, e_frzs, e_both, e_either, e_bothT, e_eitherT, e_add, e_sub, e_lt, e_le, e_gt, e_ge, e_intF, e_neg, e_lenL, e_lenT, e_max, e_unfl0, e_unfl1, e_small0, e_small1, e_small2, e_small3, e_small4, e_small5, e_small8, e_runt, e_runn, e_runr, List.set_cons_zero, List.set_cons_succ, List.map_cons, List.map_nil, if_true, Bool.false_eq_true, if_false, Bool.not_true, Bool.not_false, decide_true, decide_false, lc, al]
theorem may_follow_ok {s : Str} {ss : List Str} {most : Int} (h : isNm s = true) (hs : ∀ s ∈ ss, isNm s = true) (hn : s ∉ ss) (hl : (ss.length : Int) < most) : m_may_follow [.str s, .list (strL ss), .int most] = .ok (.bool true) := by
  have st : start0 3 fl_may_follow [.str s, .list (strL ss), .int most] = [.dat (.str s), .dat (.list (strL ss)), .dat (.int most)] := rfl
  unfold m_may_follow
  rw [st]
  unfold m_may_follow_b
  have cl : callM fl_is_name m_is_name [(false, .str s)] = .ok (.bool true) := is_name_ok h
  have hl' : ((strL ss).length : Int) < most := by simpa using hl
  simp only [b2, consF, consT, lstM, tupM, sliceM, sliceTM, catM, notT, ifO, letρ, bcall, e_bind, e_bindr, e_map, e_mapr, e_onE, e_onr, e_seq, e_seqt, e_seqr, e_of, e_asB, e_asI, e_lstOf, e_listOf, e_noRs, e_getB0, e_getBs, e_getW0, e_getW0k, e_getW0o, e_getWs, e_getK0, e_getK0k, e_getKs, e_frz0, e_frzs, e_both, e_either, e_bothT, e_eitherT, e_add, e_sub, e_lt, e_le, e_gt, e_ge, e_intF, e_neg, e_lenL, e_lenT, e_max, e_unfl0, e_unfl1, e_small0, e_small1, e_small2, e_small3, e_small4, e_small5, e_small8, e_runt, e_runn, e_runr, List.set_cons_zero, List.set_cons_succ, List.map_cons, List.map_nil, if_true, Bool.false_eq_true, if_false, Bool.not_true, Bool.not_false, decide_true, decide_false, cl, e_inS true (nm_ok h) (fun s m => nm_ok (hs s m)), decide_eq_true hl', decide_eq_false hn]
theorem check_names_ok {ss : List Str} {most : Int} {what : D} (h0 : ss ≠ []) (hl : (ss.length : Int) ≤ most) (hN : ∀ s ∈ ss, isNm s = true) (hD : ss.Nodup) : m_check_names [.list (strL ss), .int most, what] = .ok .none := by
  have st : start0 5 fl__check_names [.list (strL ss), .int most, what] = [.wk (strL ss), .dat (.int most), .dat what, .un, .un] := rfl
  unfold m_check_names
  rw [st]
  unfold m_check_names_b
  have hp := List.length_pos_iff.mpr h0
  have ne : ¬ ((strL ss).length : Int) = 0 := by simp; omega
  obtain ⟨ρ', h1, x3, x4, h2⟩ := forO_rule (t := .many [3, 4]) (body := b1__check_names) (ds := enumD (strL ss)) (ρ := [.wk (strL ss), .dat (.int most), .dat what, .un, .un])
    (fun i ρ => ∃ x3 x4, ρ = [.wk (strL ss), .dat (.int most), .dat what, x3, x4]) ⟨_, _, rfl⟩ (by
      rintro i d ρ hd ⟨x3, x4, rfl⟩
      obtain ⟨e, he, rfl⟩ := enum_at hd
      rw [List.getElem?_map] at he
      obtain ⟨s, hs, rfl⟩ := Option.map_eq_some_iff.mp he
      have hi := (List.getElem?_eq_some_iff.mp hs).1
      have hm : s ∈ ss := List.mem_of_getElem? hs
      refine ⟨[.wk (strL ss), .dat (.int most), .dat what, .dat (.int (i : Nat)), .dat (.str s)], _, rfl, .inl ?_, .dat (.int (i : Nat)), .dat (.str s), rfl⟩
      have cut : cutG (strL ss) none (some (i : Int)) = strL (ss.take i) := by rw [cutG_take]; exact List.map_take.symm
      have cl : callM fl_may_follow m_may_follow [(false, .str s), (false, .list (strL (ss.take i))), (false, .int most)] = .ok (.bool true) := by
        refine may_follow_ok (hN s hm) (fun s m => hN s (List.mem_of_mem_take m)) (fun m => ?_) (by rw [List.length_take]; omega)
        obtain ⟨j, hj, e⟩ := List.mem_iff_getElem.mp m
        rw [List.length_take] at hj
        rw [List.getElem_take] at e
        have h3 := (List.getElem?_eq_some_iff.mp hs).2
        exact List.pairwise_iff_getElem.mp hD j i (by omega) hi (by omega) (e.trans h3.symm)
      unfold b1__check_names
      simp only [b2, consF, consT, lstM, tupM, sliceM, sliceTM, catM, notT, ifO, letρ, bcall, e_bind, e_bindr, e_map, e_mapr, e_onE, e_onr, e_seq, e_seqt, e_seqr, e_of, e_asB, e_asI, e_lstOf, e_listOf, e_noRs, e_getB0, e_getBs, e_getW0, e_getW0k, e_getW0o, e_getWs, e_getK0, e_getK0k, e_getKs, e_frz0, e_frzs, e_both, e_either, e_bothT, e_eitherT, e_add, e_sub, e_lt, e_le, e_gt, e_ge, e_intF, e_neg, e_lenL, e_lenT, e_max, e_unfl0, e_unfl1, e_small0, e_small1, e_small2, e_small3, e_small4, e_small5, e_small8, e_runt, e_runn, e_runr, List.set_cons_zero, List.set_cons_succ, List.map_cons, List.map_nil, if_true, Bool.false_eq_true, if_false, Bool.not_true, Bool.not_false, decide_true, decide_false, cut, cl])
  simp only [b2, consF, consT, lstM, tupM, sliceM, sliceTM, catM, notT, ifO, letρ, bcall, e_bind, e_bindr, e_map, e_mapr, e_onE, e_onr, e_seq, e_seqt, e_seqr, e_of, e_asB, e_asI, e_lstOf, e_listOf, e_noRs, e_getB0, e_getBs, e_getW0, e_getW0k, e_getW0o, e_getWs, e_getK0, e_getK0k, e_getKs, e_frz0, e_frzs, e_both, e_either, e_bothT, e_eitherT, e_add, e_sub, e_lt, e_le, e_gt, e_ge, e_intF, e_neg, e_lenL, e_lenT, e_max, e_unfl0, e_unfl1, e_small0, e_small1, e_small2, e_small3, e_small4, e_small5, e_small8, e_runt, e_runn, e_runr, List.set_cons_zero, List.set_cons_succ, List.map_cons, List.map_nil, if_true, Bool.false_eq_true, if_false, Bool.not_true, Bool.not_false, decide_true, decide_false, e_eqI, decide_eq_false ne]
  rw [h1]
  rfl
theorem is_drift_ok {d : Str} (h : d ∈ driftS) : m_is_drift [.str d] = .ok (.bool true) := by
  simp only [driftS, List.mem_cons, List.not_mem_nil, or_false] at h
  rcases h with rfl | rfl | rfl <;> rfl
theorem check_judges_ok {js : List (Str × Str)} (h0 : js ≠ []) (hl : js.length ≤ 8) (hN : ∀ q ∈ js, isNm q.1 = true) (hD : (js.map (·.1)).Nodup) (hR : ∀ q ∈ js, q.2 ∈ driftS) : m_check_judges [.list (jL js)] = .ok .none := by
  have st : start0 2 fl__check_judges [.list (jL js)] = [.wk (jL js), .un] := rfl
  unfold m_check_judges
  rw [st]
  unfold m_check_judges_b
  obtain ⟨ρ', h1, x1, h2⟩ := forO_rule (t := .one 1) (body := b1__check_judges) (ds := jL js) (ρ := [.wk (jL js), .un]) (fun i ρ => ∃ x1, ρ = [.wk (jL js), x1]) ⟨_, rfl⟩ (by
      rintro i d ρ hd ⟨x1, rfl⟩
      rw [List.getElem?_map] at hd
      obtain ⟨q, hq, rfl⟩ := Option.map_eq_some_iff.mp hd
      have hm : q ∈ js := List.mem_of_getElem? hq
      refine ⟨[.wk (jL js), .dat (jD q)], _, rfl, .inl ?_, .dat (jD q), rfl⟩
      unfold b1__check_judges
      have l : lenD [jD q] = .ok (.int 2) := rfl
      have i1 : ixD (jD q) (.int 1) = .ok (.str q.2) := rfl
      have cl : callM fl_is_drift m_is_drift [(false, .str q.2)] = .ok (.bool true) := is_drift_ok (hR q hm)
      simp only [b2, consF, consT, lstM, tupM, sliceM, sliceTM, catM, notT, ifO, letρ, bcall, e_bind, e_bindr, e_map, e_mapr, e_onE, e_onr, e_seq, e_seqt, e_seqr, e_of, e_asB, e_asI, e_lstOf, e_listOf, e_noRs, e_getB0, e_getBs, e_getW0, e_getW0k, e_getW0o, e_getWs, e_getK0, e_getK0k, e_getKs, e_frz0, e_frzs, e_both, e_either, e_bothT, e_eitherT, e_add, e_sub, e_lt, e_le, e_gt, e_ge, e_intF, e_neg, e_lenL, e_lenT, e_max, e_unfl0, e_unfl1, e_small0, e_small1, e_small2, e_small3, e_small4, e_small5, e_small8, e_runt, e_runn, e_runr, List.set_cons_zero, List.set_cons_succ, List.map_cons, List.map_nil, if_true, Bool.false_eq_true, if_false, Bool.not_true, Bool.not_false, decide_true, decide_false, l, i1, cl, e_neI, decide_eq_true (rfl : (2 : Int) = 2)])
  have lc : lcM (.one 1) [1] (fun ρ => (R.ok true)) (fun ρ => (b2 ixD (getW ρ 1) (R.ok (.int 0)))) [.wk (jL js), x1] (jL js) = .ok (strL (js.map (·.1))) := by
    rw [show strL (js.map (·.1)) = js.map fun q => PyData.str q.1 by simp [strL]]
    refine lc_all jD _ _ (by omega) fun q hq => ⟨[.wk (jL js), .dat (jD q)], rfl, rfl⟩
  have cl : callM fl__check_names m_check_names [(true, .list (strL (js.map (·.1)))), (false, g_MOST_JUDGES), (false, .str "judge")] = .ok .none :=
    check_names_ok (most := 8) (fun z => h0 (List.map_eq_nil_iff.mp z)) (by rw [List.length_map]; omega) (fun s hs => by
      obtain ⟨q, hq, rfl⟩ := List.mem_map.mp hs
      exact hN q hq) hD
  simp only [b2, consF, consT, lstM, tupM, sliceM, sliceTM, catM, notT, ifO, letρ, bcall, e_bind, e_bindr, e_map, e_mapr, e_onE, e_onr, e_seq, e_seqt, e_seqr, e_of, e_asB, e_asI, e_lstOf, e_listOf, e_noRs, e_getB0, e_getBs, e_getW0, e_getW0k, e_getW0o, e_getWs, e_getK0, e_getK0k, e_getKs, e_frz0, e_frzs, e_both, e_either, e_bothT, e_eitherT, e_add, e_sub, e_lt, e_le, e_gt, e_ge, e_intF, e_neg, e_lenL, e_lenT, e_max, e_unfl0, e_unfl1, e_small0, e_small1, e_small2, e_small3, e_small4, e_small5, e_small8, e_runt, e_runn, e_runr, List.set_cons_zero, List.set_cons_succ, List.map_cons, List.map_nil, if_true, Bool.false_eq_true, if_false, Bool.not_true, Bool.not_false, decide_true, decide_false]
  rw [h1, h2]
  simp only [b2, consF, consT, lstM, tupM, sliceM, sliceTM, catM, notT, ifO, letρ, bcall, e_bind, e_bindr, e_map, e_mapr, e_onE, e_onr, e_seq, e_seqt, e_seqr, e_of, e_asB, e_asI, e_lstOf, e_listOf, e_noRs, e_getB0, e_getBs, e_getW0, e_getW0k, e_getW0o, e_getWs, e_getK0, e_getK0k, e_getKs, e_frz0, e_frzs, e_both, e_either, e_bothT, e_eitherT, e_add, e_sub, e_lt, e_le, e_gt, e_ge, e_intF, e_neg, e_lenL, e_lenT, e_max, e_unfl0, e_unfl1, e_small0, e_small1, e_small2, e_small3, e_small4, e_small5, e_small8, e_runt, e_runn, e_runr, List.set_cons_zero, List.set_cons_succ, List.map_cons, List.map_nil, if_true, Bool.false_eq_true, if_false, Bool.not_true, Bool.not_false, decide_true, decide_false] at lc
  simp only [b2, consF, consT, lstM, tupM, sliceM, sliceTM, catM, notT, ifO, letρ, bcall, e_bind, e_bindr, e_map, e_mapr, e_onE, e_onr, e_seq, e_seqt, e_seqr, e_of, e_asB, e_asI, e_lstOf, e_listOf, e_noRs, e_getB0, e_getBs, e_getW0, e_getW0k, e_getW0o, e_getWs, e_getK0, e_getK0k, e_getKs, e_frz0, e_frzs, e_both, e_either, e_bothT, e_eitherT, e_add, e_sub, e_lt, e_le, e_gt, e_ge, e_intF, e_neg, e_lenL, e_lenT, e_max, e_unfl0, e_unfl1, e_small0, e_small1, e_small2, e_small3, e_small4, e_small5, e_small8, e_runt, e_runn, e_runr, List.set_cons_zero, List.set_cons_succ, List.map_cons, List.map_nil, if_true, Bool.false_eq_true, if_false, Bool.not_true, Bool.not_false, decide_true, decide_false, lc, cl]
theorem is_event_ok {its names : List Str} {g : Int} {e : Ev} (h : evOk its names g e) (hi : ∀ s ∈ its, sOk s) (hn : ∀ s ∈ names, sOk s) : m_is_event [e.d, .list (strL its), .int g, .list (strL names)] = .ok (.bool true) := by
  have st : start0 4 fl_is_event [e.d, .list (strL its), .int g, .list (strL names)] = [.dat e.d, .wk (strL its), .dat (.int g), .dat (.list (strL names))] := rfl
  unfold m_is_event
  rw [st]
  unfold m_is_event_b
  cases e with
  | res j =>
    have l : lenD [(Ev.res j).d] = .ok (.int 2) := rfl
    have i0 : ixD (Ev.res j).d (.int 0) = .ok (.str "reset") := rfl
    have i1 : ixD (Ev.res j).d (.int 1) = .ok (.str j) := rfl
    have h : j ∈ names := h
    simp only [b2, consF, consT, lstM, tupM, sliceM, sliceTM, catM, notT, ifO, letρ, bcall, e_bind, e_bindr, e_map, e_mapr, e_onE, e_onr, e_seq, e_seqt, e_seqr, e_of, e_asB, e_asI, e_lstOf, e_listOf, e_noRs, e_getB0, e_getBs, e_getW0, e_getW0k, e_getW0o, e_getWs, e_getK0, e_getK0k, e_getKs, e_frz0, e_frzs, e_both, e_either, e_bothT, e_eitherT, e_add, e_sub, e_lt, e_le, e_gt, e_ge, e_intF, e_neg, e_lenL, e_lenT, e_max, e_unfl0, e_unfl1, e_small0, e_small1, e_small2, e_small3, e_small4, e_small5, e_small8, e_runt, e_runn, e_runr, List.set_cons_zero, List.set_cons_succ, List.map_cons, List.map_nil, if_true, Bool.false_eq_true, if_false, Bool.not_true, Bool.not_false, decide_true, decide_false, l, i0, i1, e_eqI, e_eqS ok_reset ok_reset, decide_eq_true (rfl : (2 : Int) = 2), decide_eq_true (rfl : ("reset" : Str) = "reset"), e_inS false (hn j h) hn, decide_eq_true h]
  | ans j i x =>
    have l : lenD [(Ev.ans j i x).d] = .ok (.int 4) := rfl
    have i0 : ixD (Ev.ans j i x).d (.int 0) = .ok (.str "answer") := rfl
    have i1 : ixD (Ev.ans j i x).d (.int 1) = .ok (.str j) := rfl
    have i2 : ixD (Ev.ans j i x).d (.int 2) = .ok (.str i) := rfl
    have i3 : ixD (Ev.ans j i x).d (.int 3) = .ok (.int x) := rfl
    obtain ⟨h1, h2, h3, h4⟩ := h
    have ch : chainD leD leD (.ok (.int 0)) (.ok (.int x)) (.ok (.int g)) = .ok (.bool true) := by
      rw [chain_ok (e_le _ _) (e_le _ _), decide_eq_true h3, decide_eq_true h4]
      rfl
    simp only [b2, consF, consT, lstM, tupM, sliceM, sliceTM, catM, notT, ifO, letρ, bcall, e_bind, e_bindr, e_map, e_mapr, e_onE, e_onr, e_seq, e_seqt, e_seqr, e_of, e_asB, e_asI, e_lstOf, e_listOf, e_noRs, e_getB0, e_getBs, e_getW0, e_getW0k, e_getW0o, e_getWs, e_getK0, e_getK0k, e_getKs, e_frz0, e_frzs, e_both, e_either, e_bothT, e_eitherT, e_add, e_sub, e_lt, e_le, e_gt, e_ge, e_intF, e_neg, e_lenL, e_lenT, e_max, e_unfl0, e_unfl1, e_small0, e_small1, e_small2, e_small3, e_small4, e_small5, e_small8, e_runt, e_runn, e_runr, List.set_cons_zero, List.set_cons_succ, List.map_cons, List.map_nil, if_true, Bool.false_eq_true, if_false, Bool.not_true, Bool.not_false, decide_true, decide_false, l, i0, i1, i2, i3, e_eqI, e_eqS ok_answer ok_answer, decide_eq_false (by decide : ¬ (4 : Int) = 2), decide_eq_true (rfl : (4 : Int) = 4), decide_eq_true (rfl : ("answer" : Str) = "answer"), e_inS false (hn j h1) hn, decide_eq_true h1, e_inS false (hi i h2) hi, decide_eq_true h2, ch]
theorem check_log_ok {p : Pt} (h : p.Ok) : m_check_log [.list (strL p.items), .int p.grades, .list (jL p.judges), .list (evL p.events)] = .ok .none := by
  have st : start0 7 fl__check_log [.list (strL p.items), .int p.grades, .list (jL p.judges), .list (evL p.events)] = [.wk (strL p.items), .dat (.int p.grades), .wk (jL p.judges), .wk (evL p.events), .un, .un, .un] := rfl
  unfold m_check_log
  rw [st]
  unfold m_check_log_b
  have c1 : callM fl__check_names m_check_names [(true, .list (strL p.items)), (false, g_MOST_ITEMS), (false, .str "item")] = .ok .none := check_names_ok (most := 20) h.in1 (by have := h.in2; omega) h.inN h.inD
  have c2 : callM fl_is_highest_grade m_is_highest_grade [(false, .int p.grades)] = .ok (.bool true) := by
    show m_is_highest_grade [.int p.grades] = _
    have st : start0 1 fl_is_highest_grade [.int p.grades] = [.dat (.int p.grades)] := rfl
    unfold m_is_highest_grade
    rw [st]
    unfold m_is_highest_grade_b
    have ch : chainD leD leD (.ok (.int 1)) (.ok (.int p.grades)) (.ok g_MOST_GRADES) = .ok (.bool true) := by
      show chainD leD leD (.ok (.int 1)) (.ok (.int p.grades)) (.ok (.int 9)) = _
      rw [chain_ok (e_le _ _) (e_le _ _), decide_eq_true h.g1, decide_eq_true h.g2]
      rfl
    simp only [b2, consF, consT, lstM, tupM, sliceM, sliceTM, catM, notT, ifO, letρ, bcall, e_bind, e_bindr, e_map, e_mapr, e_onE, e_onr, e_seq, e_seqt, e_seqr, e_of, e_asB, e_asI, e_lstOf, e_listOf, e_noRs, e_getB0, e_getBs, e_getW0, e_getW0k, e_getW0o, e_getWs, e_getK0, e_getK0k, e_getKs, e_frz0, e_frzs, e_both, e_either, e_bothT, e_eitherT, e_add, e_sub, e_lt, e_le, e_gt, e_ge, e_intF, e_neg, e_lenL, e_lenT, e_max, e_unfl0, e_unfl1, e_small0, e_small1, e_small2, e_small3, e_small4, e_small5, e_small8, e_runt, e_runn, e_runr, List.set_cons_zero, List.set_cons_succ, List.map_cons, List.map_nil, if_true, Bool.false_eq_true, if_false, Bool.not_true, Bool.not_false, decide_true, decide_false, ch]
  have c3 : callM fl__check_judges m_check_judges [(true, .list (jL p.judges))] = .ok .none := check_judges_ok h.jn1 h.jn2 h.jnN h.jnD h.jnR
  have c4 : gtD (.int ((evL p.events).length : Nat)) g_MOST_EVENTS = .ok (.bool false) := by
    show R.ok (PyData.bool (decide ((120 : Int) < ((evL p.events).length : Nat)))) = _
    rw [decide_eq_false]
    have := h.en
    simp
    omega
  have lc : lcM (.one 6) [6] (fun ρ => (R.ok true)) (fun ρ => (b2 ixD (getW ρ 6) (R.ok (.int 0)))) [.wk (strL p.items), .dat (.int p.grades), .wk (jL p.judges), .wk (evL p.events), .un, .un, .un] (jL p.judges) = .ok (strL (p.judges.map (·.1))) := by
    rw [show strL (p.judges.map (·.1)) = p.judges.map fun q => PyData.str q.1 by simp [strL]]
    refine lc_all jD _ _ (by have := h.jn2; omega) fun q hq => ⟨[.wk (strL p.items), .dat (.int p.grades), .wk (jL p.judges), .wk (evL p.events), .un, .un, .dat (jD q)], rfl, rfl⟩
  obtain ⟨ρ', h1, x5, h2⟩ := forO_rule (t := .one 5) (body := b1__check_log) (ds := evL p.events) (ρ := [.wk (strL p.items), .dat (.int p.grades), .wk (jL p.judges), .wk (evL p.events), .dat (.list (strL (p.judges.map (·.1)))), .un, .un])
    (fun i ρ => ∃ x5, ρ = [.wk (strL p.items), .dat (.int p.grades), .wk (jL p.judges), .wk (evL p.events), .dat (.list (strL (p.judges.map (·.1)))), x5, .un]) ⟨_, rfl⟩ (by
      rintro i d ρ hd ⟨x5, rfl⟩
      rw [List.getElem?_map] at hd
      obtain ⟨e, he, rfl⟩ := Option.map_eq_some_iff.mp hd
      refine ⟨[.wk (strL p.items), .dat (.int p.grades), .wk (jL p.judges), .wk (evL p.events), .dat (.list (strL (p.judges.map (·.1)))), .dat e.d, .un], _, rfl, .inl ?_, .dat e.d, rfl⟩
      have cl : callM fl_is_event m_is_event [(false, e.d), (true, .list (strL p.items)), (false, .int p.grades), (false, .list (strL (p.judges.map (·.1))))] = .ok (.bool true) :=
        is_event_ok (h.eo e (List.mem_of_getElem? he)) (fun s hs => nm_ok (h.inN s hs)) (fun s hs => by
          obtain ⟨q, hq, rfl⟩ := List.mem_map.mp hs
          exact nm_ok (h.jnN q hq))
      unfold b1__check_log
      simp only [b2, consF, consT, lstM, tupM, sliceM, sliceTM, catM, notT, ifO, letρ, bcall, e_bind, e_bindr, e_map, e_mapr, e_onE, e_onr, e_seq, e_seqt, e_seqr, e_of, e_asB, e_asI, e_lstOf, e_listOf, e_noRs, e_getB0, e_getBs, e_getW0, e_getW0k, e_getW0o, e_getWs, e_getK0, e_getK0k, e_getKs, e_frz0, e_frzs, e_both, e_either, e_bothT, e_eitherT, e_add, e_sub, e_lt, e_le, e_gt, e_ge, e_intF, e_neg, e_lenL, e_lenT, e_max, e_unfl0, e_unfl1, e_small0, e_small1, e_small2, e_small3, e_small4, e_small5, e_small8, e_runt, e_runn, e_runr, List.set_cons_zero, List.set_cons_succ, List.map_cons, List.map_nil, if_true, Bool.false_eq_true, if_false, Bool.not_true, Bool.not_false, decide_true, decide_false, cl])
  simp only [b2, consF, consT, lstM, tupM, sliceM, sliceTM, catM, notT, ifO, letρ, bcall, e_bind, e_bindr, e_map, e_mapr, e_onE, e_onr, e_seq, e_seqt, e_seqr, e_of, e_asB, e_asI, e_lstOf, e_listOf, e_noRs, e_getB0, e_getBs, e_getW0, e_getW0k, e_getW0o, e_getWs, e_getK0, e_getK0k, e_getKs, e_frz0, e_frzs, e_both, e_either, e_bothT, e_eitherT, e_add, e_sub, e_lt, e_le, e_gt, e_ge, e_intF, e_neg, e_lenL, e_lenT, e_max, e_unfl0, e_unfl1, e_small0, e_small1, e_small2, e_small3, e_small4, e_small5, e_small8, e_runt, e_runn, e_runr, List.set_cons_zero, List.set_cons_succ, List.map_cons, List.map_nil, if_true, Bool.false_eq_true, if_false, Bool.not_true, Bool.not_false, decide_true, decide_false, c1, c2, c3, c4]
  simp only [b2, consF, consT, lstM, tupM, sliceM, sliceTM, catM, notT, ifO, letρ, bcall, e_bind, e_bindr, e_map, e_mapr, e_onE, e_onr, e_seq, e_seqt, e_seqr, e_of, e_asB, e_asI, e_lstOf, e_listOf, e_noRs, e_getB0, e_getBs, e_getW0, e_getW0k, e_getW0o, e_getWs, e_getK0, e_getK0k, e_getKs, e_frz0, e_frzs, e_both, e_either, e_bothT, e_eitherT, e_add, e_sub, e_lt, e_le, e_gt, e_ge, e_intF, e_neg, e_lenL, e_lenT, e_max, e_unfl0, e_unfl1, e_small0, e_small1, e_small2, e_small3, e_small4, e_small5, e_small8, e_runt, e_runn, e_runr, List.set_cons_zero, List.set_cons_succ, List.map_cons, List.map_nil, if_true, Bool.false_eq_true, if_false, Bool.not_true, Bool.not_false, decide_true, decide_false] at lc
  simp only [b2, consF, consT, lstM, tupM, sliceM, sliceTM, catM, notT, ifO, letρ, bcall, e_bind, e_bindr, e_map, e_mapr, e_onE, e_onr, e_seq, e_seqt, e_seqr, e_of, e_asB, e_asI, e_lstOf, e_listOf, e_noRs, e_getB0, e_getBs, e_getW0, e_getW0k, e_getW0o, e_getWs, e_getK0, e_getK0k, e_getKs, e_frz0, e_frzs, e_both, e_either, e_bothT, e_eitherT, e_add, e_sub, e_lt, e_le, e_gt, e_ge, e_intF, e_neg, e_lenL, e_lenT, e_max, e_unfl0, e_unfl1, e_small0, e_small1, e_small2, e_small3, e_small4, e_small5, e_small8, e_runt, e_runn, e_runr, List.set_cons_zero, List.set_cons_succ, List.map_cons, List.map_nil, if_true, Bool.false_eq_true, if_false, Bool.not_true, Bool.not_false, decide_true, decide_false, lc]
  rw [h1]
  rfl
/-- the counts while the events are gone through -/
theorem resets_ok {es : List Ev} (h : ∀ e ∈ es, e.sOk) (hl : es.length ≤ 1000) : m_resets_ahead [.list (evL es)] = .ok (.list (intL (rsts es))) := by
  have st : start0 5 fl__resets_ahead [.list (evL es)] = [.wk (evL es), .un, .un, .un, .un] := rfl
  unfold m_resets_ahead
  rw [st]
  unfold m_resets_ahead_b
  obtain ⟨ρ', h1, kvs, x3, x4, h2, _⟩ := forO_rule (t := .one 3) (body := b1__resets_ahead) (ds := evL es) (ρ := [.wk (evL es), .ownd [], .own [], .un, .un])
    (fun i ρ => ∃ (kvs : List (Key × D)) (x3 x4 : B), ρ = [.wk (evL es), .ownd kvs, .own (intL ((rsts es).take i)), x3, x4] ∧ kvs.length ≤ i ∧ ∀ j : Str, (lookD kvs (.inr j)).getD (.int 0) = .int ((rct (es.take i) j : Nat) : Int))
    ⟨[], _, _, rfl, Nat.le_refl _, fun j => rfl⟩ (by
      rintro i d ρ hd ⟨kvs, x3, x4, rfl, hk, hc⟩
      rw [List.getElem?_map] at hd
      obtain ⟨e, he, rfl⟩ := Option.map_eq_some_iff.mp hd
      have hi := (List.getElem?_eq_some_iff.mp he).1
      have hm : e ∈ es := List.mem_of_getElem? he
      have i1 : ixD e.d (.int 1) = .ok (.str e.j) := by cases e <;> rfl
      have go : ∀ ρ : List B, ρ[1]? = some (.ownd kvs) → getOwn ρ 1 (.ok (.str e.j)) (.ok (.int 0)) = .ok (.int ((rct (es.take i) e.j : Nat) : Int)) := fun ρ hρ => by
        unfold getOwn
        rw [hρ]
        show R.ok ((lookD kvs (.inr e.j)).getD (.int 0)) = _
        rw [hc]
      have tk : es.take (i + 1) = es.take i ++ [e] := by rw [List.take_succ, he]; rfl
      have rt : (rsts es).take (i + 1) = (rsts es).take i ++ [((rct (es.take i) e.j : Nat) : Int)] := by rw [List.take_succ, rsts_at he]; rfl
      have ap : appE [.wk (evL es), .ownd kvs, .own (intL ((rsts es).take i)), .dat e.d, .dat (.str e.j)] 2 (.ok (.int ((rct (es.take i) e.j : Nat) : Int))) = some (.nx [.wk (evL es), .ownd kvs, .own (intL ((rsts es).take (i + 1))), .dat e.d, .dat (.str e.j)]) := by
        rw [appE_ok (ds := intL ((rsts es).take i)) rfl (by rw [intL_len, List.length_take, rsts_len]; omega), rt]
        simp [intL]
      have fz : ∀ b, frz 1 [.wk (evL es), .ownd kvs, b, .dat e.d, .dat (.str e.j)] = [.wk (evL es), .ownd kvs, b, .dat e.d, .dat (.str e.j)] := fun b => rfl
      have i0 : ixD e.d (.int 0) = .ok (.str (if e.isA = true then "answer" else "reset")) := by cases e <;> rfl
      refine ⟨[.wk (evL es), .ownd kvs, .own (intL ((rsts es).take i)), .dat e.d, x4], ?_⟩
      unfold b1__resets_ahead
      simp only [b2, consF, consT, lstM, tupM, sliceM, sliceTM, catM, notT, ifO, letρ, bcall, e_bind, e_bindr, e_map, e_mapr, e_onE, e_onr, e_seq, e_seqt, e_seqr, e_of, e_asB, e_asI, e_lstOf, e_listOf, e_noRs, e_getB0, e_getBs, e_getW0, e_getW0k, e_getW0o, e_getWs, e_getK0, e_getK0k, e_getKs, e_frz0, e_frzs, e_both, e_either, e_bothT, e_eitherT, e_add, e_sub, e_lt, e_le, e_gt, e_ge, e_intF, e_neg, e_lenL, e_lenT, e_max, e_unfl0, e_unfl1, e_small0, e_small1, e_small2, e_small3, e_small4, e_small5, e_small8, e_runt, e_runn, e_runr, List.set_cons_zero, List.set_cons_succ, List.map_cons, List.map_nil, if_true, Bool.false_eq_true, if_false, Bool.not_true, Bool.not_false, decide_true, decide_false, i1, fz, go _ (rfl : ([.wk (evL es), .ownd kvs, .own (intL ((rsts es).take i)), .dat e.d, .dat (.str e.j)] : List B)[1]? = some (.ownd kvs)), ap, i0]
      cases e with
      | ans j it g =>
        simp only [b2, consF, consT, lstM, tupM, sliceM, sliceTM, catM, notT, ifO, letρ, bcall, e_bind, e_bindr, e_map, e_mapr, e_onE, e_onr, e_seq, e_seqt, e_seqr, e_of, e_asB, e_asI, e_lstOf, e_listOf, e_noRs, e_getB0, e_getBs, e_getW0, e_getW0k, e_getW0o, e_getWs, e_getK0, e_getK0k, e_getKs, e_frz0, e_frzs, e_both, e_either, e_bothT, e_eitherT, e_add, e_sub, e_lt, e_le, e_gt, e_ge, e_intF, e_neg, e_lenL, e_lenT, e_max, e_unfl0, e_unfl1, e_small0, e_small1, e_small2, e_small3, e_small4, e_small5, e_small8, e_runt, e_runn, e_runr, List.set_cons_zero, List.set_cons_succ, List.map_cons, List.map_nil, if_true, Bool.false_eq_true, if_false, Bool.not_true, Bool.not_false, decide_true, decide_false, Ev.isA, e_eqS ok_answer ok_reset, decide_eq_false (by decide +kernel : ¬ ("answer" : Str) = "reset")]
        refine ⟨_, rfl, .inl rfl, kvs, _, _, rfl, by omega, fun j' => ?_⟩
        rw [hc, tk]
        simp [rct]
      | res j =>
        have go2 := go [.wk (evL es), .ownd kvs, .own (intL ((rsts es).take (i + 1))), .dat (Ev.res j).d, .dat (.str j)] rfl
        have pt : putOwn [.wk (evL es), .ownd kvs, .own (intL ((rsts es).take (i + 1))), .dat (Ev.res j).d, .dat (.str j)] 1 (.ok (.str j)) (.ok (.int ((rct (es.take i) j : Nat) + 1 : Int))) = some (.nx [.wk (evL es), .ownd (putD kvs (.inr j) (.int ((rct (es.take i) j : Nat) + 1 : Int))), .own (intL ((rsts es).take (i + 1))), .dat (Ev.res j).d, .dat (.str j)]) := by
          show (if kvs.length < 100000 then _ else _) = _
          rw [if_pos (by omega)]
          rfl
        have go2 : getOwn [.wk (evL es), .ownd kvs, .own (intL ((rsts es).take (i + 1))), .dat (Ev.res j).d, .dat (.str j)] 1 (.ok (.str j)) (.ok (.int 0)) = .ok (.int ((rct (es.take i) j : Nat) : Int)) := go2
        simp only [b2, consF, consT, lstM, tupM, sliceM, sliceTM, catM, notT, ifO, letρ, bcall, e_bind, e_bindr, e_map, e_mapr, e_onE, e_onr, e_seq, e_seqt, e_seqr, e_of, e_asB, e_asI, e_lstOf, e_listOf, e_noRs, e_getB0, e_getBs, e_getW0, e_getW0k, e_getW0o, e_getWs, e_getK0, e_getK0k, e_getKs, e_frz0, e_frzs, e_both, e_either, e_bothT, e_eitherT, e_add, e_sub, e_lt, e_le, e_gt, e_ge, e_intF, e_neg, e_lenL, e_lenT, e_max, e_unfl0, e_unfl1, e_small0, e_small1, e_small2, e_small3, e_small4, e_small5, e_small8, e_runt, e_runn, e_runr, List.set_cons_zero, List.set_cons_succ, List.map_cons, List.map_nil, if_true, Bool.false_eq_true, if_false, Bool.not_true, Bool.not_false, decide_true, decide_false, Ev.isA, Ev.j, e_eqS ok_reset ok_reset, fz, go2, pt]
        refine ⟨_, rfl, .inl rfl, _, _, _, rfl, ?_, fun j' => ?_⟩
        · unfold putD
          split
          · rw [List.length_map]; omega
          · rw [List.length_append, List.length_singleton]; omega
        · rw [look_put, tk]
          by_cases hj : j = j'
          · subst hj
            rw [if_pos rfl]
            simp [rct]
          · rw [if_neg (fun z => hj (Sum.inr.inj z)), hc]
            simp [rct, hj])
  simp only [b2, consF, consT, lstM, tupM, sliceM, sliceTM, catM, notT, ifO, letρ, bcall, e_bind, e_bindr, e_map, e_mapr, e_onE, e_onr, e_seq, e_seqt, e_seqr, e_of, e_asB, e_asI, e_lstOf, e_listOf, e_noRs, e_getB0, e_getBs, e_getW0, e_getW0k, e_getW0o, e_getWs, e_getK0, e_getK0k, e_getKs, e_frz0, e_frzs, e_both, e_either, e_bothT, e_eitherT, e_add, e_sub, e_lt, e_le, e_gt, e_ge, e_intF, e_neg, e_lenL, e_lenT, e_max, e_unfl0, e_unfl1, e_small0, e_small1, e_small2, e_small3, e_small4, e_small5, e_small8, e_runt, e_runn, e_runr, List.set_cons_zero, List.set_cons_succ, List.map_cons, List.map_nil, if_true, Bool.false_eq_true, if_false, Bool.not_true, Bool.not_false, decide_true, decide_false]
  rw [h1, h2]
  simp only [b2, consF, consT, lstM, tupM, sliceM, sliceTM, catM, notT, ifO, letρ, bcall, e_bind, e_bindr, e_map, e_mapr, e_onE, e_onr, e_seq, e_seqt, e_seqr, e_of, e_asB, e_asI, e_lstOf, e_listOf, e_noRs, e_getB0, e_getBs, e_getW0, e_getW0k, e_getW0o, e_getWs, e_getK0, e_getK0k, e_getKs, e_frz0, e_frzs, e_both, e_either, e_bothT, e_eitherT, e_add, e_sub, e_lt, e_le, e_gt, e_ge, e_intF, e_neg, e_lenL, e_lenT, e_max, e_unfl0, e_unfl1, e_small0, e_small1, e_small2, e_small3, e_small4, e_small5, e_small8, e_runt, e_runn, e_runr, List.set_cons_zero, List.set_cons_succ, List.map_cons, List.map_nil, if_true, Bool.false_eq_true, if_false, Bool.not_true, Bool.not_false, decide_true, decide_false]
  rw [show (evL es).length = (rsts es).length by rw [rsts_len]; simp, List.take_length]
theorem dr_data {js : List (Str × Str)} (hD : (js.map (·.1)).Nodup) (hl : js.length ≤ 8) : drD [.un, .un, .un, .un, .un, .un, .un] (jL js) = .ok (.dict (drK js)) := by
  unfold drD dcM
  rw [if_pos (by simp; omega)]
  have c := comp_dr (cond := fun d => tgR (.many [5, 6]) (wipeB [.un, .un, .un, .un, .un, .un, .un] [5, 6]) d fun _ => .ok true) (ek := fun d => tgR (.many [5, 6]) (wipeB [.un, .un, .un, .un, .un, .un, .un] [5, 6]) d fun ρ => getB ρ 5)
    (ev := fun d => tgR (.many [5, 6]) (wipeB [.un, .un, .un, .un, .un, .un, .un] [5, 6]) d fun ρ => getB ρ 6) js [] (by simpa using hD) (fun q _ => rfl) (fun q _ => rfl) (fun q _ => rfl)
  rw [List.map_nil] at c
  rw [c]
  show R.ok (dicD _) = _
  unfold dicD
  rw [List.nil_append, List.map_map]
  rfl
theorem init_log {p : Pt} (h : p.Ok) : m_Log___init__ [.list (strL p.items), .int p.grades, .list (jL p.judges), .list (evL p.events)] = .ok (logF p) := by
  have c1 : callM fl__check_log m_check_log [(true, .list (strL p.items)), (false, .int p.grades), (true, .list (jL p.judges)), (true, .list (evL p.events))] = .ok .none := check_log_ok h
  have c2 : callM fl__resets_ahead m_resets_ahead [(true, .list (evL p.events))] = .ok (.list (intL (rsts p.events))) := resets_ok h.evs (by have := h.en; omega)
  have gk : getK [asW (.list (jL p.judges))] 0 = .ok (jL p.judges) := rfl
  unfold m_Log___init__
  rw [init_eq]
  unfold logFs
  simp only [b2, consF, consT, lstM, tupM, sliceM, sliceTM, catM, notT, ifO, letρ, bcall, e_bind, e_bindr, e_map, e_mapr, e_onE, e_onr, e_seq, e_seqt, e_seqr, e_of, e_asB, e_asI, e_lstOf, e_listOf, e_noRs, e_getB0, e_getBs, e_getW0, e_getW0k, e_getW0o, e_getWs, e_getK0, e_getK0k, e_getKs, e_frz0, e_frzs, e_both, e_either, e_bothT, e_eitherT, e_add, e_sub, e_lt, e_le, e_gt, e_ge, e_intF, e_neg, e_lenL, e_lenT, e_max, e_unfl0, e_unfl1, e_small0, e_small1, e_small2, e_small3, e_small4, e_small5, e_small8, e_runt, e_runn, e_runr, List.set_cons_zero, List.set_cons_succ, List.map_cons, List.map_nil, if_true, Bool.false_eq_true, if_false, Bool.not_true, Bool.not_false, decide_true, decide_false, c1, c2, gk, dr_data h.jnD h.jn2]
  rfl
theorem law_log_ok {p : Pt} (h : p.Ok) : m_law_log [p.d] = .ok (logD p) := by
  have st : start0 5 fl__law_log [p.d] = [.dat p.d, .un, .un, .un, .un] := rfl
  unfold m_law_log
  rw [st]
  unfold m_law_log_b
  have sg : (Tg.many [1, 2, 3, 4]).set p.d [.dat p.d, .un, .un, .un, .un] = some [.dat p.d, .dat (.list (strL p.items)), .dat (.int p.grades), .dat (.list (jL p.judges)), .dat (.list (evL p.events))] := rfl
  have cl : callMk "Log" fl_Log___init__ m_Log___init__ [(true, .list (strL p.items)), (false, .int p.grades), (true, .list (jL p.judges)), (true, .list (evL p.events))] = .ok (logD p) := by
    show (m_Log___init__ [.list (strL p.items), .int p.grades, .list (jL p.judges), .list (evL p.events)]).map (insD "Log") = _
    rw [init_log h]
    rfl
  simp only [b2, consF, consT, lstM, tupM, sliceM, sliceTM, catM, notT, ifO, letρ, bcall, e_bind, e_bindr, e_map, e_mapr, e_onE, e_onr, e_seq, e_seqt, e_seqr, e_of, e_asB, e_asI, e_lstOf, e_listOf, e_noRs, e_getB0, e_getBs, e_getW0, e_getW0k, e_getW0o, e_getWs, e_getK0, e_getK0k, e_getKs, e_frz0, e_frzs, e_both, e_either, e_bothT, e_eitherT, e_add, e_sub, e_lt, e_le, e_gt, e_ge, e_intF, e_neg, e_lenL, e_lenT, e_max, e_unfl0, e_unfl1, e_small0, e_small1, e_small2, e_small3, e_small4, e_small5, e_small8, e_runt, e_runn, e_runr, List.set_cons_zero, List.set_cons_succ, List.map_cons, List.map_nil, if_true, Bool.false_eq_true, if_false, Bool.not_true, Bool.not_false, decide_true, decide_false, sg, Option.map_some, cl]
end K03


set_option Elab.async false
set_option linter.all false
set_option maxRecDepth 100000
set_option maxHeartbeats 2000000
namespace K03
open PySem L2 RB
/-! ### the methods of a log -/
theorem ins_log (p : Pt) (m : Str) (h : lookKV m ((logF p).map fun q => (PyData.str q.1, q.2)) = none) : insOf "Log" m (logD p) = .ok (logD p) := by
  show (if ("Log" : Str) = "Log" ∧ _ = none then _ else _) = _
  rw [if_pos ⟨rfl, h⟩]
theorem are_ok {d : Str} (hd : d ∈ driftS) (a b : Int) : m_are_in_order [.str d, .int a, .int b] = .ok (.bool (orderB d a b)) := by
  have st : start0 3 fl_are_in_order [.str d, .int a, .int b] = [.dat (.str d), .dat (.int a), .dat (.int b)] := rfl
  unfold m_are_in_order
  rw [st]
  unfold m_are_in_order_b orderB
  have q1 := e_eqS (dr_ok hd) (dr_ok (by decide +kernel : ("rises" : Str) ∈ driftS))
  have q2 := e_eqS (dr_ok hd) (dr_ok (by decide +kernel : ("falls" : Str) ∈ driftS))
  simp only [b2, consF, consT, lstM, tupM, sliceM, sliceTM, catM, notT, ifO, letρ, bcall, e_bind, e_bindr, e_map, e_mapr, e_onE, e_onr, e_seq, e_seqt, e_seqr, e_of, e_asB, e_asI, e_lstOf, e_listOf, e_noRs, e_getB0, e_getBs, e_getW0, e_getW0k, e_getW0o, e_getWs, e_getK0, e_getK0k, e_getKs, e_frz0, e_frzs, e_both, e_either, e_bothT, e_eitherT, e_add, e_sub, e_lt, e_le, e_gt, e_ge, e_intF, e_neg, e_lenL, e_lenT, e_max, e_unfl0, e_unfl1, e_small0, e_small1, e_small2, e_small3, e_small4, e_small5, e_small8, e_runt, e_runn, e_runr, List.set_cons_zero, List.set_cons_succ, List.map_cons, List.map_nil, if_true, Bool.false_eq_true, if_false, Bool.not_true, Bool.not_false, decide_true, decide_false, q1, q2]
  by_cases h1 : d = "rises"
  · simp only [b2, consF, consT, lstM, tupM, sliceM, sliceTM, catM, notT, ifO, letρ, bcall, e_bind, e_bindr, e_map, e_mapr, e_onE, e_onr, e_seq, e_seqt, e_seqr, e_of, e_asB, e_asI, e_lstOf, e_listOf, e_noRs, e_getB0, e_getBs, e_getW0, e_getW0k, e_getW0o, e_getWs, e_getK0, e_getK0k, e_getKs, e_frz0, e_frzs, e_both, e_either, e_bothT, e_eitherT, e_add, e_sub, e_lt, e_le, e_gt, e_ge, e_intF, e_neg, e_lenL, e_lenT, e_max, e_unfl0, e_unfl1, e_small0, e_small1, e_small2, e_small3, e_small4, e_small5, e_small8, e_runt, e_runn, e_runr, List.set_cons_zero, List.set_cons_succ, List.map_cons, List.map_nil, if_true, Bool.false_eq_true, if_false, Bool.not_true, Bool.not_false, decide_true, decide_false, decide_eq_true h1, if_pos h1]
  · simp only [b2, consF, consT, lstM, tupM, sliceM, sliceTM, catM, notT, ifO, letρ, bcall, e_bind, e_bindr, e_map, e_mapr, e_onE, e_onr, e_seq, e_seqt, e_seqr, e_of, e_asB, e_asI, e_lstOf, e_listOf, e_noRs, e_getB0, e_getBs, e_getW0, e_getW0k, e_getW0o, e_getWs, e_getK0, e_getK0k, e_getKs, e_frz0, e_frzs, e_both, e_either, e_bothT, e_eitherT, e_add, e_sub, e_lt, e_le, e_gt, e_ge, e_intF, e_neg, e_lenL, e_lenT, e_max, e_unfl0, e_unfl1, e_small0, e_small1, e_small2, e_small3, e_small4, e_small5, e_small8, e_runt, e_runn, e_runr, List.set_cons_zero, List.set_cons_succ, List.map_cons, List.map_nil, if_true, Bool.false_eq_true, if_false, Bool.not_true, Bool.not_false, decide_true, decide_false, decide_eq_false h1, if_neg h1, q2]
    by_cases h2 : d = "falls"
    · simp only [b2, consF, consT, lstM, tupM, sliceM, sliceTM, catM, notT, ifO, letρ, bcall, e_bind, e_bindr, e_map, e_mapr, e_onE, e_onr, e_seq, e_seqt, e_seqr, e_of, e_asB, e_asI, e_lstOf, e_listOf, e_noRs, e_getB0, e_getBs, e_getW0, e_getW0k, e_getW0o, e_getWs, e_getK0, e_getK0k, e_getKs, e_frz0, e_frzs, e_both, e_either, e_bothT, e_eitherT, e_add, e_sub, e_lt, e_le, e_gt, e_ge, e_intF, e_neg, e_lenL, e_lenT, e_max, e_unfl0, e_unfl1, e_small0, e_small1, e_small2, e_small3, e_small4, e_small5, e_small8, e_runt, e_runn, e_runr, List.set_cons_zero, List.set_cons_succ, List.map_cons, List.map_nil, if_true, Bool.false_eq_true, if_false, Bool.not_true, Bool.not_false, decide_true, decide_false, decide_eq_true h2, if_pos h2]
    · simp only [b2, consF, consT, lstM, tupM, sliceM, sliceTM, catM, notT, ifO, letρ, bcall, e_bind, e_bindr, e_map, e_mapr, e_onE, e_onr, e_seq, e_seqt, e_seqr, e_of, e_asB, e_asI, e_lstOf, e_listOf, e_noRs, e_getB0, e_getBs, e_getW0, e_getW0k, e_getW0o, e_getWs, e_getK0, e_getK0k, e_getKs, e_frz0, e_frzs, e_both, e_either, e_bothT, e_eitherT, e_add, e_sub, e_lt, e_le, e_gt, e_ge, e_intF, e_neg, e_lenL, e_lenT, e_max, e_unfl0, e_unfl1, e_small0, e_small1, e_small2, e_small3, e_small4, e_small5, e_small8, e_runt, e_runn, e_runr, List.set_cons_zero, List.set_cons_succ, List.map_cons, List.map_nil, if_true, Bool.false_eq_true, if_false, Bool.not_true, Bool.not_false, decide_true, decide_false, decide_eq_false h2, if_neg h2]
theorem answers_ok {p : Pt} (h : p.Ok) : m_Log_answers [logD p] = .ok (.list (natL (ansN p.events))) := by
  have st : start0 3 (false :: fl_Log_answers) [logD p] = [.dat (logD p), .un, .un] := rfl
  unfold m_Log_answers
  rw [st]
  unfold m_Log_answers_b
  have lc : lcM (.many [1, 2]) [1, 2] (fun ρ => ((b2 eqD (b2 ixD (getW ρ 2) (R.ok (.int 0))) (R.ok (.str "answer"))).bind asB)) (fun ρ => (getB ρ 1)) [.dat (logD p), .un, .un] (enumD (evL p.events)) = .ok (natL (ansN p.events)) := by
    rw [enum_ev]
    refine lc_map (fun i => .tuple [.int (i : Nat), (evA p.events i).d]) (isAt p.events) (fun (i : Nat) => .int (i : Int)) _ (by rw [List.length_range]; have := h.en; omega) (fun i hi => ?_) fun i _ _ => rfl
    show (b2 eqD (b2 ixD (getW [.dat (logD p), .dat (.int (i : Nat)), .dat (evA p.events i).d] 2) (R.ok (.int 0))) (R.ok (.str "answer"))).bind asB = _
    simp only [b2, consF, consT, lstM, tupM, sliceM, sliceTM, catM, notT, ifO, letρ, bcall, e_bind, e_bindr, e_map, e_mapr, e_onE, e_onr, e_seq, e_seqt, e_seqr, e_of, e_asB, e_asI, e_lstOf, e_listOf, e_noRs, e_getB0, e_getBs, e_getW0, e_getW0k, e_getW0o, e_getWs, e_getK0, e_getK0k, e_getKs, e_frz0, e_frzs, e_both, e_either, e_bothT, e_eitherT, e_add, e_sub, e_lt, e_le, e_gt, e_ge, e_intF, e_neg, e_lenL, e_lenT, e_max, e_unfl0, e_unfl1, e_small0, e_small1, e_small2, e_small3, e_small4, e_small5, e_small8, e_runt, e_runn, e_runr, List.set_cons_zero, List.set_cons_succ, List.map_cons, List.map_nil, if_true, Bool.false_eq_true, if_false, Bool.not_true, Bool.not_false, decide_true, decide_false, ix_ev0, kind_A]
    rfl
  simp only [b2, consF, consT, lstM, tupM, sliceM, sliceTM, catM, notT, ifO, letρ, bcall, e_bind, e_bindr, e_map, e_mapr, e_onE, e_onr, e_seq, e_seqt, e_seqr, e_of, e_asB, e_asI, e_lstOf, e_listOf, e_noRs, e_getB0, e_getBs, e_getW0, e_getW0k, e_getW0o, e_getWs, e_getK0, e_getK0k, e_getKs, e_frz0, e_frzs, e_both, e_either, e_bothT, e_eitherT, e_add, e_sub, e_lt, e_le, e_gt, e_ge, e_intF, e_neg, e_lenL, e_lenT, e_max, e_unfl0, e_unfl1, e_small0, e_small1, e_small2, e_small3, e_small4, e_small5, e_small8, e_runt, e_runn, e_runr, List.set_cons_zero, List.set_cons_succ, List.map_cons, List.map_nil, if_true, Bool.false_eq_true, if_false, Bool.not_true, Bool.not_false, decide_true, decide_false, fld_events]
  simp only [b2, consF, consT, lstM, tupM, sliceM, sliceTM, catM, notT, ifO, letρ, bcall, e_bind, e_bindr, e_map, e_mapr, e_onE, e_onr, e_seq, e_seqt, e_seqr, e_of, e_asB, e_asI, e_lstOf, e_listOf, e_noRs, e_getB0, e_getBs, e_getW0, e_getW0k, e_getW0o, e_getWs, e_getK0, e_getK0k, e_getKs, e_frz0, e_frzs, e_both, e_either, e_bothT, e_eitherT, e_add, e_sub, e_lt, e_le, e_gt, e_ge, e_intF, e_neg, e_lenL, e_lenT, e_max, e_unfl0, e_unfl1, e_small0, e_small1, e_small2, e_small3, e_small4, e_small5, e_small8, e_runt, e_runn, e_runr, List.set_cons_zero, List.set_cons_succ, List.map_cons, List.map_nil, if_true, Bool.false_eq_true, if_false, Bool.not_true, Bool.not_false, decide_true, decide_false] at lc
  simp only [b2, consF, consT, lstM, tupM, sliceM, sliceTM, catM, notT, ifO, letρ, bcall, e_bind, e_bindr, e_map, e_mapr, e_onE, e_onr, e_seq, e_seqt, e_seqr, e_of, e_asB, e_asI, e_lstOf, e_listOf, e_noRs, e_getB0, e_getBs, e_getW0, e_getW0k, e_getW0o, e_getWs, e_getK0, e_getK0k, e_getKs, e_frz0, e_frzs, e_both, e_either, e_bothT, e_eitherT, e_add, e_sub, e_lt, e_le, e_gt, e_ge, e_intF, e_neg, e_lenL, e_lenT, e_max, e_unfl0, e_unfl1, e_small0, e_small1, e_small2, e_small3, e_small4, e_small5, e_small8, e_runt, e_runn, e_runr, List.set_cons_zero, List.set_cons_succ, List.map_cons, List.map_nil, if_true, Bool.false_eq_true, if_false, Bool.not_true, Bool.not_false, decide_true, decide_false, lc]
theorem is_answer_ok (p : Pt) (i : Int) : m_Log_is_answer [logD p, .int i] = .ok (.bool (isAns p.events i)) := by
  have st : start0 2 (false :: fl_Log_is_answer) [logD p, .int i] = [.dat (logD p), .dat (.int i)] := rfl
  unfold m_Log_is_answer
  rw [st]
  unfold m_Log_is_answer_b
  have ch : chainD leD ltD (.ok (.int 0)) (.ok (.int i)) (.ok (.int ((evL p.events).length : Nat))) = .ok (.bool (decide (0 ≤ i) && decide (i < (p.events.length : Int)))) := by
    rw [chain_ok (e_le _ _) (e_lt _ _), List.length_map]
  simp only [b2, consF, consT, lstM, tupM, sliceM, sliceTM, catM, notT, ifO, letρ, bcall, e_bind, e_bindr, e_map, e_mapr, e_onE, e_onr, e_seq, e_seqt, e_seqr, e_of, e_asB, e_asI, e_lstOf, e_listOf, e_noRs, e_getB0, e_getBs, e_getW0, e_getW0k, e_getW0o, e_getWs, e_getK0, e_getK0k, e_getKs, e_frz0, e_frzs, e_both, e_either, e_bothT, e_eitherT, e_add, e_sub, e_lt, e_le, e_gt, e_ge, e_intF, e_neg, e_lenL, e_lenT, e_max, e_unfl0, e_unfl1, e_small0, e_small1, e_small2, e_small3, e_small4, e_small5, e_small8, e_runt, e_runn, e_runr, List.set_cons_zero, List.set_cons_succ, List.map_cons, List.map_nil, if_true, Bool.false_eq_true, if_false, Bool.not_true, Bool.not_false, decide_true, decide_false, fld_events, ch]
  by_cases h0 : 0 ≤ i
  · obtain ⟨k, rfl⟩ := Int.eq_ofNat_of_zero_le h0
    by_cases h1 : k < p.events.length
    · simp only [b2, consF, consT, lstM, tupM, sliceM, sliceTM, catM, notT, ifO, letρ, bcall, e_bind, e_bindr, e_map, e_mapr, e_onE, e_onr, e_seq, e_seqt, e_seqr, e_of, e_asB, e_asI, e_lstOf, e_listOf, e_noRs, e_getB0, e_getBs, e_getW0, e_getW0k, e_getW0o, e_getWs, e_getK0, e_getK0k, e_getKs, e_frz0, e_frzs, e_both, e_either, e_bothT, e_eitherT, e_add, e_sub, e_lt, e_le, e_gt, e_ge, e_intF, e_neg, e_lenL, e_lenT, e_max, e_unfl0, e_unfl1, e_small0, e_small1, e_small2, e_small3, e_small4, e_small5, e_small8, e_runt, e_runn, e_runr, List.set_cons_zero, List.set_cons_succ, List.map_cons, List.map_nil, if_true, Bool.false_eq_true, if_false, Bool.not_true, Bool.not_false, decide_true, decide_false, decide_eq_true h0, decide_eq_true (by omega : (k : Int) < (p.events.length : Int)), Bool.and_self, ix_ev h1, ix_ev0, kind_A]
      unfold isAns isAt
      rw [decide_eq_true h0]
      rfl
    · simp only [b2, consF, consT, lstM, tupM, sliceM, sliceTM, catM, notT, ifO, letρ, bcall, e_bind, e_bindr, e_map, e_mapr, e_onE, e_onr, e_seq, e_seqt, e_seqr, e_of, e_asB, e_asI, e_lstOf, e_listOf, e_noRs, e_getB0, e_getBs, e_getW0, e_getW0k, e_getW0o, e_getWs, e_getK0, e_getK0k, e_getKs, e_frz0, e_frzs, e_both, e_either, e_bothT, e_eitherT, e_add, e_sub, e_lt, e_le, e_gt, e_ge, e_intF, e_neg, e_lenL, e_lenT, e_max, e_unfl0, e_unfl1, e_small0, e_small1, e_small2, e_small3, e_small4, e_small5, e_small8, e_runt, e_runn, e_runr, List.set_cons_zero, List.set_cons_succ, List.map_cons, List.map_nil, if_true, Bool.false_eq_true, if_false, Bool.not_true, Bool.not_false, decide_true, decide_false, decide_eq_true h0, decide_eq_false (by omega : ¬ (k : Int) < (p.events.length : Int)), Bool.and_false]
      unfold isAns isAt
      rw [show ((k : Int)).toNat = k from rfl, evA_out (by omega)]
      rw [decide_eq_true h0]
      rfl
  · simp only [b2, consF, consT, lstM, tupM, sliceM, sliceTM, catM, notT, ifO, letρ, bcall, e_bind, e_bindr, e_map, e_mapr, e_onE, e_onr, e_seq, e_seqt, e_seqr, e_of, e_asB, e_asI, e_lstOf, e_listOf, e_noRs, e_getB0, e_getBs, e_getW0, e_getW0k, e_getW0o, e_getWs, e_getK0, e_getK0k, e_getKs, e_frz0, e_frzs, e_both, e_either, e_bothT, e_eitherT, e_add, e_sub, e_lt, e_le, e_gt, e_ge, e_intF, e_neg, e_lenL, e_lenT, e_max, e_unfl0, e_unfl1, e_small0, e_small1, e_small2, e_small3, e_small4, e_small5, e_small8, e_runt, e_runn, e_runr, List.set_cons_zero, List.set_cons_succ, List.map_cons, List.map_nil, if_true, Bool.false_eq_true, if_false, Bool.not_true, Bool.not_false, decide_true, decide_false, decide_eq_false h0, Bool.false_and]
    unfold isAns
    rw [decide_eq_false h0]
    rfl
def eJ (j : Str) : Exn := ⟨"UnknownJudge", some ("name", .str j)⟩
def eP (i : Int) : Exn := ⟨"InvalidPlace", some ("place", .int i)⟩
theorem need_judge_ok (p : Pt) (j : Str) : m_Log__need_judge [logD p, .str j] = if (p.judges.lookup j).isSome = true then .ok .none else .rs (eJ j) := by
  have st : start0 2 (false :: fl_Log__need_judge) [logD p, .str j] = [.dat (logD p), .dat (.str j)] := rfl
  unfold m_Log__need_judge
  rw [st]
  unfold m_Log__need_judge_b
  simp only [b2, consF, consT, lstM, tupM, sliceM, sliceTM, catM, notT, ifO, letρ, bcall, e_bind, e_bindr, e_map, e_mapr, e_onE, e_onr, e_seq, e_seqt, e_seqr, e_of, e_asB, e_asI, e_lstOf, e_listOf, e_noRs, e_getB0, e_getBs, e_getW0, e_getW0k, e_getW0o, e_getWs, e_getK0, e_getK0k, e_getKs, e_frz0, e_frzs, e_both, e_either, e_bothT, e_eitherT, e_add, e_sub, e_lt, e_le, e_gt, e_ge, e_intF, e_neg, e_lenL, e_lenT, e_max, e_unfl0, e_unfl1, e_small0, e_small1, e_small2, e_small3, e_small4, e_small5, e_small8, e_runt, e_runn, e_runr, List.set_cons_zero, List.set_cons_succ, List.map_cons, List.map_nil, if_true, Bool.false_eq_true, if_false, Bool.not_true, Bool.not_false, decide_true, decide_false, fld_drifts, e_inDr]
  cases (p.judges.lookup j).isSome
  · rfl
  · rfl
theorem need_answer_ok (p : Pt) (i : Int) : m_Log__need_answer [logD p, .int i] = if isAns p.events i = true then .ok .none else .rs (eP i) := by
  have st : start0 2 (false :: fl_Log__need_answer) [logD p, .int i] = [.dat (logD p), .dat (.int i)] := rfl
  unfold m_Log__need_answer
  rw [st]
  unfold m_Log__need_answer_b
  have cl : callM (false :: fl_Log_is_answer) m_Log_is_answer [(false, logD p), (false, .int i)] = .ok (.bool (isAns p.events i)) := is_answer_ok p i
  simp only [b2, consF, consT, lstM, tupM, sliceM, sliceTM, catM, notT, ifO, letρ, bcall, e_bind, e_bindr, e_map, e_mapr, e_onE, e_onr, e_seq, e_seqt, e_seqr, e_of, e_asB, e_asI, e_lstOf, e_listOf, e_noRs, e_getB0, e_getBs, e_getW0, e_getW0k, e_getW0o, e_getWs, e_getK0, e_getK0k, e_getKs, e_frz0, e_frzs, e_both, e_either, e_bothT, e_eitherT, e_add, e_sub, e_lt, e_le, e_gt, e_ge, e_intF, e_neg, e_lenL, e_lenT, e_max, e_unfl0, e_unfl1, e_small0, e_small1, e_small2, e_small3, e_small4, e_small5, e_small8, e_runt, e_runn, e_runr, List.set_cons_zero, List.set_cons_succ, List.map_cons, List.map_nil, if_true, Bool.false_eq_true, if_false, Bool.not_true, Bool.not_false, decide_true, decide_false, methM, ins_log p "is_answer" (by rfl), cl]
  cases isAns p.events i
  · rfl
  · rfl
theorem need_lost_ok (p : Pt) (i : Int) : m_Log__need_lost_place [logD p, .int i] = if 0 ≤ i ∧ i ≤ (p.events.length : Int) then .ok .none else .rs (eP i) := by
  have st : start0 2 (false :: fl_Log__need_lost_place) [logD p, .int i] = [.dat (logD p), .dat (.int i)] := rfl
  unfold m_Log__need_lost_place
  rw [st]
  unfold m_Log__need_lost_place_b
  have ch : chainD leD leD (.ok (.int 0)) (.ok (.int i)) (.ok (.int ((evL p.events).length : Nat))) = .ok (.bool (decide (0 ≤ i ∧ i ≤ (p.events.length : Int)))) := by
    rw [chain_ok (e_le _ _) (e_le _ _), List.length_map, Bool.decide_and]
  simp only [b2, consF, consT, lstM, tupM, sliceM, sliceTM, catM, notT, ifO, letρ, bcall, e_bind, e_bindr, e_map, e_mapr, e_onE, e_onr, e_seq, e_seqt, e_seqr, e_of, e_asB, e_asI, e_lstOf, e_listOf, e_noRs, e_getB0, e_getBs, e_getW0, e_getW0k, e_getW0o, e_getWs, e_getK0, e_getK0k, e_getKs, e_frz0, e_frzs, e_both, e_either, e_bothT, e_eitherT, e_add, e_sub, e_lt, e_le, e_gt, e_ge, e_intF, e_neg, e_lenL, e_lenT, e_max, e_unfl0, e_unfl1, e_small0, e_small1, e_small2, e_small3, e_small4, e_small5, e_small8, e_runt, e_runn, e_runr, List.set_cons_zero, List.set_cons_succ, List.map_cons, List.map_nil, if_true, Bool.false_eq_true, if_false, Bool.not_true, Bool.not_false, decide_true, decide_false, fld_events, ch]
  by_cases h : 0 ≤ i ∧ i ≤ (p.events.length : Int)
  · simp only [b2, consF, consT, lstM, tupM, sliceM, sliceTM, catM, notT, ifO, letρ, bcall, e_bind, e_bindr, e_map, e_mapr, e_onE, e_onr, e_seq, e_seqt, e_seqr, e_of, e_asB, e_asI, e_lstOf, e_listOf, e_noRs, e_getB0, e_getBs, e_getW0, e_getW0k, e_getW0o, e_getWs, e_getK0, e_getK0k, e_getKs, e_frz0, e_frzs, e_both, e_either, e_bothT, e_eitherT, e_add, e_sub, e_lt, e_le, e_gt, e_ge, e_intF, e_neg, e_lenL, e_lenT, e_max, e_unfl0, e_unfl1, e_small0, e_small1, e_small2, e_small3, e_small4, e_small5, e_small8, e_runt, e_runn, e_runr, List.set_cons_zero, List.set_cons_succ, List.map_cons, List.map_nil, if_true, Bool.false_eq_true, if_false, Bool.not_true, Bool.not_false, decide_true, decide_false, decide_eq_true h, if_pos h]
  · simp only [b2, consF, consT, lstM, tupM, sliceM, sliceTM, catM, notT, ifO, letρ, bcall, e_bind, e_bindr, e_map, e_mapr, e_onE, e_onr, e_seq, e_seqt, e_seqr, e_of, e_asB, e_asI, e_lstOf, e_listOf, e_noRs, e_getB0, e_getBs, e_getW0, e_getW0k, e_getW0o, e_getWs, e_getK0, e_getK0k, e_getKs, e_frz0, e_frzs, e_both, e_either, e_bothT, e_eitherT, e_add, e_sub, e_lt, e_le, e_gt, e_ge, e_intF, e_neg, e_lenL, e_lenT, e_max, e_unfl0, e_unfl1, e_small0, e_small1, e_small2, e_small3, e_small4, e_small5, e_small8, e_runt, e_runn, e_runr, List.set_cons_zero, List.set_cons_succ, List.map_cons, List.map_nil, if_true, Bool.false_eq_true, if_false, Bool.not_true, Bool.not_false, decide_true, decide_false, decide_eq_false h, if_neg h]
    rfl
theorem answers_of_ok {p : Pt} (h : p.Ok) {j : Str} (hj : sOk j) : m_Log_answers_of [logD p, .str j] = if (p.judges.lookup j).isSome = true then .ok (.list (natL (ansJ p.events j))) else .rs (eJ j) := by
  have st : start0 3 (false :: fl_Log_answers_of) [logD p, .str j] = [.dat (logD p), .dat (.str j), .un] := rfl
  unfold m_Log_answers_of
  rw [st]
  unfold m_Log_answers_of_b
  have c1 : callM (false :: fl_Log__need_judge) m_Log__need_judge [(false, logD p), (false, .str j)] = _ := need_judge_ok p j
  have lc : lcM (.one 2) [2] (fun ρ => ((b2 eqD (b2 ixD (b2 ixD (((getB ρ 0)).bind (fldD "Log" "_events")) (getB ρ 2)) (R.ok (.int 1))) (getW ρ 1)).bind asB)) (fun ρ => (getB ρ 2)) [.dat (logD p), .dat (.str j), .un] (natL (ansN p.events)) = .ok (natL (ansJ p.events j)) := by
    refine lc_map (fun (i : Nat) => .int (i : Int)) (fun i => decide ((evA p.events i).j = j)) (fun (i : Nat) => .int (i : Int)) _ ?_ (fun i hi => ?_) fun i _ _ => rfl
    · exact Nat.le_trans (List.length_filter_le _ _) (by rw [List.length_range]; have := h.en; omega)
    · have hl := isAt_lt (mem_ansN.mp hi)
      show ((b2 eqD (b2 ixD (b2 ixD (((getB [.dat (logD p), .dat (.str j), .dat (.int (i : Int))] 0)).bind (fldD "Log" "_events")) (getB [.dat (logD p), .dat (.str j), .dat (.int (i : Int))] 2)) (R.ok (.int 1))) (getW [.dat (logD p), .dat (.str j), .dat (.int (i : Int))] 1)).bind asB) = _
      simp only [b2, consF, consT, lstM, tupM, sliceM, sliceTM, catM, notT, ifO, letρ, bcall, e_bind, e_bindr, e_map, e_mapr, e_onE, e_onr, e_seq, e_seqt, e_seqr, e_of, e_asB, e_asI, e_lstOf, e_listOf, e_noRs, e_getB0, e_getBs, e_getW0, e_getW0k, e_getW0o, e_getWs, e_getK0, e_getK0k, e_getKs, e_frz0, e_frzs, e_both, e_either, e_bothT, e_eitherT, e_add, e_sub, e_lt, e_le, e_gt, e_ge, e_intF, e_neg, e_lenL, e_lenT, e_max, e_unfl0, e_unfl1, e_small0, e_small1, e_small2, e_small3, e_small4, e_small5, e_small8, e_runt, e_runn, e_runr, List.set_cons_zero, List.set_cons_succ, List.map_cons, List.map_nil, if_true, Bool.false_eq_true, if_false, Bool.not_true, Bool.not_false, decide_true, decide_false, fld_events, ix_ev hl, ix_ev1, e_eqS (evA_ok h.evs hl) hj]
  simp only [b2, consF, consT, lstM, tupM, sliceM, sliceTM, catM, notT, ifO, letρ, bcall, e_bind, e_bindr, e_map, e_mapr, e_onE, e_onr, e_seq, e_seqt, e_seqr, e_of, e_asB, e_asI, e_lstOf, e_listOf, e_noRs, e_getB0, e_getBs, e_getW0, e_getW0k, e_getW0o, e_getWs, e_getK0, e_getK0k, e_getKs, e_frz0, e_frzs, e_both, e_either, e_bothT, e_eitherT, e_add, e_sub, e_lt, e_le, e_gt, e_ge, e_intF, e_neg, e_lenL, e_lenT, e_max, e_unfl0, e_unfl1, e_small0, e_small1, e_small2, e_small3, e_small4, e_small5, e_small8, e_runt, e_runn, e_runr, List.set_cons_zero, List.set_cons_succ, List.map_cons, List.map_nil, if_true, Bool.false_eq_true, if_false, Bool.not_true, Bool.not_false, decide_true, decide_false, methM, methM0, ins_log p "_need_judge" (by rfl), ins_log p "answers" (by rfl), c1]
  by_cases hk : (p.judges.lookup j).isSome = true
  · simp only [b2, consF, consT, lstM, tupM, sliceM, sliceTM, catM, notT, ifO, letρ, bcall, e_bind, e_bindr, e_map, e_mapr, e_onE, e_onr, e_seq, e_seqt, e_seqr, e_of, e_asB, e_asI, e_lstOf, e_listOf, e_noRs, e_getB0, e_getBs, e_getW0, e_getW0k, e_getW0o, e_getWs, e_getK0, e_getK0k, e_getKs, e_frz0, e_frzs, e_both, e_either, e_bothT, e_eitherT, e_add, e_sub, e_lt, e_le, e_gt, e_ge, e_intF, e_neg, e_lenL, e_lenT, e_max, e_unfl0, e_unfl1, e_small0, e_small1, e_small2, e_small3, e_small4, e_small5, e_small8, e_runt, e_runn, e_runr, List.set_cons_zero, List.set_cons_succ, List.map_cons, List.map_nil, if_true, Bool.false_eq_true, if_false, Bool.not_true, Bool.not_false, decide_true, decide_false] at lc
    simp only [b2, consF, consT, lstM, tupM, sliceM, sliceTM, catM, notT, ifO, letρ, bcall, e_bind, e_bindr, e_map, e_mapr, e_onE, e_onr, e_seq, e_seqt, e_seqr, e_of, e_asB, e_asI, e_lstOf, e_listOf, e_noRs, e_getB0, e_getBs, e_getW0, e_getW0k, e_getW0o, e_getWs, e_getK0, e_getK0k, e_getKs, e_frz0, e_frzs, e_both, e_either, e_bothT, e_eitherT, e_add, e_sub, e_lt, e_le, e_gt, e_ge, e_intF, e_neg, e_lenL, e_lenT, e_max, e_unfl0, e_unfl1, e_small0, e_small1, e_small2, e_small3, e_small4, e_small5, e_small8, e_runt, e_runn, e_runr, List.set_cons_zero, List.set_cons_succ, List.map_cons, List.map_nil, if_true, Bool.false_eq_true, if_false, Bool.not_true, Bool.not_false, decide_true, decide_false, if_pos hk, ins_log p "answers" (by rfl), answers_ok h, lc]
  · simp only [b2, consF, consT, lstM, tupM, sliceM, sliceTM, catM, notT, ifO, letρ, bcall, e_bind, e_bindr, e_map, e_mapr, e_onE, e_onr, e_seq, e_seqt, e_seqr, e_of, e_asB, e_asI, e_lstOf, e_listOf, e_noRs, e_getB0, e_getBs, e_getW0, e_getW0k, e_getW0o, e_getWs, e_getK0, e_getK0k, e_getKs, e_frz0, e_frzs, e_both, e_either, e_bothT, e_eitherT, e_add, e_sub, e_lt, e_le, e_gt, e_ge, e_intF, e_neg, e_lenL, e_lenT, e_max, e_unfl0, e_unfl1, e_small0, e_small1, e_small2, e_small3, e_small4, e_small5, e_small8, e_runt, e_runn, e_runr, List.set_cons_zero, List.set_cons_succ, List.map_cons, List.map_nil, if_true, Bool.false_eq_true, if_false, Bool.not_true, Bool.not_false, decide_true, decide_false, if_neg hk]
theorem stretch_behind_ok {p : Pt} (h : p.Ok) {j : Str} (hj : sOk j) (hk : (p.judges.lookup j).isSome = true) (r : Nat) : m_Log__stretch_behind [logD p, .str j, .int (r : Int)] = .ok (.list (natL (strB p.events j r))) := by
  have st : start0 4 (false :: fl_Log__stretch_behind) [logD p, .str j, .int (r : Int)] = [.dat (logD p), .dat (.str j), .dat (.int (r : Int)), .un] := rfl
  unfold m_Log__stretch_behind
  rw [st]
  unfold m_Log__stretch_behind_b
  have c1 : callM (false :: fl_Log_answers_of) m_Log_answers_of [(false, logD p), (false, .str j)] = .ok (.list (natL (ansJ p.events j))) := (answers_of_ok h hj).trans (if_pos hk)
  have lc : lcM (.one 3) [3] (fun ρ => ((b2 eqD (b2 ixD (((getB ρ 0)).bind (fldD "Log" "_resets")) (getB ρ 3)) (getW ρ 2)).bind asB)) (fun ρ => (getB ρ 3)) [.dat (logD p), .dat (.str j), .dat (.int (r : Int)), .un] (natL (ansJ p.events j)) = .ok (natL (strB p.events j r)) := by
    refine lc_map (fun (i : Nat) => .int (i : Int)) (fun i => decide (rct (p.events.take i) j = r)) (fun (i : Nat) => .int (i : Int)) _ ?_ (fun i hi => ?_) fun i _ _ => rfl
    · exact Nat.le_trans (ansJ_len _ _) (by have := h.en; omega)
    · obtain ⟨h1, h2⟩ := ansJ_mem.mp hi
      show ((b2 eqD (b2 ixD (((getB [.dat (logD p), .dat (.str j), .dat (.int (r : Int)), .dat (.int (i : Int))] 0)).bind (fldD "Log" "_resets")) (getB [.dat (logD p), .dat (.str j), .dat (.int (r : Int)), .dat (.int (i : Int))] 3)) (getW [.dat (logD p), .dat (.str j), .dat (.int (r : Int)), .dat (.int (i : Int))] 2)).bind asB) = _
      simp only [b2, consF, consT, lstM, tupM, sliceM, sliceTM, catM, notT, ifO, letρ, bcall, e_bind, e_bindr, e_map, e_mapr, e_onE, e_onr, e_seq, e_seqt, e_seqr, e_of, e_asB, e_asI, e_lstOf, e_listOf, e_noRs, e_getB0, e_getBs, e_getW0, e_getW0k, e_getW0o, e_getWs, e_getK0, e_getK0k, e_getKs, e_frz0, e_frzs, e_both, e_either, e_bothT, e_eitherT, e_add, e_sub, e_lt, e_le, e_gt, e_ge, e_intF, e_neg, e_lenL, e_lenT, e_max, e_unfl0, e_unfl1, e_small0, e_small1, e_small2, e_small3, e_small4, e_small5, e_small8, e_runt, e_runn, e_runr, List.set_cons_zero, List.set_cons_succ, List.map_cons, List.map_nil, if_true, Bool.false_eq_true, if_false, Bool.not_true, Bool.not_false, decide_true, decide_false, fld_resets, ix_rst (isAt_lt h1), e_eqI, h2]
      congr 1
      apply Bool.eq_iff_iff.mpr
      rw [decide_eq_true_eq, decide_eq_true_eq]
      omega
  have i1 := ins_log p "answers_of" (by rfl)
  simp only [b2, consF, consT, lstM, tupM, sliceM, sliceTM, catM, notT, ifO, letρ, bcall, e_bind, e_bindr, e_map, e_mapr, e_onE, e_onr, e_seq, e_seqt, e_seqr, e_of, e_asB, e_asI, e_lstOf, e_listOf, e_noRs, e_getB0, e_getBs, e_getW0, e_getW0k, e_getW0o, e_getWs, e_getK0, e_getK0k, e_getKs, e_frz0, e_frzs, e_both, e_either, e_bothT, e_eitherT, e_add, e_sub, e_lt, e_le, e_gt, e_ge, e_intF, e_neg, e_lenL, e_lenT, e_max, e_unfl0, e_unfl1, e_small0, e_small1, e_small2, e_small3, e_small4, e_small5, e_small8, e_runt, e_runn, e_runr, List.set_cons_zero, List.set_cons_succ, List.map_cons, List.map_nil, if_true, Bool.false_eq_true, if_false, Bool.not_true, Bool.not_false, decide_true, decide_false, methM, i1, c1]
  simp only [b2, consF, consT, lstM, tupM, sliceM, sliceTM, catM, notT, ifO, letρ, bcall, e_bind, e_bindr, e_map, e_mapr, e_onE, e_onr, e_seq, e_seqt, e_seqr, e_of, e_asB, e_asI, e_lstOf, e_listOf, e_noRs, e_getB0, e_getBs, e_getW0, e_getW0k, e_getW0o, e_getWs, e_getK0, e_getK0k, e_getKs, e_frz0, e_frzs, e_both, e_either, e_bothT, e_eitherT, e_add, e_sub, e_lt, e_le, e_gt, e_ge, e_intF, e_neg, e_lenL, e_lenT, e_max, e_unfl0, e_unfl1, e_small0, e_small1, e_small2, e_small3, e_small4, e_small5, e_small8, e_runt, e_runn, e_runr, List.set_cons_zero, List.set_cons_succ, List.map_cons, List.map_nil, if_true, Bool.false_eq_true, if_false, Bool.not_true, Bool.not_false, decide_true, decide_false] at lc
  simp only [b2, consF, consT, lstM, tupM, sliceM, sliceTM, catM, notT, ifO, letρ, bcall, e_bind, e_bindr, e_map, e_mapr, e_onE, e_onr, e_seq, e_seqt, e_seqr, e_of, e_asB, e_asI, e_lstOf, e_listOf, e_noRs, e_getB0, e_getBs, e_getW0, e_getW0k, e_getW0o, e_getWs, e_getK0, e_getK0k, e_getKs, e_frz0, e_frzs, e_both, e_either, e_bothT, e_eitherT, e_add, e_sub, e_lt, e_le, e_gt, e_ge, e_intF, e_neg, e_lenL, e_lenT, e_max, e_unfl0, e_unfl1, e_small0, e_small1, e_small2, e_small3, e_small4, e_small5, e_small8, e_runt, e_runn, e_runr, List.set_cons_zero, List.set_cons_succ, List.map_cons, List.map_nil, if_true, Bool.false_eq_true, if_false, Bool.not_true, Bool.not_false, decide_true, decide_false, lc]
theorem stretch_at_ok {p : Pt} (h : p.Ok) {j : Str} (hj : sOk j) (i : Int) : m_Log_stretch_at [logD p, .str j, .int i] =
    if (p.judges.lookup j).isSome = true then (if 0 ≤ i ∧ i ≤ (p.events.length : Int) then .ok (.list (natL (strB p.events j (rct (p.events.take i.toNat) j)))) else .rs (eP i)) else .rs (eJ j) := by
  have st : start0 3 (false :: fl_Log_stretch_at) [logD p, .str j, .int i] = [.dat (logD p), .dat (.str j), .dat (.int i)] := rfl
  unfold m_Log_stretch_at
  rw [st]
  unfold m_Log_stretch_at_b
  have i1 := ins_log p "_need_judge" (by rfl)
  have i2 := ins_log p "_need_lost_place" (by rfl)
  have i3 := ins_log p "_stretch_behind" (by rfl)
  have c1 : callM (false :: fl_Log__need_judge) m_Log__need_judge [(false, logD p), (false, .str j)] = _ := need_judge_ok p j
  have c2 : callM (false :: fl_Log__need_lost_place) m_Log__need_lost_place [(false, logD p), (false, .int i)] = _ := need_lost_ok p i
  simp only [b2, consF, consT, lstM, tupM, sliceM, sliceTM, catM, notT, ifO, letρ, bcall, e_bind, e_bindr, e_map, e_mapr, e_onE, e_onr, e_seq, e_seqt, e_seqr, e_of, e_asB, e_asI, e_lstOf, e_listOf, e_noRs, e_getB0, e_getBs, e_getW0, e_getW0k, e_getW0o, e_getWs, e_getK0, e_getK0k, e_getKs, e_frz0, e_frzs, e_both, e_either, e_bothT, e_eitherT, e_add, e_sub, e_lt, e_le, e_gt, e_ge, e_intF, e_neg, e_lenL, e_lenT, e_max, e_unfl0, e_unfl1, e_small0, e_small1, e_small2, e_small3, e_small4, e_small5, e_small8, e_runt, e_runn, e_runr, List.set_cons_zero, List.set_cons_succ, List.map_cons, List.map_nil, if_true, Bool.false_eq_true, if_false, Bool.not_true, Bool.not_false, decide_true, decide_false, methM, i1, i2, c1]
  by_cases hk : (p.judges.lookup j).isSome = true
  · simp only [b2, consF, consT, lstM, tupM, sliceM, sliceTM, catM, notT, ifO, letρ, bcall, e_bind, e_bindr, e_map, e_mapr, e_onE, e_onr, e_seq, e_seqt, e_seqr, e_of, e_asB, e_asI, e_lstOf, e_listOf, e_noRs, e_getB0, e_getBs, e_getW0, e_getW0k, e_getW0o, e_getWs, e_getK0, e_getK0k, e_getKs, e_frz0, e_frzs, e_both, e_either, e_bothT, e_eitherT, e_add, e_sub, e_lt, e_le, e_gt, e_ge, e_intF, e_neg, e_lenL, e_lenT, e_max, e_unfl0, e_unfl1, e_small0, e_small1, e_small2, e_small3, e_small4, e_small5, e_small8, e_runt, e_runn, e_runr, List.set_cons_zero, List.set_cons_succ, List.map_cons, List.map_nil, if_true, Bool.false_eq_true, if_false, Bool.not_true, Bool.not_false, decide_true, decide_false, if_pos hk, c2, methM, i2]
    by_cases hp : 0 ≤ i ∧ i ≤ (p.events.length : Int)
    · obtain ⟨k, rfl⟩ := Int.eq_ofNat_of_zero_le hp.1
      have cut : cutG (evL p.events) none (some (k : Int)) = evL (p.events.take k) := by rw [cutG_take]; exact List.map_take.symm
      have ct : countD (.list (evL (p.events.take k))) (.tuple [.str "reset", .str j]) = .ok (.int ((rct (p.events.take k) j : Nat) : Int)) :=
        e_countEv (e := .res j) hj fun e he => h.evs e (List.mem_of_mem_take he)
      have c3 : callM (false :: fl_Log__stretch_behind) m_Log__stretch_behind [(false, logD p), (false, .str j), (false, .int ((rct (p.events.take k) j : Nat) : Int))] = _ := stretch_behind_ok h hj hk (rct (p.events.take k) j)
      simp only [b2, consF, consT, lstM, tupM, sliceM, sliceTM, catM, notT, ifO, letρ, bcall, e_bind, e_bindr, e_map, e_mapr, e_onE, e_onr, e_seq, e_seqt, e_seqr, e_of, e_asB, e_asI, e_lstOf, e_listOf, e_noRs, e_getB0, e_getBs, e_getW0, e_getW0k, e_getW0o, e_getWs, e_getK0, e_getK0k, e_getKs, e_frz0, e_frzs, e_both, e_either, e_bothT, e_eitherT, e_add, e_sub, e_lt, e_le, e_gt, e_ge, e_intF, e_neg, e_lenL, e_lenT, e_max, e_unfl0, e_unfl1, e_small0, e_small1, e_small2, e_small3, e_small4, e_small5, e_small8, e_runt, e_runn, e_runr, List.set_cons_zero, List.set_cons_succ, List.map_cons, List.map_nil, if_true, Bool.false_eq_true, if_false, Bool.not_true, Bool.not_false, decide_true, decide_false, if_pos hp, countM, fld_events, cut, ct, i3, c3]
      rfl
    · simp only [b2, consF, consT, lstM, tupM, sliceM, sliceTM, catM, notT, ifO, letρ, bcall, e_bind, e_bindr, e_map, e_mapr, e_onE, e_onr, e_seq, e_seqt, e_seqr, e_of, e_asB, e_asI, e_lstOf, e_listOf, e_noRs, e_getB0, e_getBs, e_getW0, e_getW0k, e_getW0o, e_getWs, e_getK0, e_getK0k, e_getKs, e_frz0, e_frzs, e_both, e_either, e_bothT, e_eitherT, e_add, e_sub, e_lt, e_le, e_gt, e_ge, e_intF, e_neg, e_lenL, e_lenT, e_max, e_unfl0, e_unfl1, e_small0, e_small1, e_small2, e_small3, e_small4, e_small5, e_small8, e_runt, e_runn, e_runr, List.set_cons_zero, List.set_cons_succ, List.map_cons, List.map_nil, if_true, Bool.false_eq_true, if_false, Bool.not_true, Bool.not_false, decide_true, decide_false, if_neg hp]
  · simp only [b2, consF, consT, lstM, tupM, sliceM, sliceTM, catM, notT, ifO, letρ, bcall, e_bind, e_bindr, e_map, e_mapr, e_onE, e_onr, e_seq, e_seqt, e_seqr, e_of, e_asB, e_asI, e_lstOf, e_listOf, e_noRs, e_getB0, e_getBs, e_getW0, e_getW0k, e_getW0o, e_getWs, e_getK0, e_getK0k, e_getKs, e_frz0, e_frzs, e_both, e_either, e_bothT, e_eitherT, e_add, e_sub, e_lt, e_le, e_gt, e_ge, e_intF, e_neg, e_lenL, e_lenT, e_max, e_unfl0, e_unfl1, e_small0, e_small1, e_small2, e_small3, e_small4, e_small5, e_small8, e_runt, e_runn, e_runr, List.set_cons_zero, List.set_cons_succ, List.map_cons, List.map_nil, if_true, Bool.false_eq_true, if_false, Bool.not_true, Bool.not_false, decide_true, decide_false, if_neg hk]
theorem in_order_ok {p : Pt} (h : p.Ok) (a b : Int) : m_Log_in_order [logD p, .int a, .int b] = if isAns p.events a = true then (if isAns p.events b = true then .ok (.bool (inOrd p a.toNat b.toNat)) else .rs (eP b)) else .rs (eP a) := by
  have st : start0 4 (false :: fl_Log_in_order) [logD p, .int a, .int b] = [.dat (logD p), .dat (.int a), .dat (.int b), .un] := rfl
  unfold m_Log_in_order
  rw [st]
  unfold m_Log_in_order_b
  have i1 := ins_log p "_need_answer" (by rfl)
  have c1 : callM (false :: fl_Log__need_answer) m_Log__need_answer [(false, logD p), (false, .int a)] = _ := need_answer_ok p a
  have c2 : callM (false :: fl_Log__need_answer) m_Log__need_answer [(false, logD p), (false, .int b)] = _ := need_answer_ok p b
  simp only [b2, consF, consT, lstM, tupM, sliceM, sliceTM, catM, notT, ifO, letρ, bcall, e_bind, e_bindr, e_map, e_mapr, e_onE, e_onr, e_seq, e_seqt, e_seqr, e_of, e_asB, e_asI, e_lstOf, e_listOf, e_noRs, e_getB0, e_getBs, e_getW0, e_getW0k, e_getW0o, e_getWs, e_getK0, e_getK0k, e_getKs, e_frz0, e_frzs, e_both, e_either, e_bothT, e_eitherT, e_add, e_sub, e_lt, e_le, e_gt, e_ge, e_intF, e_neg, e_lenL, e_lenT, e_max, e_unfl0, e_unfl1, e_small0, e_small1, e_small2, e_small3, e_small4, e_small5, e_small8, e_runt, e_runn, e_runr, List.set_cons_zero, List.set_cons_succ, List.map_cons, List.map_nil, if_true, Bool.false_eq_true, if_false, Bool.not_true, Bool.not_false, decide_true, decide_false, methM, i1, c1]
  by_cases ha : isAns p.events a = true
  · simp only [b2, consF, consT, lstM, tupM, sliceM, sliceTM, catM, notT, ifO, letρ, bcall, e_bind, e_bindr, e_map, e_mapr, e_onE, e_onr, e_seq, e_seqt, e_seqr, e_of, e_asB, e_asI, e_lstOf, e_listOf, e_noRs, e_getB0, e_getBs, e_getW0, e_getW0k, e_getW0o, e_getWs, e_getK0, e_getK0k, e_getKs, e_frz0, e_frzs, e_both, e_either, e_bothT, e_eitherT, e_add, e_sub, e_lt, e_le, e_gt, e_ge, e_intF, e_neg, e_lenL, e_lenT, e_max, e_unfl0, e_unfl1, e_small0, e_small1, e_small2, e_small3, e_small4, e_small5, e_small8, e_runt, e_runn, e_runr, List.set_cons_zero, List.set_cons_succ, List.map_cons, List.map_nil, if_true, Bool.false_eq_true, if_false, Bool.not_true, Bool.not_false, decide_true, decide_false, if_pos ha, c2, methM, i1]
    by_cases hb : isAns p.events b = true
    · obtain ⟨x, rfl, hx⟩ := isAns_nat ha
      obtain ⟨y, rfl, hy⟩ := isAns_nat hb
      have lx := isAt_lt hx
      have ly := isAt_lt hy
      obtain ⟨d, hd, hm⟩ := h.look (h.evJ lx)
      have c3 : callM fl_are_in_order m_are_in_order [(false, .str d), (false, .int (x : Int)), (false, .int (y : Int))] = _ := are_ok hm x y
      have gd := e_getDr hd
      have df : drf p (evA p.events x).j = d := by unfold drf; rw [hd]; rfl
      simp only [b2, consF, consT, lstM, tupM, sliceM, sliceTM, catM, notT, ifO, letρ, bcall, e_bind, e_bindr, e_map, e_mapr, e_onE, e_onr, e_seq, e_seqt, e_seqr, e_of, e_asB, e_asI, e_lstOf, e_listOf, e_noRs, e_getB0, e_getBs, e_getW0, e_getW0k, e_getW0o, e_getWs, e_getK0, e_getK0k, e_getKs, e_frz0, e_frzs, e_both, e_either, e_bothT, e_eitherT, e_add, e_sub, e_lt, e_le, e_gt, e_ge, e_intF, e_neg, e_lenL, e_lenT, e_max, e_unfl0, e_unfl1, e_small0, e_small1, e_small2, e_small3, e_small4, e_small5, e_small8, e_runt, e_runn, e_runr, List.set_cons_zero, List.set_cons_succ, List.map_cons, List.map_nil, if_true, Bool.false_eq_true, if_false, Bool.not_true, Bool.not_false, decide_true, decide_false, if_pos hb, fld_events, ix_ev lx, ix_ev1, ix_ev ly, e_neS (evA_ok h.evs lx) (evA_ok h.evs ly), fld_resets, ix_rst lx, ix_rst ly, e_neI]
      unfold inOrd
      simp only [Int.toNat_natCast, df]
      by_cases h1 : (evA p.events x).j = (evA p.events y).j
      · by_cases h2 : rct (p.events.take x) (evA p.events x).j = rct (p.events.take y) (evA p.events y).j
        · have h2' : ((rct (p.events.take x) (evA p.events x).j : Nat) : Int) = ((rct (p.events.take y) (evA p.events y).j : Nat) : Int) := by omega
          simp only [b2, consF, consT, lstM, tupM, sliceM, sliceTM, catM, notT, ifO, letρ, bcall, e_bind, e_bindr, e_map, e_mapr, e_onE, e_onr, e_seq, e_seqt, e_seqr, e_of, e_asB, e_asI, e_lstOf, e_listOf, e_noRs, e_getB0, e_getBs, e_getW0, e_getW0k, e_getW0o, e_getWs, e_getK0, e_getK0k, e_getKs, e_frz0, e_frzs, e_both, e_either, e_bothT, e_eitherT, e_add, e_sub, e_lt, e_le, e_gt, e_ge, e_intF, e_neg, e_lenL, e_lenT, e_max, e_unfl0, e_unfl1, e_small0, e_small1, e_small2, e_small3, e_small4, e_small5, e_small8, e_runt, e_runn, e_runr, List.set_cons_zero, List.set_cons_succ, List.map_cons, List.map_nil, if_true, Bool.false_eq_true, if_false, Bool.not_true, Bool.not_false, decide_true, decide_false, decide_eq_true h1, decide_eq_true h2, decide_eq_true h2', fld_drifts, gd, c3, Bool.true_and]
        · have h2' : ¬ ((rct (p.events.take x) (evA p.events x).j : Nat) : Int) = ((rct (p.events.take y) (evA p.events y).j : Nat) : Int) := by omega
          simp only [b2, consF, consT, lstM, tupM, sliceM, sliceTM, catM, notT, ifO, letρ, bcall, e_bind, e_bindr, e_map, e_mapr, e_onE, e_onr, e_seq, e_seqt, e_seqr, e_of, e_asB, e_asI, e_lstOf, e_listOf, e_noRs, e_getB0, e_getBs, e_getW0, e_getW0k, e_getW0o, e_getWs, e_getK0, e_getK0k, e_getKs, e_frz0, e_frzs, e_both, e_either, e_bothT, e_eitherT, e_add, e_sub, e_lt, e_le, e_gt, e_ge, e_intF, e_neg, e_lenL, e_lenT, e_max, e_unfl0, e_unfl1, e_small0, e_small1, e_small2, e_small3, e_small4, e_small5, e_small8, e_runt, e_runn, e_runr, List.set_cons_zero, List.set_cons_succ, List.map_cons, List.map_nil, if_true, Bool.false_eq_true, if_false, Bool.not_true, Bool.not_false, decide_true, decide_false, decide_eq_true h1, decide_eq_false h2, decide_eq_false h2', Bool.true_and, Bool.false_and]
      · simp only [b2, consF, consT, lstM, tupM, sliceM, sliceTM, catM, notT, ifO, letρ, bcall, e_bind, e_bindr, e_map, e_mapr, e_onE, e_onr, e_seq, e_seqt, e_seqr, e_of, e_asB, e_asI, e_lstOf, e_listOf, e_noRs, e_getB0, e_getBs, e_getW0, e_getW0k, e_getW0o, e_getWs, e_getK0, e_getK0k, e_getKs, e_frz0, e_frzs, e_both, e_either, e_bothT, e_eitherT, e_add, e_sub, e_lt, e_le, e_gt, e_ge, e_intF, e_neg, e_lenL, e_lenT, e_max, e_unfl0, e_unfl1, e_small0, e_small1, e_small2, e_small3, e_small4, e_small5, e_small8, e_runt, e_runn, e_runr, List.set_cons_zero, List.set_cons_succ, List.map_cons, List.map_nil, if_true, Bool.false_eq_true, if_false, Bool.not_true, Bool.not_false, decide_true, decide_false, decide_eq_false h1, Bool.false_and]
    · simp only [b2, consF, consT, lstM, tupM, sliceM, sliceTM, catM, notT, ifO, letρ, bcall, e_bind, e_bindr, e_map, e_mapr, e_onE, e_onr, e_seq, e_seqt, e_seqr, e_of, e_asB, e_asI, e_lstOf, e_listOf, e_noRs, e_getB0, e_getBs, e_getW0, e_getW0k, e_getW0o, e_getWs, e_getK0, e_getK0k, e_getKs, e_frz0, e_frzs, e_both, e_either, e_bothT, e_eitherT, e_add, e_sub, e_lt, e_le, e_gt, e_ge, e_intF, e_neg, e_lenL, e_lenT, e_max, e_unfl0, e_unfl1, e_small0, e_small1, e_small2, e_small3, e_small4, e_small5, e_small8, e_runt, e_runn, e_runr, List.set_cons_zero, List.set_cons_succ, List.map_cons, List.map_nil, if_true, Bool.false_eq_true, if_false, Bool.not_true, Bool.not_false, decide_true, decide_false, if_neg hb]
  · simp only [b2, consF, consT, lstM, tupM, sliceM, sliceTM, catM, notT, ifO, letρ, bcall, e_bind, e_bindr, e_map, e_mapr, e_onE, e_onr, e_seq, e_seqt, e_seqr, e_of, e_asB, e_asI, e_lstOf, e_listOf, e_noRs, e_getB0, e_getBs, e_getW0, e_getW0k, e_getW0o, e_getWs, e_getK0, e_getK0k, e_getKs, e_frz0, e_frzs, e_both, e_either, e_bothT, e_eitherT, e_add, e_sub, e_lt, e_le, e_gt, e_ge, e_intF, e_neg, e_lenL, e_lenT, e_max, e_unfl0, e_unfl1, e_small0, e_small1, e_small2, e_small3, e_small4, e_small5, e_small8, e_runt, e_runn, e_runr, List.set_cons_zero, List.set_cons_succ, List.map_cons, List.map_nil, if_true, Bool.false_eq_true, if_false, Bool.not_true, Bool.not_false, decide_true, decide_false, if_neg ha]
/-- the lost answer and the answer at a place -/
def lostB (p : Pt) (first : Bool) (j : Str) (i b : Nat) : Bool := decide (b ∈ strB p.events j (rct (p.events.take i) j)) && (if first = true then orderB (drf p j) (2 * (i : Int) - 1) (2 * (b : Int)) else orderB (drf p j) (2 * (b : Int)) (2 * (i : Int) - 1))
theorem lost_first_ok {p : Pt} (h : p.Ok) {j : Str} (hj : sOk j) (i b : Int) (hi : i < 1000000) (hb' : b < 1000000) : m_Log_lost_first [logD p, .str j, .int i, .int b] =
    if (p.judges.lookup j).isSome = true then (if 0 ≤ i ∧ i ≤ (p.events.length : Int) then (if isAns p.events b = true then .ok (.bool (lostB p true j i.toNat b.toNat)) else .rs (eP b)) else .rs (eP i)) else .rs (eJ j) := by
  have st : start0 5 (false :: fl_Log_lost_first) [logD p, .str j, .int i, .int b] = [.dat (logD p), .dat (.str j), .dat (.int i), .dat (.int b), .un] := rfl
  unfold m_Log_lost_first
  rw [st]
  unfold m_Log_lost_first_b
  have i1 := ins_log p "stretch_at" (by rfl)
  have i2 := ins_log p "_need_answer" (by rfl)
  have c1 : callM (false :: fl_Log_stretch_at) m_Log_stretch_at [(false, logD p), (false, .str j), (false, .int i)] = _ := stretch_at_ok h hj i
  have c2 : callM (false :: fl_Log__need_answer) m_Log__need_answer [(false, logD p), (false, .int b)] = _ := need_answer_ok p b
  simp only [b2, consF, consT, lstM, tupM, sliceM, sliceTM, catM, notT, ifO, letρ, bcall, e_bind, e_bindr, e_map, e_mapr, e_onE, e_onr, e_seq, e_seqt, e_seqr, e_of, e_asB, e_asI, e_lstOf, e_listOf, e_noRs, e_getB0, e_getBs, e_getW0, e_getW0k, e_getW0o, e_getWs, e_getK0, e_getK0k, e_getKs, e_frz0, e_frzs, e_both, e_either, e_bothT, e_eitherT, e_add, e_sub, e_lt, e_le, e_gt, e_ge, e_intF, e_neg, e_lenL, e_lenT, e_max, e_unfl0, e_unfl1, e_small0, e_small1, e_small2, e_small3, e_small4, e_small5, e_small8, e_runt, e_runn, e_runr, List.set_cons_zero, List.set_cons_succ, List.map_cons, List.map_nil, if_true, Bool.false_eq_true, if_false, Bool.not_true, Bool.not_false, decide_true, decide_false, methM, i1, c1]
  by_cases hk : (p.judges.lookup j).isSome = true
  · by_cases hp : 0 ≤ i ∧ i ≤ (p.events.length : Int)
    · simp only [b2, consF, consT, lstM, tupM, sliceM, sliceTM, catM, notT, ifO, letρ, bcall, e_bind, e_bindr, e_map, e_mapr, e_onE, e_onr, e_seq, e_seqt, e_seqr, e_of, e_asB, e_asI, e_lstOf, e_listOf, e_noRs, e_getB0, e_getBs, e_getW0, e_getW0k, e_getW0o, e_getWs, e_getK0, e_getK0k, e_getKs, e_frz0, e_frzs, e_both, e_either, e_bothT, e_eitherT, e_add, e_sub, e_lt, e_le, e_gt, e_ge, e_intF, e_neg, e_lenL, e_lenT, e_max, e_unfl0, e_unfl1, e_small0, e_small1, e_small2, e_small3, e_small4, e_small5, e_small8, e_runt, e_runn, e_runr, List.set_cons_zero, List.set_cons_succ, List.map_cons, List.map_nil, if_true, Bool.false_eq_true, if_false, Bool.not_true, Bool.not_false, decide_true, decide_false, if_pos hk, if_pos hp, methM, i2, c2]
      by_cases hb : isAns p.events b = true
      · obtain ⟨x, rfl⟩ := Int.eq_ofNat_of_zero_le hp.1
        obtain ⟨y, rfl, hy⟩ := isAns_nat hb
        obtain ⟨d, hd, hm, _⟩ := h.some hk
        have gd := e_getDr hd
        have df : drf p j = d := by unfold drf; rw [hd]; rfl
        have m1 : mulD (.int 2) (.int (x : Int)) = .ok (.int (2 * (x : Int))) := mulD_ok (by decide) (by omega)
        have m2 : mulD (.int 2) (.int (y : Int)) = .ok (.int (2 * (y : Int))) := mulD_ok (by decide) (by omega)
        have c3 : callM fl_are_in_order m_are_in_order [(false, .str d), (false, .int (2 * (x : Int) - 1)), (false, .int (2 * (y : Int)))] = _ := are_ok hm _ _
        unfold lostB
        simp only [b2, consF, consT, lstM, tupM, sliceM, sliceTM, catM, notT, ifO, letρ, bcall, e_bind, e_bindr, e_map, e_mapr, e_onE, e_onr, e_seq, e_seqt, e_seqr, e_of, e_asB, e_asI, e_lstOf, e_listOf, e_noRs, e_getB0, e_getBs, e_getW0, e_getW0k, e_getW0o, e_getWs, e_getK0, e_getK0k, e_getKs, e_frz0, e_frzs, e_both, e_either, e_bothT, e_eitherT, e_add, e_sub, e_lt, e_le, e_gt, e_ge, e_intF, e_neg, e_lenL, e_lenT, e_max, e_unfl0, e_unfl1, e_small0, e_small1, e_small2, e_small3, e_small4, e_small5, e_small8, e_runt, e_runn, e_runr, List.set_cons_zero, List.set_cons_succ, List.map_cons, List.map_nil, if_true, Bool.false_eq_true, if_false, Bool.not_true, Bool.not_false, decide_true, decide_false, if_pos hb, e_inN, Int.toNat_natCast, df]
        by_cases h1 : y ∈ strB p.events j (rct (p.events.take x) j)
        · simp only [b2, consF, consT, lstM, tupM, sliceM, sliceTM, catM, notT, ifO, letρ, bcall, e_bind, e_bindr, e_map, e_mapr, e_onE, e_onr, e_seq, e_seqt, e_seqr, e_of, e_asB, e_asI, e_lstOf, e_listOf, e_noRs, e_getB0, e_getBs, e_getW0, e_getW0k, e_getW0o, e_getWs, e_getK0, e_getK0k, e_getKs, e_frz0, e_frzs, e_both, e_either, e_bothT, e_eitherT, e_add, e_sub, e_lt, e_le, e_gt, e_ge, e_intF, e_neg, e_lenL, e_lenT, e_max, e_unfl0, e_unfl1, e_small0, e_small1, e_small2, e_small3, e_small4, e_small5, e_small8, e_runt, e_runn, e_runr, List.set_cons_zero, List.set_cons_succ, List.map_cons, List.map_nil, if_true, Bool.false_eq_true, if_false, Bool.not_true, Bool.not_false, decide_true, decide_false, decide_eq_true h1, fld_drifts, gd, m1, m2, c3, Bool.true_and]
        · simp only [b2, consF, consT, lstM, tupM, sliceM, sliceTM, catM, notT, ifO, letρ, bcall, e_bind, e_bindr, e_map, e_mapr, e_onE, e_onr, e_seq, e_seqt, e_seqr, e_of, e_asB, e_asI, e_lstOf, e_listOf, e_noRs, e_getB0, e_getBs, e_getW0, e_getW0k, e_getW0o, e_getWs, e_getK0, e_getK0k, e_getKs, e_frz0, e_frzs, e_both, e_either, e_bothT, e_eitherT, e_add, e_sub, e_lt, e_le, e_gt, e_ge, e_intF, e_neg, e_lenL, e_lenT, e_max, e_unfl0, e_unfl1, e_small0, e_small1, e_small2, e_small3, e_small4, e_small5, e_small8, e_runt, e_runn, e_runr, List.set_cons_zero, List.set_cons_succ, List.map_cons, List.map_nil, if_true, Bool.false_eq_true, if_false, Bool.not_true, Bool.not_false, decide_true, decide_false, decide_eq_false h1, Bool.false_and]
      · simp only [b2, consF, consT, lstM, tupM, sliceM, sliceTM, catM, notT, ifO, letρ, bcall, e_bind, e_bindr, e_map, e_mapr, e_onE, e_onr, e_seq, e_seqt, e_seqr, e_of, e_asB, e_asI, e_lstOf, e_listOf, e_noRs, e_getB0, e_getBs, e_getW0, e_getW0k, e_getW0o, e_getWs, e_getK0, e_getK0k, e_getKs, e_frz0, e_frzs, e_both, e_either, e_bothT, e_eitherT, e_add, e_sub, e_lt, e_le, e_gt, e_ge, e_intF, e_neg, e_lenL, e_lenT, e_max, e_unfl0, e_unfl1, e_small0, e_small1, e_small2, e_small3, e_small4, e_small5, e_small8, e_runt, e_runn, e_runr, List.set_cons_zero, List.set_cons_succ, List.map_cons, List.map_nil, if_true, Bool.false_eq_true, if_false, Bool.not_true, Bool.not_false, decide_true, decide_false, if_neg hb]
    · simp only [b2, consF, consT, lstM, tupM, sliceM, sliceTM, catM, notT, ifO, letρ, bcall, e_bind, e_bindr, e_map, e_mapr, e_onE, e_onr, e_seq, e_seqt, e_seqr, e_of, e_asB, e_asI, e_lstOf, e_listOf, e_noRs, e_getB0, e_getBs, e_getW0, e_getW0k, e_getW0o, e_getWs, e_getK0, e_getK0k, e_getKs, e_frz0, e_frzs, e_both, e_either, e_bothT, e_eitherT, e_add, e_sub, e_lt, e_le, e_gt, e_ge, e_intF, e_neg, e_lenL, e_lenT, e_max, e_unfl0, e_unfl1, e_small0, e_small1, e_small2, e_small3, e_small4, e_small5, e_small8, e_runt, e_runn, e_runr, List.set_cons_zero, List.set_cons_succ, List.map_cons, List.map_nil, if_true, Bool.false_eq_true, if_false, Bool.not_true, Bool.not_false, decide_true, decide_false, if_pos hk, if_neg hp]
  · simp only [b2, consF, consT, lstM, tupM, sliceM, sliceTM, catM, notT, ifO, letρ, bcall, e_bind, e_bindr, e_map, e_mapr, e_onE, e_onr, e_seq, e_seqt, e_seqr, e_of, e_asB, e_asI, e_lstOf, e_listOf, e_noRs, e_getB0, e_getBs, e_getW0, e_getW0k, e_getW0o, e_getWs, e_getK0, e_getK0k, e_getKs, e_frz0, e_frzs, e_both, e_either, e_bothT, e_eitherT, e_add, e_sub, e_lt, e_le, e_gt, e_ge, e_intF, e_neg, e_lenL, e_lenT, e_max, e_unfl0, e_unfl1, e_small0, e_small1, e_small2, e_small3, e_small4, e_small5, e_small8, e_runt, e_runn, e_runr, List.set_cons_zero, List.set_cons_succ, List.map_cons, List.map_nil, if_true, Bool.false_eq_true, if_false, Bool.not_true, Bool.not_false, decide_true, decide_false, if_neg hk]
theorem lost_second_ok {p : Pt} (h : p.Ok) {j : Str} (hj : sOk j) (i b : Int) (hi : i < 1000000) (hb' : b < 1000000) : m_Log_lost_second [logD p, .str j, .int i, .int b] =
    if (p.judges.lookup j).isSome = true then (if 0 ≤ i ∧ i ≤ (p.events.length : Int) then (if isAns p.events b = true then .ok (.bool (lostB p false j i.toNat b.toNat)) else .rs (eP b)) else .rs (eP i)) else .rs (eJ j) := by
  have st : start0 5 (false :: fl_Log_lost_second) [logD p, .str j, .int i, .int b] = [.dat (logD p), .dat (.str j), .dat (.int i), .dat (.int b), .un] := rfl
  unfold m_Log_lost_second
  rw [st]
  unfold m_Log_lost_second_b
  have i1 := ins_log p "stretch_at" (by rfl)
  have i2 := ins_log p "_need_answer" (by rfl)
  have c1 : callM (false :: fl_Log_stretch_at) m_Log_stretch_at [(false, logD p), (false, .str j), (false, .int i)] = _ := stretch_at_ok h hj i
  have c2 : callM (false :: fl_Log__need_answer) m_Log__need_answer [(false, logD p), (false, .int b)] = _ := need_answer_ok p b
  simp only [b2, consF, consT, lstM, tupM, sliceM, sliceTM, catM, notT, ifO, letρ, bcall, e_bind, e_bindr, e_map, e_mapr, e_onE, e_onr, e_seq, e_seqt, e_seqr, e_of, e_asB, e_asI, e_lstOf, e_listOf, e_noRs, e_getB0, e_getBs, e_getW0, e_getW0k, e_getW0o, e_getWs, e_getK0, e_getK0k, e_getKs, e_frz0, e_frzs, e_both, e_either, e_bothT, e_eitherT, e_add, e_sub, e_lt, e_le, e_gt, e_ge, e_intF, e_neg, e_lenL, e_lenT, e_max, e_unfl0, e_unfl1, e_small0, e_small1, e_small2, e_small3, e_small4, e_small5, e_small8, e_runt, e_runn, e_runr, List.set_cons_zero, List.set_cons_succ, List.map_cons, List.map_nil, if_true, Bool.false_eq_true, if_false, Bool.not_true, Bool.not_false, decide_true, decide_false, methM, i1, c1]
  by_cases hk : (p.judges.lookup j).isSome = true
  · by_cases hp : 0 ≤ i ∧ i ≤ (p.events.length : Int)
    · simp only [b2, consF, consT, lstM, tupM, sliceM, sliceTM, catM, notT, ifO, letρ, bcall, e_bind, e_bindr, e_map, e_mapr, e_onE, e_onr, e_seq, e_seqt, e_seqr, e_of, e_asB, e_asI, e_lstOf, e_listOf, e_noRs, e_getB0, e_getBs, e_getW0, e_getW0k, e_getW0o, e_getWs, e_getK0, e_getK0k, e_getKs, e_frz0, e_frzs, e_both, e_either, e_bothT, e_eitherT, e_add, e_sub, e_lt, e_le, e_gt, e_ge, e_intF, e_neg, e_lenL, e_lenT, e_max, e_unfl0, e_unfl1, e_small0, e_small1, e_small2, e_small3, e_small4, e_small5, e_small8, e_runt, e_runn, e_runr, List.set_cons_zero, List.set_cons_succ, List.map_cons, List.map_nil, if_true, Bool.false_eq_true, if_false, Bool.not_true, Bool.not_false, decide_true, decide_false, if_pos hk, if_pos hp, methM, i2, c2]
      by_cases hb : isAns p.events b = true
      · obtain ⟨x, rfl⟩ := Int.eq_ofNat_of_zero_le hp.1
        obtain ⟨y, rfl, hy⟩ := isAns_nat hb
        obtain ⟨d, hd, hm, _⟩ := h.some hk
        have gd := e_getDr hd
        have df : drf p j = d := by unfold drf; rw [hd]; rfl
        have m1 : mulD (.int 2) (.int (x : Int)) = .ok (.int (2 * (x : Int))) := mulD_ok (by decide) (by omega)
        have m2 : mulD (.int 2) (.int (y : Int)) = .ok (.int (2 * (y : Int))) := mulD_ok (by decide) (by omega)
        have c3 : callM fl_are_in_order m_are_in_order [(false, .str d), (false, .int (2 * (y : Int))), (false, .int (2 * (x : Int) - 1))] = _ := are_ok hm _ _
        unfold lostB
        simp only [b2, consF, consT, lstM, tupM, sliceM, sliceTM, catM, notT, ifO, letρ, bcall, e_bind, e_bindr, e_map, e_mapr, e_onE, e_onr, e_seq, e_seqt, e_seqr, e_of, e_asB, e_asI, e_lstOf, e_listOf, e_noRs, e_getB0, e_getBs, e_getW0, e_getW0k, e_getW0o, e_getWs, e_getK0, e_getK0k, e_getKs, e_frz0, e_frzs, e_both, e_either, e_bothT, e_eitherT, e_add, e_sub, e_lt, e_le, e_gt, e_ge, e_intF, e_neg, e_lenL, e_lenT, e_max, e_unfl0, e_unfl1, e_small0, e_small1, e_small2, e_small3, e_small4, e_small5, e_small8, e_runt, e_runn, e_runr, List.set_cons_zero, List.set_cons_succ, List.map_cons, List.map_nil, if_true, Bool.false_eq_true, if_false, Bool.not_true, Bool.not_false, decide_true, decide_false, if_pos hb, e_inN, Int.toNat_natCast, df]
        by_cases h1 : y ∈ strB p.events j (rct (p.events.take x) j)
        · simp only [b2, consF, consT, lstM, tupM, sliceM, sliceTM, catM, notT, ifO, letρ, bcall, e_bind, e_bindr, e_map, e_mapr, e_onE, e_onr, e_seq, e_seqt, e_seqr, e_of, e_asB, e_asI, e_lstOf, e_listOf, e_noRs, e_getB0, e_getBs, e_getW0, e_getW0k, e_getW0o, e_getWs, e_getK0, e_getK0k, e_getKs, e_frz0, e_frzs, e_both, e_either, e_bothT, e_eitherT, e_add, e_sub, e_lt, e_le, e_gt, e_ge, e_intF, e_neg, e_lenL, e_lenT, e_max, e_unfl0, e_unfl1, e_small0, e_small1, e_small2, e_small3, e_small4, e_small5, e_small8, e_runt, e_runn, e_runr, List.set_cons_zero, List.set_cons_succ, List.map_cons, List.map_nil, if_true, Bool.false_eq_true, if_false, Bool.not_true, Bool.not_false, decide_true, decide_false, decide_eq_true h1, fld_drifts, gd, m1, m2, c3, Bool.true_and]
        · simp only [b2, consF, consT, lstM, tupM, sliceM, sliceTM, catM, notT, ifO, letρ, bcall, e_bind, e_bindr, e_map, e_mapr, e_onE, e_onr, e_seq, e_seqt, e_seqr, e_of, e_asB, e_asI, e_lstOf, e_listOf, e_noRs, e_getB0, e_getBs, e_getW0, e_getW0k, e_getW0o, e_getWs, e_getK0, e_getK0k, e_getKs, e_frz0, e_frzs, e_both, e_either, e_bothT, e_eitherT, e_add, e_sub, e_lt, e_le, e_gt, e_ge, e_intF, e_neg, e_lenL, e_lenT, e_max, e_unfl0, e_unfl1, e_small0, e_small1, e_small2, e_small3, e_small4, e_small5, e_small8, e_runt, e_runn, e_runr, List.set_cons_zero, List.set_cons_succ, List.map_cons, List.map_nil, if_true, Bool.false_eq_true, if_false, Bool.not_true, Bool.not_false, decide_true, decide_false, decide_eq_false h1, Bool.false_and]
      · simp only [b2, consF, consT, lstM, tupM, sliceM, sliceTM, catM, notT, ifO, letρ, bcall, e_bind, e_bindr, e_map, e_mapr, e_onE, e_onr, e_seq, e_seqt, e_seqr, e_of, e_asB, e_asI, e_lstOf, e_listOf, e_noRs, e_getB0, e_getBs, e_getW0, e_getW0k, e_getW0o, e_getWs, e_getK0, e_getK0k, e_getKs, e_frz0, e_frzs, e_both, e_either, e_bothT, e_eitherT, e_add, e_sub, e_lt, e_le, e_gt, e_ge, e_intF, e_neg, e_lenL, e_lenT, e_max, e_unfl0, e_unfl1, e_small0, e_small1, e_small2, e_small3, e_small4, e_small5, e_small8, e_runt, e_runn, e_runr, List.set_cons_zero, List.set_cons_succ, List.map_cons, List.map_nil, if_true, Bool.false_eq_true, if_false, Bool.not_true, Bool.not_false, decide_true, decide_false, if_neg hb]
    · simp only [b2, consF, consT, lstM, tupM, sliceM, sliceTM, catM, notT, ifO, letρ, bcall, e_bind, e_bindr, e_map, e_mapr, e_onE, e_onr, e_seq, e_seqt, e_seqr, e_of, e_asB, e_asI, e_lstOf, e_listOf, e_noRs, e_getB0, e_getBs, e_getW0, e_getW0k, e_getW0o, e_getWs, e_getK0, e_getK0k, e_getKs, e_frz0, e_frzs, e_both, e_either, e_bothT, e_eitherT, e_add, e_sub, e_lt, e_le, e_gt, e_ge, e_intF, e_neg, e_lenL, e_lenT, e_max, e_unfl0, e_unfl1, e_small0, e_small1, e_small2, e_small3, e_small4, e_small5, e_small8, e_runt, e_runn, e_runr, List.set_cons_zero, List.set_cons_succ, List.map_cons, List.map_nil, if_true, Bool.false_eq_true, if_false, Bool.not_true, Bool.not_false, decide_true, decide_false, if_pos hk, if_neg hp]
  · simp only [b2, consF, consT, lstM, tupM, sliceM, sliceTM, catM, notT, ifO, letρ, bcall, e_bind, e_bindr, e_map, e_mapr, e_onE, e_onr, e_seq, e_seqt, e_seqr, e_of, e_asB, e_asI, e_lstOf, e_listOf, e_noRs, e_getB0, e_getBs, e_getW0, e_getW0k, e_getW0o, e_getWs, e_getK0, e_getK0k, e_getKs, e_frz0, e_frzs, e_both, e_either, e_bothT, e_eitherT, e_add, e_sub, e_lt, e_le, e_gt, e_ge, e_intF, e_neg, e_lenL, e_lenT, e_max, e_unfl0, e_unfl1, e_small0, e_small1, e_small2, e_small3, e_small4, e_small5, e_small8, e_runt, e_runn, e_runr, List.set_cons_zero, List.set_cons_succ, List.map_cons, List.map_nil, if_true, Bool.false_eq_true, if_false, Bool.not_true, Bool.not_false, decide_true, decide_false, if_neg hk]
end K03


set_option Elab.async false
set_option linter.all false
set_option maxRecDepth 100000
set_option maxHeartbeats 2000000
namespace K03
open PySem L2 RB
theorem backwards_ok {p : Pt} (h : p.Ok) : m_Log_backwards [logD p] = .ok (logD p.back) := by
  have st : start0 4 (false :: fl_Log_backwards) [logD p] = [.dat (logD p), .un, .un, .un] := rfl
  unfold m_Log_backwards
  rw [st]
  unfold m_Log_backwards_b
  have lc : lcM (.many [2, 3]) [2, 3] (fun ρ => (R.ok true)) (fun ρ => (tupM (consF (getB ρ 2) (consF (((getB ρ 3)).bind (getKD [("rises", "falls"), ("falls", "rises"), ("stays", "stays")])) (R.ok []))))) [.dat (logD p), .un, .un, .un] (jL p.judges) = .ok (jL p.back.judges) := by
    rw [show jL p.back.judges = p.judges.map fun q => jD (q.1, turnS q.2) by unfold jL Pt.back; rw [List.map_map]; rfl]
    refine lc_all jD _ _ (by have := h.jn2; omega) fun q hq => ⟨[.dat (logD p), .un, .dat (.str q.1), .dat (.str q.2)], rfl, ?_⟩
    have kd : getKD [("rises", "falls"), ("falls", "rises"), ("stays", "stays")] (.str q.2) = .ok (.str (turnS q.2)) := turn_kd (h.jnR q hq)
    simp only [b2, consF, consT, lstM, tupM, sliceM, sliceTM, catM, notT, ifO, letρ, bcall, e_bind, e_bindr, e_map, e_mapr, e_onE, e_onr, e_seq, e_seqt, e_seqr, e_of, e_asB, e_asI, e_lstOf, e_listOf, e_noRs, e_getB0, e_getBs, e_getW0, e_getW0k, e_getW0o, e_getWs, e_getK0, e_getK0k, e_getKs, e_frz0, e_frzs, e_both, e_either, e_bothT, e_eitherT, e_add, e_sub, e_lt, e_le, e_gt, e_ge, e_intF, e_neg, e_lenL, e_lenT, e_max, e_unfl0, e_unfl1, e_small0, e_small1, e_small2, e_small3, e_small4, e_small5, e_small8, e_runt, e_runn, e_runr, List.set_cons_zero, List.set_cons_succ, List.map_cons, List.map_nil, if_true, Bool.false_eq_true, if_false, Bool.not_true, Bool.not_false, decide_true, decide_false, kd]
    rfl
  have cl : callMk "Log" fl_Log___init__ m_Log___init__ [(true, .list (strL p.items)), (false, .int p.grades), (true, .list (jL p.back.judges)), (true, .list (evL p.events.reverse))] = .ok (logD p.back) := by
    show (m_Log___init__ [.list (strL p.back.items), .int p.back.grades, .list (jL p.back.judges), .list (evL p.back.events)]).map (insD "Log") = _
    rw [init_log h.back]
    rfl
  have rv : (evL p.events).reverse = evL p.events.reverse := by
    show (List.map _ _).reverse = List.map _ _
    rw [List.map_reverse]
  simp only [b2, consF, consT, lstM, tupM, sliceM, sliceTM, catM, notT, ifO, letρ, bcall, e_bind, e_bindr, e_map, e_mapr, e_onE, e_onr, e_seq, e_seqt, e_seqr, e_of, e_asB, e_asI, e_lstOf, e_listOf, e_noRs, e_getB0, e_getBs, e_getW0, e_getW0k, e_getW0o, e_getWs, e_getK0, e_getK0k, e_getKs, e_frz0, e_frzs, e_both, e_either, e_bothT, e_eitherT, e_add, e_sub, e_lt, e_le, e_gt, e_ge, e_intF, e_neg, e_lenL, e_lenT, e_max, e_unfl0, e_unfl1, e_small0, e_small1, e_small2, e_small3, e_small4, e_small5, e_small8, e_runt, e_runn, e_runr, List.set_cons_zero, List.set_cons_succ, List.map_cons, List.map_nil, if_true, Bool.false_eq_true, if_false, Bool.not_true, Bool.not_false, decide_true, decide_false, fld_judges, fld_items, fld_grades, fld_events, revM, rv]
  simp only [b2, consF, consT, lstM, tupM, sliceM, sliceTM, catM, notT, ifO, letρ, bcall, e_bind, e_bindr, e_map, e_mapr, e_onE, e_onr, e_seq, e_seqt, e_seqr, e_of, e_asB, e_asI, e_lstOf, e_listOf, e_noRs, e_getB0, e_getBs, e_getW0, e_getW0k, e_getW0o, e_getWs, e_getK0, e_getK0k, e_getKs, e_frz0, e_frzs, e_both, e_either, e_bothT, e_eitherT, e_add, e_sub, e_lt, e_le, e_gt, e_ge, e_intF, e_neg, e_lenL, e_lenT, e_max, e_unfl0, e_unfl1, e_small0, e_small1, e_small2, e_small3, e_small4, e_small5, e_small8, e_runt, e_runn, e_runr, List.set_cons_zero, List.set_cons_succ, List.map_cons, List.map_nil, if_true, Bool.false_eq_true, if_false, Bool.not_true, Bool.not_false, decide_true, decide_false] at lc
  simp only [b2, consF, consT, lstM, tupM, sliceM, sliceTM, catM, notT, ifO, letρ, bcall, e_bind, e_bindr, e_map, e_mapr, e_onE, e_onr, e_seq, e_seqt, e_seqr, e_of, e_asB, e_asI, e_lstOf, e_listOf, e_noRs, e_getB0, e_getBs, e_getW0, e_getW0k, e_getW0o, e_getWs, e_getK0, e_getK0k, e_getKs, e_frz0, e_frzs, e_both, e_either, e_bothT, e_eitherT, e_add, e_sub, e_lt, e_le, e_gt, e_ge, e_intF, e_neg, e_lenL, e_lenT, e_max, e_unfl0, e_unfl1, e_small0, e_small1, e_small2, e_small3, e_small4, e_small5, e_small8, e_runt, e_runn, e_runr, List.set_cons_zero, List.set_cons_succ, List.map_cons, List.map_nil, if_true, Bool.false_eq_true, if_false, Bool.not_true, Bool.not_false, decide_true, decide_false, lc, fld_judges, fld_items, fld_grades, fld_events, revM, rv, cl]
theorem pd2 (p : Pt) : ixD p.d (.int 2) = .ok (.list (jL p.judges)) := rfl
theorem pd3 (p : Pt) : ixD p.d (.int 3) = .ok (.list (evL p.events)) := rfl
theorem law_drift_ok {p : Pt} (h : p.Ok) {j d : Str} (hd : p.judges.lookup j = some d) : m_law_drift [p.d, .str j] = .ok (.str d) := by
  have st : start0 4 fl__law_drift [p.d, .str j] = [.dat p.d, .dat (.str j), .un, .un] := rfl
  unfold m_law_drift
  rw [st]
  unfold m_law_drift_b
  have hj : sOk j := nms_ok h (List.mem_map.mpr ⟨_, look_in hd, rfl⟩)
  obtain ⟨r, hr⟩ := filter_look hd
  have lc : lcM (.many [2, 3]) [2, 3] (fun ρ => ((b2 eqD (getW ρ 2) (getW ρ 1)).bind asB)) (fun ρ => (getB ρ 3)) [.dat p.d, .dat (.str j), .un, .un] (jL p.judges) = .ok (.str d :: r.map fun q => .str q.2) := by
    rw [lc_map jD (fun q => decide (q.1 = j)) (fun q => .str q.2) p.judges (by have := h.jn2; omega) (fun q hq => ?_) fun q _ _ => rfl, hr]
    · rfl
    · show ((b2 eqD (getW [.dat p.d, .dat (.str j), .dat (.str q.1), .dat (.str q.2)] 2) (getW [.dat p.d, .dat (.str j), .dat (.str q.1), .dat (.str q.2)] 1)).bind asB) = _
      simp only [b2, consF, consT, lstM, tupM, sliceM, sliceTM, catM, notT, ifO, letρ, bcall, e_bind, e_bindr, e_map, e_mapr, e_onE, e_onr, e_seq, e_seqt, e_seqr, e_of, e_asB, e_asI, e_lstOf, e_listOf, e_noRs, e_getB0, e_getBs, e_getW0, e_getW0k, e_getW0o, e_getWs, e_getK0, e_getK0k, e_getKs, e_frz0, e_frzs, e_both, e_either, e_bothT, e_eitherT, e_add, e_sub, e_lt, e_le, e_gt, e_ge, e_intF, e_neg, e_lenL, e_lenT, e_max, e_unfl0, e_unfl1, e_small0, e_small1, e_small2, e_small3, e_small4, e_small5, e_small8, e_runt, e_runn, e_runr, List.set_cons_zero, List.set_cons_succ, List.map_cons, List.map_nil, if_true, Bool.false_eq_true, if_false, Bool.not_true, Bool.not_false, decide_true, decide_false, e_eqS (nm_ok (h.jnN q hq)) hj]
  have i0 : ixD (.list (.str d :: r.map fun q => .str q.2)) (.int 0) = .ok (.str d) := ixD_list (k := 0) rfl
  simp only [b2, consF, consT, lstM, tupM, sliceM, sliceTM, catM, notT, ifO, letρ, bcall, e_bind, e_bindr, e_map, e_mapr, e_onE, e_onr, e_seq, e_seqt, e_seqr, e_of, e_asB, e_asI, e_lstOf, e_listOf, e_noRs, e_getB0, e_getBs, e_getW0, e_getW0k, e_getW0o, e_getWs, e_getK0, e_getK0k, e_getKs, e_frz0, e_frzs, e_both, e_either, e_bothT, e_eitherT, e_add, e_sub, e_lt, e_le, e_gt, e_ge, e_intF, e_neg, e_lenL, e_lenT, e_max, e_unfl0, e_unfl1, e_small0, e_small1, e_small2, e_small3, e_small4, e_small5, e_small8, e_runt, e_runn, e_runr, List.set_cons_zero, List.set_cons_succ, List.map_cons, List.map_nil, if_true, Bool.false_eq_true, if_false, Bool.not_true, Bool.not_false, decide_true, decide_false, pd2]
  simp only [b2, consF, consT, lstM, tupM, sliceM, sliceTM, catM, notT, ifO, letρ, bcall, e_bind, e_bindr, e_map, e_mapr, e_onE, e_onr, e_seq, e_seqt, e_seqr, e_of, e_asB, e_asI, e_lstOf, e_listOf, e_noRs, e_getB0, e_getBs, e_getW0, e_getW0k, e_getW0o, e_getWs, e_getK0, e_getK0k, e_getKs, e_frz0, e_frzs, e_both, e_either, e_bothT, e_eitherT, e_add, e_sub, e_lt, e_le, e_gt, e_ge, e_intF, e_neg, e_lenL, e_lenT, e_max, e_unfl0, e_unfl1, e_small0, e_small1, e_small2, e_small3, e_small4, e_small5, e_small8, e_runt, e_runn, e_runr, List.set_cons_zero, List.set_cons_succ, List.map_cons, List.map_nil, if_true, Bool.false_eq_true, if_false, Bool.not_true, Bool.not_false, decide_true, decide_false] at lc
  simp only [b2, consF, consT, lstM, tupM, sliceM, sliceTM, catM, notT, ifO, letρ, bcall, e_bind, e_bindr, e_map, e_mapr, e_onE, e_onr, e_seq, e_seqt, e_seqr, e_of, e_asB, e_asI, e_lstOf, e_listOf, e_noRs, e_getB0, e_getBs, e_getW0, e_getW0k, e_getW0o, e_getWs, e_getK0, e_getK0k, e_getKs, e_frz0, e_frzs, e_both, e_either, e_bothT, e_eitherT, e_add, e_sub, e_lt, e_le, e_gt, e_ge, e_intF, e_neg, e_lenL, e_lenT, e_max, e_unfl0, e_unfl1, e_small0, e_small1, e_small2, e_small3, e_small4, e_small5, e_small8, e_runt, e_runn, e_runr, List.set_cons_zero, List.set_cons_succ, List.map_cons, List.map_nil, if_true, Bool.false_eq_true, if_false, Bool.not_true, Bool.not_false, decide_true, decide_false, lc, i0]
theorem law_stretch_ok {p : Pt} (h : p.Ok) {j : Str} (hj : sOk j) (k : Nat) (hk : k ≤ p.events.length) : m_law_stretch_at [p.d, .str j, .int (k : Int)] = .ok (.list (natL (lawS p.events j k p.events.length))) := by
  have st : start0 7 fl__law_stretch_at [p.d, .str j, .int (k : Int)] = [.dat p.d, .dat (.str j), .dat (.int (k : Int)), .un, .un, .un, .un] := rfl
  unfold m_law_stretch_at
  rw [st]
  unfold m_law_stretch_at_b
  have en := h.en
  obtain ⟨ρ', h1, x4, x5, x6, h2⟩ := forO_rule (t := .one 4) (body := b1__law_stretch_at) (ds := rangeD 0 p.events.length) (ρ := [.dat p.d, .dat (.str j), .dat (.int (k : Int)), .own [], .un, .un, .un])
    (fun i ρ => ∃ x4 x5 x6, ρ = [.dat p.d, .dat (.str j), .dat (.int (k : Int)), .own (natL (lawS p.events j k i)), x4, x5, x6]) ⟨_, _, _, rfl⟩ (by
      rintro t d ρ hd ⟨x4, x5, x6, rfl⟩
      obtain ⟨rfl, ht⟩ := range_at hd
      rw [Int.zero_add]
      refine ⟨[.dat p.d, .dat (.str j), .dat (.int (k : Int)), .own (natL (lawS p.events j k t)), .dat (.int (t : Int)), x5, x6], ?_⟩
      have sl : (setUnl [5, 6] (.list [.int ((min t k : Nat) : Int), .int ((max t k : Nat) : Int)]) [.dat p.d, .dat (.str j), .dat (.int (k : Int)), .own (natL (lawS p.events j k t)), .dat (.int (t : Int)), x5, x6]) =
        some [.dat p.d, .dat (.str j), .dat (.int (k : Int)), .own (natL (lawS p.events j k t)), .dat (.int (t : Int)), .dat (.int ((min t k : Nat) : Int)), .dat (.int ((max t k : Nat) : Int))] := rfl
      have e1 := e_eq2 (kind_ok (evA p.events t)) (evA_ok h.evs ht) ok_answer hj
      have cm := cut_mid (es := p.events) (a := min t k) (b := max t k) (by omega) (by omega)
      have ni := e_inEv true (e := .res j) (es := (p.events.take (max t k)).drop (min t k)) hj (fun e he => h.evs e (List.mem_of_mem_take (List.mem_of_mem_drop he)))
      have ni : inD true (.tuple [.str "reset", .str j]) (.list (evL ((p.events.take (max t k)).drop (min t k)))) = .ok (.bool (!decide (.res j ∈ (p.events.take (max t k)).drop (min t k)))) := ni
      have sr : lawS p.events j k (t + 1) = if lawC p.events j k t = true then lawS p.events j k t ++ [t] else lawS p.events j k t := by
        unfold lawS
        rw [List.range_succ, List.filter_append]
        by_cases hc : lawC p.events j k t = true
        · rw [if_pos hc, List.filter_cons, if_pos hc]
          rfl
        · rw [if_neg hc, List.filter_cons, if_neg hc]
          exact List.append_nil _
      have ap : appE [.dat p.d, .dat (.str j), .dat (.int (k : Int)), .own (natL (lawS p.events j k t)), .dat (.int (t : Int)), .dat (.int ((min t k : Nat) : Int)), .dat (.int ((max t k : Nat) : Int))] 3 (.ok (.int (t : Int))) =
        some (.nx [.dat p.d, .dat (.str j), .dat (.int (k : Int)), .own (natL (lawS p.events j k t ++ [t])), .dat (.int (t : Int)), .dat (.int ((min t k : Nat) : Int)), .dat (.int ((max t k : Nat) : Int))]) := by
        rw [appE_ok (ds := natL (lawS p.events j k t)) rfl (by
          rw [natL_len]
          have := List.length_filter_le (lawC p.events j k) (List.range t)
          rw [List.length_range] at this
          show (lawS p.events j k t).length < _
          unfold lawS
          omega)]
        simp [natL]
      unfold b1__law_stretch_at
      rw [sr]
      simp only [b2, consF, consT, lstM, tupM, sliceM, sliceTM, catM, notT, ifO, letρ, bcall, e_bind, e_bindr, e_map, e_mapr, e_onE, e_onr, e_seq, e_seqt, e_seqr, e_of, e_asB, e_asI, e_lstOf, e_listOf, e_noRs, e_getB0, e_getBs, e_getW0, e_getW0k, e_getW0o, e_getWs, e_getK0, e_getK0k, e_getKs, e_frz0, e_frzs, e_both, e_either, e_bothT, e_eitherT, e_add, e_sub, e_lt, e_le, e_gt, e_ge, e_intF, e_neg, e_lenL, e_lenT, e_max, e_unfl0, e_unfl1, e_small0, e_small1, e_small2, e_small3, e_small4, e_small5, e_small8, e_runt, e_runn, e_runr, List.set_cons_zero, List.set_cons_succ, List.map_cons, List.map_nil, if_true, Bool.false_eq_true, if_false, Bool.not_true, Bool.not_false, decide_true, decide_false, sortedM, sort_two, sl, Option.map_some, pd3, ix_ev ht, cut_ev, e1, kind_eq]
      have lc : lawC p.events j k t = ((evA p.events t).isA && decide ((evA p.events t).j = j) && decide (.res j ∉ (p.events.take (max t k)).drop (min t k))) := rfl
      by_cases hA : ((evA p.events t).isA && decide ((evA p.events t).j = j)) = true
      · rw [hA] at lc
        by_cases hB : .res j ∈ (p.events.take (max t k)).drop (min t k)
        · rw [decide_eq_false (fun z => z hB)] at lc
          simp only [b2, consF, consT, lstM, tupM, sliceM, sliceTM, catM, notT, ifO, letρ, bcall, e_bind, e_bindr, e_map, e_mapr, e_onE, e_onr, e_seq, e_seqt, e_seqr, e_of, e_asB, e_asI, e_lstOf, e_listOf, e_noRs, e_getB0, e_getBs, e_getW0, e_getW0k, e_getW0o, e_getWs, e_getK0, e_getK0k, e_getKs, e_frz0, e_frzs, e_both, e_either, e_bothT, e_eitherT, e_add, e_sub, e_lt, e_le, e_gt, e_ge, e_intF, e_neg, e_lenL, e_lenT, e_max, e_unfl0, e_unfl1, e_small0, e_small1, e_small2, e_small3, e_small4, e_small5, e_small8, e_runt, e_runn, e_runr, List.set_cons_zero, List.set_cons_succ, List.map_cons, List.map_nil, if_true, Bool.false_eq_true, if_false, Bool.not_true, Bool.not_false, decide_true, decide_false, hA, cm, ni, decide_eq_true hB, lc, Bool.true_and]
          exact ⟨_, rfl, .inl rfl, _, _, _, rfl⟩
        · rw [decide_eq_true hB] at lc
          simp only [b2, consF, consT, lstM, tupM, sliceM, sliceTM, catM, notT, ifO, letρ, bcall, e_bind, e_bindr, e_map, e_mapr, e_onE, e_onr, e_seq, e_seqt, e_seqr, e_of, e_asB, e_asI, e_lstOf, e_listOf, e_noRs, e_getB0, e_getBs, e_getW0, e_getW0k, e_getW0o, e_getWs, e_getK0, e_getK0k, e_getKs, e_frz0, e_frzs, e_both, e_either, e_bothT, e_eitherT, e_add, e_sub, e_lt, e_le, e_gt, e_ge, e_intF, e_neg, e_lenL, e_lenT, e_max, e_unfl0, e_unfl1, e_small0, e_small1, e_small2, e_small3, e_small4, e_small5, e_small8, e_runt, e_runn, e_runr, List.set_cons_zero, List.set_cons_succ, List.map_cons, List.map_nil, if_true, Bool.false_eq_true, if_false, Bool.not_true, Bool.not_false, decide_true, decide_false, hA, cm, ni, decide_eq_false hB, lc, Bool.true_and, ap]
          exact ⟨_, rfl, .inl rfl, _, _, _, rfl⟩
      · rw [Bool.not_eq_true] at hA
        rw [hA] at lc
        simp only [b2, consF, consT, lstM, tupM, sliceM, sliceTM, catM, notT, ifO, letρ, bcall, e_bind, e_bindr, e_map, e_mapr, e_onE, e_onr, e_seq, e_seqt, e_seqr, e_of, e_asB, e_asI, e_lstOf, e_listOf, e_noRs, e_getB0, e_getBs, e_getW0, e_getW0k, e_getW0o, e_getWs, e_getK0, e_getK0k, e_getKs, e_frz0, e_frzs, e_both, e_either, e_bothT, e_eitherT, e_add, e_sub, e_lt, e_le, e_gt, e_ge, e_intF, e_neg, e_lenL, e_lenT, e_max, e_unfl0, e_unfl1, e_small0, e_small1, e_small2, e_small3, e_small4, e_small5, e_small8, e_runt, e_runn, e_runr, List.set_cons_zero, List.set_cons_succ, List.map_cons, List.map_nil, if_true, Bool.false_eq_true, if_false, Bool.not_true, Bool.not_false, decide_true, decide_false, hA, lc, Bool.false_and]
        exact ⟨_, rfl, .inl rfl, _, _, _, rfl⟩)
  have hlen : (rangeD 0 p.events.length).length = p.events.length := by simp [rangeD]
  rw [hlen] at h2
  have r1 : rng1 (.int (p.events.length : Int)) = .ok (rangeD 0 p.events.length) := by
    rw [rng1_ok (by omega) (by omega)]
    rfl
  have le : ((evL p.events).length : Int) = (p.events.length : Int) := by simp
  simp only [b2, consF, consT, lstM, tupM, sliceM, sliceTM, catM, notT, ifO, letρ, bcall, e_bind, e_bindr, e_map, e_mapr, e_onE, e_onr, e_seq, e_seqt, e_seqr, e_of, e_asB, e_asI, e_lstOf, e_listOf, e_noRs, e_getB0, e_getBs, e_getW0, e_getW0k, e_getW0o, e_getWs, e_getK0, e_getK0k, e_getKs, e_frz0, e_frzs, e_both, e_either, e_bothT, e_eitherT, e_add, e_sub, e_lt, e_le, e_gt, e_ge, e_intF, e_neg, e_lenL, e_lenT, e_max, e_unfl0, e_unfl1, e_small0, e_small1, e_small2, e_small3, e_small4, e_small5, e_small8, e_runt, e_runn, e_runr, List.set_cons_zero, List.set_cons_succ, List.map_cons, List.map_nil, if_true, Bool.false_eq_true, if_false, Bool.not_true, Bool.not_false, decide_true, decide_false, pd3, le, r1]
  rw [h1, h2]
  simp only [b2, consF, consT, lstM, tupM, sliceM, sliceTM, catM, notT, ifO, letρ, bcall, e_bind, e_bindr, e_map, e_mapr, e_onE, e_onr, e_seq, e_seqt, e_seqr, e_of, e_asB, e_asI, e_lstOf, e_listOf, e_noRs, e_getB0, e_getBs, e_getW0, e_getW0k, e_getW0o, e_getWs, e_getK0, e_getK0k, e_getKs, e_frz0, e_frzs, e_both, e_either, e_bothT, e_eitherT, e_add, e_sub, e_lt, e_le, e_gt, e_ge, e_intF, e_neg, e_lenL, e_lenT, e_max, e_unfl0, e_unfl1, e_small0, e_small1, e_small2, e_small3, e_small4, e_small5, e_small8, e_runt, e_runn, e_runr, List.set_cons_zero, List.set_cons_succ, List.map_cons, List.map_nil, if_true, Bool.false_eq_true, if_false, Bool.not_true, Bool.not_false, decide_true, decide_false]
end K03


set_option Elab.async false
set_option linter.all false
set_option maxRecDepth 100000
set_option maxHeartbeats 2000000
namespace K03
open PySem L2 RB
theorem strB_mem {es : List Ev} {j : Str} {r i : Nat} : i ∈ strB es j r ↔ isAt es i = true ∧ (evA es i).j = j ∧ rct (es.take i) j = r := by
  unfold strB
  rw [List.mem_filter, ansJ_mem, decide_eq_true_eq, and_assoc]
theorem ok_rises : sOk ("rises" : Str) := by decide +kernel
theorem ok_falls : sOk ("falls" : Str) := by decide +kernel
theorem ok_stays : sOk ("stays" : Str) := by decide +kernel
theorem law_in_order_ok {p : Pt} (h : p.Ok) {a b : Nat} (ha : isAt p.events a = true) (hb : isAt p.events b = true) : m_law_in_order [p.d, .int (a : Int), .int (b : Int)] = .ok (.bool (inOrd p a b)) := by
  have st : start0 5 fl__law_in_order [p.d, .int (a : Int), .int (b : Int)] = [.dat p.d, .dat (.int (a : Int)), .dat (.int (b : Int)), .un, .un] := rfl
  unfold m_law_in_order
  rw [st]
  unfold m_law_in_order_b
  have la := isAt_lt ha
  have hj := h.evJ la
  obtain ⟨d, hd, hm⟩ := h.look hj
  have sj := nms_ok h hj
  have c1 : callM fl__law_stretch_at m_law_stretch_at [(false, p.d), (false, .str (evA p.events a).j), (false, .int (a : Int))] = _ := law_stretch_ok h sj a (by omega)
  have c2 : callM fl__law_drift m_law_drift [(false, p.d), (false, .str (evA p.events a).j)] = _ := law_drift_ok h hd
  have df : drf p (evA p.events a).j = d := by unfold drf; rw [hd]; rfl
  have q1 := e_eqS (dr_ok hm) ok_stays
  have q2 := e_eqS (dr_ok hm) ok_rises
  have q3 := e_eqS (dr_ok hm) ok_falls
  unfold inOrd
  rw [df]
  have mem : b ∈ lawS p.events (evA p.events a).j a p.events.length ↔ (evA p.events a).j = (evA p.events b).j ∧ rct (p.events.take a) (evA p.events a).j = rct (p.events.take b) (evA p.events b).j := by
    rw [lawS_mem, strB_mem]
    constructor
    · rintro ⟨_, h1, h2⟩
      exact ⟨h1.symm, by rw [h1]; exact h2.symm⟩
    · rintro ⟨h1, h2⟩
      exact ⟨hb, h1.symm, by rw [h1] at h2 ⊢; exact h2.symm⟩
  simp only [b2, consF, consT, lstM, tupM, sliceM, sliceTM, catM, notT, ifO, letρ, bcall, e_bind, e_bindr, e_map, e_mapr, e_onE, e_onr, e_seq, e_seqt, e_seqr, e_of, e_asB, e_asI, e_lstOf, e_listOf, e_noRs, e_getB0, e_getBs, e_getW0, e_getW0k, e_getW0o, e_getWs, e_getK0, e_getK0k, e_getKs, e_frz0, e_frzs, e_both, e_either, e_bothT, e_eitherT, e_add, e_sub, e_lt, e_le, e_gt, e_ge, e_intF, e_neg, e_lenL, e_lenT, e_max, e_unfl0, e_unfl1, e_small0, e_small1, e_small2, e_small3, e_small4, e_small5, e_small8, e_runt, e_runn, e_runr, List.set_cons_zero, List.set_cons_succ, List.map_cons, List.map_nil, if_true, Bool.false_eq_true, if_false, Bool.not_true, Bool.not_false, decide_true, decide_false, pd3, ix_ev la, ix_ev1, c1, e_inN]
  by_cases hB : b ∈ lawS p.events (evA p.events a).j a p.events.length
  · obtain ⟨m1, m2⟩ := mem.mp hB
    simp only [b2, consF, consT, lstM, tupM, sliceM, sliceTM, catM, notT, ifO, letρ, bcall, e_bind, e_bindr, e_map, e_mapr, e_onE, e_onr, e_seq, e_seqt, e_seqr, e_of, e_asB, e_asI, e_lstOf, e_listOf, e_noRs, e_getB0, e_getBs, e_getW0, e_getW0k, e_getW0o, e_getWs, e_getK0, e_getK0k, e_getKs, e_frz0, e_frzs, e_both, e_either, e_bothT, e_eitherT, e_add, e_sub, e_lt, e_le, e_gt, e_ge, e_intF, e_neg, e_lenL, e_lenT, e_max, e_unfl0, e_unfl1, e_small0, e_small1, e_small2, e_small3, e_small4, e_small5, e_small8, e_runt, e_runn, e_runr, List.set_cons_zero, List.set_cons_succ, List.map_cons, List.map_nil, if_true, Bool.false_eq_true, if_false, Bool.not_true, Bool.not_false, decide_true, decide_false, decide_eq_true hB, c2, q1, q2, q3, decide_eq_true m1, decide_eq_true m2, Bool.true_and]
    clear c1 c2 df q1 q2 q3 hd
    simp only [driftS, List.mem_cons, List.not_mem_nil, or_false] at hm
    unfold orderB
    rcases hm with rfl | rfl | rfl
    · simp only [b2, consF, consT, lstM, tupM, sliceM, sliceTM, catM, notT, ifO, letρ, bcall, e_bind, e_bindr, e_map, e_mapr, e_onE, e_onr, e_seq, e_seqt, e_seqr, e_of, e_asB, e_asI, e_lstOf, e_listOf, e_noRs, e_getB0, e_getBs, e_getW0, e_getW0k, e_getW0o, e_getWs, e_getK0, e_getK0k, e_getKs, e_frz0, e_frzs, e_both, e_either, e_bothT, e_eitherT, e_add, e_sub, e_lt, e_le, e_gt, e_ge, e_intF, e_neg, e_lenL, e_lenT, e_max, e_unfl0, e_unfl1, e_small0, e_small1, e_small2, e_small3, e_small4, e_small5, e_small8, e_runt, e_runn, e_runr, List.set_cons_zero, List.set_cons_succ, List.map_cons, List.map_nil, if_true, Bool.false_eq_true, if_false, Bool.not_true, Bool.not_false, decide_true, decide_false, decide_eq_false (by decide +kernel : ¬ ("rises" : Str) = "stays"), decide_eq_false (by decide +kernel : ¬ ("rises" : Str) = "falls")]
      split <;> rename_i z
      · rw [z]
        rfl
      · rw [Bool.not_eq_true] at z
        rw [z]
        rfl
    · simp only [b2, consF, consT, lstM, tupM, sliceM, sliceTM, catM, notT, ifO, letρ, bcall, e_bind, e_bindr, e_map, e_mapr, e_onE, e_onr, e_seq, e_seqt, e_seqr, e_of, e_asB, e_asI, e_lstOf, e_listOf, e_noRs, e_getB0, e_getBs, e_getW0, e_getW0k, e_getW0o, e_getWs, e_getK0, e_getK0k, e_getKs, e_frz0, e_frzs, e_both, e_either, e_bothT, e_eitherT, e_add, e_sub, e_lt, e_le, e_gt, e_ge, e_intF, e_neg, e_lenL, e_lenT, e_max, e_unfl0, e_unfl1, e_small0, e_small1, e_small2, e_small3, e_small4, e_small5, e_small8, e_runt, e_runn, e_runr, List.set_cons_zero, List.set_cons_succ, List.map_cons, List.map_nil, if_true, Bool.false_eq_true, if_false, Bool.not_true, Bool.not_false, decide_true, decide_false, decide_eq_false (by decide +kernel : ¬ ("falls" : Str) = "stays"), decide_eq_false (by decide +kernel : ¬ ("falls" : Str) = "rises"), if_neg (by decide +kernel : ¬ ("falls" : Str) = "rises")]
    · simp only [b2, consF, consT, lstM, tupM, sliceM, sliceTM, catM, notT, ifO, letρ, bcall, e_bind, e_bindr, e_map, e_mapr, e_onE, e_onr, e_seq, e_seqt, e_seqr, e_of, e_asB, e_asI, e_lstOf, e_listOf, e_noRs, e_getB0, e_getBs, e_getW0, e_getW0k, e_getW0o, e_getWs, e_getK0, e_getK0k, e_getKs, e_frz0, e_frzs, e_both, e_either, e_bothT, e_eitherT, e_add, e_sub, e_lt, e_le, e_gt, e_ge, e_intF, e_neg, e_lenL, e_lenT, e_max, e_unfl0, e_unfl1, e_small0, e_small1, e_small2, e_small3, e_small4, e_small5, e_small8, e_runt, e_runn, e_runr, List.set_cons_zero, List.set_cons_succ, List.map_cons, List.map_nil, if_true, Bool.false_eq_true, if_false, Bool.not_true, Bool.not_false, decide_true, decide_false, if_neg (by decide +kernel : ¬ ("stays" : Str) = "rises"), if_neg (by decide +kernel : ¬ ("stays" : Str) = "falls")]
  · simp only [b2, consF, consT, lstM, tupM, sliceM, sliceTM, catM, notT, ifO, letρ, bcall, e_bind, e_bindr, e_map, e_mapr, e_onE, e_onr, e_seq, e_seqt, e_seqr, e_of, e_asB, e_asI, e_lstOf, e_listOf, e_noRs, e_getB0, e_getBs, e_getW0, e_getW0k, e_getW0o, e_getWs, e_getK0, e_getK0k, e_getKs, e_frz0, e_frzs, e_both, e_either, e_bothT, e_eitherT, e_add, e_sub, e_lt, e_le, e_gt, e_ge, e_intF, e_neg, e_lenL, e_lenT, e_max, e_unfl0, e_unfl1, e_small0, e_small1, e_small2, e_small3, e_small4, e_small5, e_small8, e_runt, e_runn, e_runr, List.set_cons_zero, List.set_cons_succ, List.map_cons, List.map_nil, if_true, Bool.false_eq_true, if_false, Bool.not_true, Bool.not_false, decide_true, decide_false, decide_eq_false hB]
    have : (decide ((evA p.events a).j = (evA p.events b).j) && decide (rct (p.events.take a) (evA p.events a).j = rct (p.events.take b) (evA p.events b).j)) = false := by
      rw [← Bool.decide_and]
      exact decide_eq_false fun z => hB (mem.mpr z)
    rw [← Bool.and_assoc, this, Bool.false_and]
theorem law_is_ok (a b : Bool) : m_law_is [.bool a, .bool b] = .ok (.bool (a == b)) := by
  have st : start0 2 fl__law_is [.bool a, .bool b] = [.dat (.bool a), .dat (.bool b)] := rfl
  unfold m_law_is
  rw [st]
  unfold m_law_is_b
  have i : isBoolD (.bool a) = .ok (.bool true) := rfl
  simp only [b2, consF, consT, lstM, tupM, sliceM, sliceTM, catM, notT, ifO, letρ, bcall, e_bind, e_bindr, e_map, e_mapr, e_onE, e_onr, e_seq, e_seqt, e_seqr, e_of, e_asB, e_asI, e_lstOf, e_listOf, e_noRs, e_getB0, e_getBs, e_getW0, e_getW0k, e_getW0o, e_getWs, e_getK0, e_getK0k, e_getKs, e_frz0, e_frzs, e_both, e_either, e_bothT, e_eitherT, e_add, e_sub, e_lt, e_le, e_gt, e_ge, e_intF, e_neg, e_lenL, e_lenT, e_max, e_unfl0, e_unfl1, e_small0, e_small1, e_small2, e_small3, e_small4, e_small5, e_small8, e_runt, e_runn, e_runr, List.set_cons_zero, List.set_cons_succ, List.map_cons, List.map_nil, if_true, Bool.false_eq_true, if_false, Bool.not_true, Bool.not_false, decide_true, decide_false, i, e_eqB]
theorem law_lost_ok {p : Pt} (h : p.Ok) {j : Str} (hj : j ∈ p.judges.map (·.1)) (i : Nat) (hi : i ≤ p.events.length) {b : Nat} (hb : isAt p.events b = true) (first : Bool) : m_law_lost [p.d, .str j, .int (i : Int), .int (b : Int), .bool first] = .ok (.bool (lostB p first j i b)) := by
  have st : start0 6 fl__law_lost [p.d, .str j, .int (i : Int), .int (b : Int), .bool first] = [.dat p.d, .dat (.str j), .dat (.int (i : Int)), .dat (.int (b : Int)), .dat (.bool first), .un] := rfl
  unfold m_law_lost
  rw [st]
  unfold m_law_lost_b
  obtain ⟨d, hd, hm⟩ := h.look hj
  have sj := nms_ok h hj
  have c1 : callM fl__law_stretch_at m_law_stretch_at [(false, p.d), (false, .str j), (false, .int (i : Int))] = _ := law_stretch_ok h sj i hi
  have c2 : callM fl__law_drift m_law_drift [(false, p.d), (false, .str j)] = _ := law_drift_ok h hd
  have df : drf p j = d := by unfold drf; rw [hd]; rfl
  have q1 := e_eqS (dr_ok hm) ok_stays
  have q2 := e_eqS (dr_ok hm) ok_rises
  unfold lostB
  rw [df]
  simp only [b2, consF, consT, lstM, tupM, sliceM, sliceTM, catM, notT, ifO, letρ, bcall, e_bind, e_bindr, e_map, e_mapr, e_onE, e_onr, e_seq, e_seqt, e_seqr, e_of, e_asB, e_asI, e_lstOf, e_listOf, e_noRs, e_getB0, e_getBs, e_getW0, e_getW0k, e_getW0o, e_getWs, e_getK0, e_getK0k, e_getKs, e_frz0, e_frzs, e_both, e_either, e_bothT, e_eitherT, e_add, e_sub, e_lt, e_le, e_gt, e_ge, e_intF, e_neg, e_lenL, e_lenT, e_max, e_unfl0, e_unfl1, e_small0, e_small1, e_small2, e_small3, e_small4, e_small5, e_small8, e_runt, e_runn, e_runr, List.set_cons_zero, List.set_cons_succ, List.map_cons, List.map_nil, if_true, Bool.false_eq_true, if_false, Bool.not_true, Bool.not_false, decide_true, decide_false, c1, c2, e_inN]
  by_cases hB : b ∈ lawS p.events j i p.events.length
  · simp only [b2, consF, consT, lstM, tupM, sliceM, sliceTM, catM, notT, ifO, letρ, bcall, e_bind, e_bindr, e_map, e_mapr, e_onE, e_onr, e_seq, e_seqt, e_seqr, e_of, e_asB, e_asI, e_lstOf, e_listOf, e_noRs, e_getB0, e_getBs, e_getW0, e_getW0k, e_getW0o, e_getWs, e_getK0, e_getK0k, e_getKs, e_frz0, e_frzs, e_both, e_either, e_bothT, e_eitherT, e_add, e_sub, e_lt, e_le, e_gt, e_ge, e_intF, e_neg, e_lenL, e_lenT, e_max, e_unfl0, e_unfl1, e_small0, e_small1, e_small2, e_small3, e_small4, e_small5, e_small8, e_runt, e_runn, e_runr, List.set_cons_zero, List.set_cons_succ, List.map_cons, List.map_nil, if_true, Bool.false_eq_true, if_false, Bool.not_true, Bool.not_false, decide_true, decide_false, decide_eq_true hB, decide_eq_true (lawS_mem.mp hB), q1, q2, e_eqB, Bool.true_and]
    clear c1 c2 df q1 q2 hd
    simp only [driftS, List.mem_cons, List.not_mem_nil, or_false] at hm
    unfold orderB
    rcases hm with rfl | rfl | rfl
    · simp only [b2, consF, consT, lstM, tupM, sliceM, sliceTM, catM, notT, ifO, letρ, bcall, e_bind, e_bindr, e_map, e_mapr, e_onE, e_onr, e_seq, e_seqt, e_seqr, e_of, e_asB, e_asI, e_lstOf, e_listOf, e_noRs, e_getB0, e_getBs, e_getW0, e_getW0k, e_getW0o, e_getWs, e_getK0, e_getK0k, e_getKs, e_frz0, e_frzs, e_both, e_either, e_bothT, e_eitherT, e_add, e_sub, e_lt, e_le, e_gt, e_ge, e_intF, e_neg, e_lenL, e_lenT, e_max, e_unfl0, e_unfl1, e_small0, e_small1, e_small2, e_small3, e_small4, e_small5, e_small8, e_runt, e_runn, e_runr, List.set_cons_zero, List.set_cons_succ, List.map_cons, List.map_nil, if_true, Bool.false_eq_true, if_false, Bool.not_true, Bool.not_false, decide_true, decide_false, decide_eq_false (by decide +kernel : ¬ ("rises" : Str) = "stays"), if_pos (rfl : ("rises" : Str) = "rises")]
      congr 2
      cases first
      · by_cases z : i ≤ b
        · rw [decide_eq_true (by omega), if_neg (by decide), decide_eq_false (by omega)]; rfl
        · rw [decide_eq_false (by omega), if_neg (by decide), decide_eq_true (by omega)]; rfl
      · by_cases z : i ≤ b
        · rw [decide_eq_true (by omega), if_pos rfl, decide_eq_true (by omega)]; rfl
        · rw [decide_eq_false (by omega), if_pos rfl, decide_eq_false (by omega)]; rfl
    · simp only [b2, consF, consT, lstM, tupM, sliceM, sliceTM, catM, notT, ifO, letρ, bcall, e_bind, e_bindr, e_map, e_mapr, e_onE, e_onr, e_seq, e_seqt, e_seqr, e_of, e_asB, e_asI, e_lstOf, e_listOf, e_noRs, e_getB0, e_getBs, e_getW0, e_getW0k, e_getW0o, e_getWs, e_getK0, e_getK0k, e_getKs, e_frz0, e_frzs, e_both, e_either, e_bothT, e_eitherT, e_add, e_sub, e_lt, e_le, e_gt, e_ge, e_intF, e_neg, e_lenL, e_lenT, e_max, e_unfl0, e_unfl1, e_small0, e_small1, e_small2, e_small3, e_small4, e_small5, e_small8, e_runt, e_runn, e_runr, List.set_cons_zero, List.set_cons_succ, List.map_cons, List.map_nil, if_true, Bool.false_eq_true, if_false, Bool.not_true, Bool.not_false, decide_true, decide_false, decide_eq_false (by decide +kernel : ¬ ("falls" : Str) = "stays"), decide_eq_false (by decide +kernel : ¬ ("falls" : Str) = "rises"), if_neg (by decide +kernel : ¬ ("falls" : Str) = "rises")]
      congr 2
      cases first
      · by_cases z : i ≤ b
        · rw [decide_eq_true (by omega), if_neg (by decide), decide_eq_true (by omega)]; rfl
        · rw [decide_eq_false (by omega), if_neg (by decide), decide_eq_false (by omega)]; rfl
      · by_cases z : i ≤ b
        · rw [decide_eq_true (by omega), if_pos rfl, decide_eq_false (by omega)]; rfl
        · rw [decide_eq_false (by omega), if_pos rfl, decide_eq_true (by omega)]; rfl
    · simp only [b2, consF, consT, lstM, tupM, sliceM, sliceTM, catM, notT, ifO, letρ, bcall, e_bind, e_bindr, e_map, e_mapr, e_onE, e_onr, e_seq, e_seqt, e_seqr, e_of, e_asB, e_asI, e_lstOf, e_listOf, e_noRs, e_getB0, e_getBs, e_getW0, e_getW0k, e_getW0o, e_getWs, e_getK0, e_getK0k, e_getKs, e_frz0, e_frzs, e_both, e_either, e_bothT, e_eitherT, e_add, e_sub, e_lt, e_le, e_gt, e_ge, e_intF, e_neg, e_lenL, e_lenT, e_max, e_unfl0, e_unfl1, e_small0, e_small1, e_small2, e_small3, e_small4, e_small5, e_small8, e_runt, e_runn, e_runr, List.set_cons_zero, List.set_cons_succ, List.map_cons, List.map_nil, if_true, Bool.false_eq_true, if_false, Bool.not_true, Bool.not_false, decide_true, decide_false, if_neg (by decide +kernel : ¬ ("stays" : Str) = "rises"), if_neg (by decide +kernel : ¬ ("stays" : Str) = "falls")]
      cases first <;> rfl
  · simp only [b2, consF, consT, lstM, tupM, sliceM, sliceTM, catM, notT, ifO, letρ, bcall, e_bind, e_bindr, e_map, e_mapr, e_onE, e_onr, e_seq, e_seqt, e_seqr, e_of, e_asB, e_asI, e_lstOf, e_listOf, e_noRs, e_getB0, e_getBs, e_getW0, e_getW0k, e_getW0o, e_getWs, e_getK0, e_getK0k, e_getKs, e_frz0, e_frzs, e_both, e_either, e_bothT, e_eitherT, e_add, e_sub, e_lt, e_le, e_gt, e_ge, e_intF, e_neg, e_lenL, e_lenT, e_max, e_unfl0, e_unfl1, e_small0, e_small1, e_small2, e_small3, e_small4, e_small5, e_small8, e_runt, e_runn, e_runr, List.set_cons_zero, List.set_cons_succ, List.map_cons, List.map_nil, if_true, Bool.false_eq_true, if_false, Bool.not_true, Bool.not_false, decide_true, decide_false, decide_eq_false hB, decide_eq_false (fun z => hB (lawS_mem.mpr z)), Bool.false_and]
theorem err_P {i : Int} {ρ : List B} (hρ : ρ.length = 6) : runO (tryAllO 5 (some (.rs (eP i) ρ)) [("InvalidPlace", true, h1__law_error), ("UnknownJudge", true, h2__law_error)]) = .ok (.int i) := by
  obtain ⟨r0, r1, r2, r3, r4, r5, rfl⟩ : ∃ r0 r1 r2 r3 r4 r5, ρ = [r0, r1, r2, r3, r4, r5] := by
    match ρ, hρ with
    | [r0, r1, r2, r3, r4, r5], _ => exact ⟨_, _, _, _, _, _, rfl⟩
  rfl
theorem err_J {j : Str} {ρ : List B} (hρ : ρ.length = 6) : runO (tryAllO 5 (some (.rs (eJ j) ρ)) [("InvalidPlace", true, h1__law_error), ("UnknownJudge", true, h2__law_error)]) = .ok (.str j) := by
  obtain ⟨r0, r1, r2, r3, r4, r5, rfl⟩ : ∃ r0 r1 r2 r3 r4 r5, ρ = [r0, r1, r2, r3, r4, r5] := by
    match ρ, hρ with
    | [r0, r1, r2, r3, r4, r5], _ => exact ⟨_, _, _, _, _, _, rfl⟩
  rfl
theorem error_0 {p : Pt} {j : Str} {a b i : Int} (hm : m_Log_in_order [logD p, .int a, .int b] = .rs (eP i)) : m_law_error [logD p, .int 0, .str j, .int a, .int b] = .ok (.int i) := by
  have st : start0 6 fl__law_error [logD p, .int 0, .str j, .int a, .int b] = [.dat (logD p), .dat (.int 0), .dat (.str j), .dat (.int a), .dat (.int b), .un] := rfl
  unfold m_law_error
  rw [st]
  unfold m_law_error_b
  have i1 := ins_log p "in_order" (by rfl)
  have c1 : callM (false :: fl_Log_in_order) m_Log_in_order [(false, logD p), (false, .int a), (false, .int b)] = _ := hm
  simp only [b2, consF, consT, lstM, tupM, sliceM, sliceTM, catM, notT, ifO, letρ, bcall, e_bind, e_bindr, e_map, e_mapr, e_onE, e_onr, e_seq, e_seqt, e_seqr, e_of, e_asB, e_asI, e_lstOf, e_listOf, e_noRs, e_getB0, e_getBs, e_getW0, e_getW0k, e_getW0o, e_getWs, e_getK0, e_getK0k, e_getKs, e_frz0, e_frzs, e_both, e_either, e_bothT, e_eitherT, e_add, e_sub, e_lt, e_le, e_gt, e_ge, e_intF, e_neg, e_lenL, e_lenT, e_max, e_unfl0, e_unfl1, e_small0, e_small1, e_small2, e_small3, e_small4, e_small5, e_small8, e_runt, e_runn, e_runr, List.set_cons_zero, List.set_cons_succ, List.map_cons, List.map_nil, if_true, Bool.false_eq_true, if_false, Bool.not_true, Bool.not_false, decide_true, decide_false, e_eqI, methM, i1, c1]
  exact err_P rfl
theorem error_1 {p : Pt} {j : Str} {a b : Int} {x : Exn} (hm : m_Log_lost_first [logD p, .str j, .int a, .int b] = .rs x) : m_law_error [logD p, .int 1, .str j, .int a, .int b] = runO (tryAllO 5 (some (.rs x [.dat (logD p), .dat (.int 1), .dat (.str j), .dat (.int a), .dat (.int b), .un])) [("InvalidPlace", true, h1__law_error), ("UnknownJudge", true, h2__law_error)]) := by
  have st : start0 6 fl__law_error [logD p, .int 1, .str j, .int a, .int b] = [.dat (logD p), .dat (.int 1), .dat (.str j), .dat (.int a), .dat (.int b), .un] := rfl
  unfold m_law_error
  rw [st]
  unfold m_law_error_b
  have i1 := ins_log p "lost_first" (by rfl)
  have c1 : callM (false :: fl_Log_lost_first) m_Log_lost_first [(false, logD p), (false, .str j), (false, .int a), (false, .int b)] = _ := hm
  simp only [b2, consF, consT, lstM, tupM, sliceM, sliceTM, catM, notT, ifO, letρ, bcall, e_bind, e_bindr, e_map, e_mapr, e_onE, e_onr, e_seq, e_seqt, e_seqr, e_of, e_asB, e_asI, e_lstOf, e_listOf, e_noRs, e_getB0, e_getBs, e_getW0, e_getW0k, e_getW0o, e_getWs, e_getK0, e_getK0k, e_getKs, e_frz0, e_frzs, e_both, e_either, e_bothT, e_eitherT, e_add, e_sub, e_lt, e_le, e_gt, e_ge, e_intF, e_neg, e_lenL, e_lenT, e_max, e_unfl0, e_unfl1, e_small0, e_small1, e_small2, e_small3, e_small4, e_small5, e_small8, e_runt, e_runn, e_runr, List.set_cons_zero, List.set_cons_succ, List.map_cons, List.map_nil, if_true, Bool.false_eq_true, if_false, Bool.not_true, Bool.not_false, decide_true, decide_false, e_eqI, decide_eq_false (by decide : ¬ (1 : Int) = 0), methM, i1, c1]
theorem error_2 {p : Pt} {j : Str} {a b : Int} {x : Exn} (hm : m_Log_lost_second [logD p, .str j, .int a, .int b] = .rs x) : m_law_error [logD p, .int 2, .str j, .int a, .int b] = runO (tryAllO 5 (some (.rs x [.dat (logD p), .dat (.int 2), .dat (.str j), .dat (.int a), .dat (.int b), .un])) [("InvalidPlace", true, h1__law_error), ("UnknownJudge", true, h2__law_error)]) := by
  have st : start0 6 fl__law_error [logD p, .int 2, .str j, .int a, .int b] = [.dat (logD p), .dat (.int 2), .dat (.str j), .dat (.int a), .dat (.int b), .un] := rfl
  unfold m_law_error
  rw [st]
  unfold m_law_error_b
  have i1 := ins_log p "lost_second" (by rfl)
  have c1 : callM (false :: fl_Log_lost_second) m_Log_lost_second [(false, logD p), (false, .str j), (false, .int a), (false, .int b)] = _ := hm
  simp only [b2, consF, consT, lstM, tupM, sliceM, sliceTM, catM, notT, ifO, letρ, bcall, e_bind, e_bindr, e_map, e_mapr, e_onE, e_onr, e_seq, e_seqt, e_seqr, e_of, e_asB, e_asI, e_lstOf, e_listOf, e_noRs, e_getB0, e_getBs, e_getW0, e_getW0k, e_getW0o, e_getWs, e_getK0, e_getK0k, e_getKs, e_frz0, e_frzs, e_both, e_either, e_bothT, e_eitherT, e_add, e_sub, e_lt, e_le, e_gt, e_ge, e_intF, e_neg, e_lenL, e_lenT, e_max, e_unfl0, e_unfl1, e_small0, e_small1, e_small2, e_small3, e_small4, e_small5, e_small8, e_runt, e_runn, e_runr, List.set_cons_zero, List.set_cons_succ, List.map_cons, List.map_nil, if_true, Bool.false_eq_true, if_false, Bool.not_true, Bool.not_false, decide_true, decide_false, e_eqI, decide_eq_false (by decide : ¬ (2 : Int) = 0), decide_eq_false (by decide : ¬ (2 : Int) = 1), methM, i1, c1]
/-- of both kinds: what the law asks -/
theorem error_J {p : Pt} (h : p.Ok) {k : Int} (hk : k = 1 ∨ k = 2) {j : Str} (hj : sOk j) (hn : p.judges.lookup j = none) {a b : Int} (ha : a < 1000000) (hb : b < 1000000) : m_law_error [logD p, .int k, .str j, .int a, .int b] = .ok (.str j) := by
  rcases hk with rfl | rfl
  · rw [error_1 ((lost_first_ok h hj a b ha hb).trans (by rw [hn]; exact if_neg (by decide)))]
    exact err_J rfl
  · rw [error_2 ((lost_second_ok h hj a b ha hb).trans (by rw [hn]; exact if_neg (by decide)))]
    exact err_J rfl
theorem error_P {p : Pt} (h : p.Ok) {k : Int} (hk : k = 1 ∨ k = 2) {j : Str} (hj : j ∈ p.judges.map (·.1)) {a b : Int} (ha : a < 1000000) (hb : b < 1000000) (hn : ¬ (0 ≤ a ∧ a ≤ (p.events.length : Int))) : m_law_error [logD p, .int k, .str j, .int a, .int b] = .ok (.int a) := by
  obtain ⟨d, hd, _⟩ := h.look hj
  have ks : (p.judges.lookup j).isSome = true := by rw [hd]; rfl
  rcases hk with rfl | rfl
  · rw [error_1 ((lost_first_ok h (nms_ok h hj) a b ha hb).trans (by rw [if_pos ks, if_neg hn]))]
    exact err_P rfl
  · rw [error_2 ((lost_second_ok h (nms_ok h hj) a b ha hb).trans (by rw [if_pos ks, if_neg hn]))]
    exact err_P rfl
theorem error_Q {p : Pt} (h : p.Ok) {k : Int} (hk : k = 1 ∨ k = 2) {j : Str} (hj : j ∈ p.judges.map (·.1)) {a b : Int} (ha : a < 1000000) (hb : b < 1000000) (hn : 0 ≤ a ∧ a ≤ (p.events.length : Int)) (hz : ¬ isAns p.events b = true) : m_law_error [logD p, .int k, .str j, .int a, .int b] = .ok (.int b) := by
  obtain ⟨d, hd, _⟩ := h.look hj
  have ks : (p.judges.lookup j).isSome = true := by rw [hd]; rfl
  rcases hk with rfl | rfl
  · rw [error_1 ((lost_first_ok h (nms_ok h hj) a b ha hb).trans (by rw [if_pos ks, if_pos hn, if_neg hz]))]
    exact err_P rfl
  · rw [error_2 ((lost_second_ok h (nms_ok h hj) a b ha hb).trans (by rw [if_pos ks, if_pos hn, if_neg hz]))]
    exact err_P rfl
end K03


set_option Elab.async false
set_option linter.all false
set_option maxRecDepth 100000
set_option maxHeartbeats 2000000
namespace K03
open PySem L2 RB
theorem isAns_of {es : List Ev} {k : Nat} (h : isAt es k = true) : isAns es (k : Int) = true := by
  unfold isAns
  rw [show ((k : Int)).toNat = k from rfl, h, decide_eq_true (by omega)]
  rfl
theorem b1_ok {s nu x10 x11 x12 x13 x14 x15 x16 : B} {p : Pt} (h : p.Ok) {a b : Nat} (ha : isAt p.events a = true) (hb : isAt p.events b = true) :
    b1_law [s, nu, .dat p.d, .dat (logD p), .dat (.list (evL p.events)), .dat (.int (p.events.length : Int)), .dat (.list (natL (ansN p.events))), .dat (logD p.back), .dat (.int (a : Int)), .dat (.int (b : Int)), x10, x11, x12, x13, x14, x15, x16] =
      some (.nx [s, nu, .dat p.d, .dat (logD p), .dat (.list (evL p.events)), .dat (.int (p.events.length : Int)), .dat (.list (natL (ansN p.events))), .dat (logD p.back), .dat (.int (a : Int)), .dat (.int (b : Int)), .dat (.bool (inOrd p a b)), x11, x12, x13, x14, x15, x16]) := by
  have la := isAt_lt ha
  have lb := isAt_lt hb
  have i1 := ins_log p "in_order" (by rfl)
  have i2 := ins_log p.back "in_order" (by rfl)
  have c1 : callM fl__law_in_order m_law_in_order [(false, p.d), (false, .int (a : Int)), (false, .int (b : Int))] = _ := law_in_order_ok h ha hb
  have c2 : callM (false :: fl_Log_in_order) m_Log_in_order [(false, logD p), (false, .int (a : Int)), (false, .int (b : Int))] = .ok (.bool (inOrd p a b)) := by
    refine (in_order_ok h (a : Int) (b : Int)).trans ?_
    rw [if_pos (isAns_of ha), if_pos (isAns_of hb)]
    rfl
  have c3 : callM (false :: fl_Log_in_order) m_Log_in_order [(false, logD p.back), (false, .int ((p.events.length : Int) - 1 - (a : Int))), (false, .int ((p.events.length : Int) - 1 - (b : Int)))] = .ok (.bool (inOrd p a b)) := by
    rw [show (p.events.length : Int) - 1 - (a : Int) = ((p.events.length - 1 - a : Nat) : Int) by omega, show (p.events.length : Int) - 1 - (b : Int) = ((p.events.length - 1 - b : Nat) : Int) by omega]
    refine (in_order_ok h.back _ _).trans ?_
    have hA : isAns p.back.events ((p.events.length - 1 - a : Nat) : Int) = true := isAns_of (isAt_rev ha)
    have hB : isAns p.back.events ((p.events.length - 1 - b : Nat) : Int) = true := isAns_of (isAt_rev hb)
    rw [if_pos hA, if_pos hB]
    rw [show ((p.events.length - 1 - a : Nat) : Int).toNat = p.events.length - 1 - a from rfl, show ((p.events.length - 1 - b : Nat) : Int).toNat = p.events.length - 1 - b from rfl, inOrd_back h ha hb]
  have c4 : callM fl__law_is m_law_is [(false, .bool (inOrd p a b)), (false, .bool (inOrd p a b))] = .ok (.bool true) := by
    refine (law_is_ok _ _).trans ?_
    rw [beq_self_eq_true]
  unfold b1_law
  simp only [b2, consF, consT, lstM, tupM, sliceM, sliceTM, catM, notT, ifO, letρ, bcall, e_bind, e_bindr, e_map, e_mapr, e_onE, e_onr, e_seq, e_seqt, e_seqr, e_of, e_asB, e_asI, e_lstOf, e_listOf, e_noRs, e_getB0, e_getBs, e_getW0, e_getW0k, e_getW0o, e_getWs, e_getK0, e_getK0k, e_getKs, e_frz0, e_frzs, e_both, e_either, e_bothT, e_eitherT, e_add, e_sub, e_lt, e_le, e_gt, e_ge, e_intF, e_neg, e_lenL, e_lenT, e_max, e_unfl0, e_unfl1, e_small0, e_small1, e_small2, e_small3, e_small4, e_small5, e_small8, e_runt, e_runn, e_runr, List.set_cons_zero, List.set_cons_succ, List.map_cons, List.map_nil, if_true, Bool.false_eq_true, if_false, Bool.not_true, Bool.not_false, decide_true, decide_false, c1, methM, i1, c2, i2, c3, c4]
theorem nat_at {ns : List Nat} {i : Nat} {d : D} (h : (natL ns)[i]? = some d) : ∃ k ∈ ns, d = .int (k : Int) := by
  rw [List.getElem?_map] at h
  obtain ⟨k, hk, rfl⟩ := Option.map_eq_some_iff.mp h
  exact ⟨k, List.mem_of_getElem? hk, rfl⟩
theorem b2_ok {s nu x9 x10 x11 x12 x13 x14 x15 x16 : B} {p : Pt} (h : p.Ok) {a : Nat} (ha : isAt p.events a = true) :
    ∃ x9' x10', b2_law [s, nu, .dat p.d, .dat (logD p), .dat (.list (evL p.events)), .dat (.int (p.events.length : Int)), .dat (.list (natL (ansN p.events))), .dat (logD p.back), .dat (.int (a : Int)), x9, x10, x11, x12, x13, x14, x15, x16] =
      some (.nx [s, nu, .dat p.d, .dat (logD p), .dat (.list (evL p.events)), .dat (.int (p.events.length : Int)), .dat (.list (natL (ansN p.events))), .dat (logD p.back), .dat (.int (a : Int)), x9', x10', x11, x12, x13, x14, x15, x16]) := by
  obtain ⟨ρ', h1, y9, y10, h2⟩ := forO_rule (t := .one 9) (body := b1_law) (ds := natL (ansN p.events)) (ρ := [s, nu, .dat p.d, .dat (logD p), .dat (.list (evL p.events)), .dat (.int (p.events.length : Int)), .dat (.list (natL (ansN p.events))), .dat (logD p.back), .dat (.int (a : Int)), x9, x10, x11, x12, x13, x14, x15, x16])
    (fun i ρ => ∃ x9 x10, ρ = [s, nu, .dat p.d, .dat (logD p), .dat (.list (evL p.events)), .dat (.int (p.events.length : Int)), .dat (.list (natL (ansN p.events))), .dat (logD p.back), .dat (.int (a : Int)), x9, x10, x11, x12, x13, x14, x15, x16]) ⟨_, _, rfl⟩ (by
      rintro i d ρ hd ⟨x9, x10, rfl⟩
      obtain ⟨b, hb, rfl⟩ := nat_at hd
      exact ⟨_, _, rfl, .inl (b1_ok h ha (mem_ansN.mp hb)), _, _, rfl⟩)
  refine ⟨y9, y10, ?_⟩
  unfold b2_law
  simp only [b2, consF, consT, lstM, tupM, sliceM, sliceTM, catM, notT, ifO, letρ, bcall, e_bind, e_bindr, e_map, e_mapr, e_onE, e_onr, e_seq, e_seqt, e_seqr, e_of, e_asB, e_asI, e_lstOf, e_listOf, e_noRs, e_getB0, e_getBs, e_getW0, e_getW0k, e_getW0o, e_getWs, e_getK0, e_getK0k, e_getKs, e_frz0, e_frzs, e_both, e_either, e_bothT, e_eitherT, e_add, e_sub, e_lt, e_le, e_gt, e_ge, e_intF, e_neg, e_lenL, e_lenT, e_max, e_unfl0, e_unfl1, e_small0, e_small1, e_small2, e_small3, e_small4, e_small5, e_small8, e_runt, e_runn, e_runr, List.set_cons_zero, List.set_cons_succ, List.map_cons, List.map_nil, if_true, Bool.false_eq_true, if_false, Bool.not_true, Bool.not_false, decide_true, decide_false]
  rw [h1, h2]
theorem b3_ok {s nu x8 x9 x10 x12 x15 x16 : B} {p : Pt} (h : p.Ok) (hs : p.events.length < 1000) {j : Str} (hj : j ∈ p.judges.map (·.1)) {i : Nat} (hi : i ≤ p.events.length) {b : Nat} (hb : isAt p.events b = true) :
    b3_law [s, nu, .dat p.d, .dat (logD p), .dat (.list (evL p.events)), .dat (.int (p.events.length : Int)), .dat (.list (natL (ansN p.events))), .dat (logD p.back), x8, x9, x10, .dat (.str j), x12, .dat (.int (i : Int)), .dat (.int (b : Int)), x15, x16] =
      some (.nx [s, nu, .dat p.d, .dat (logD p), .dat (.list (evL p.events)), .dat (.int (p.events.length : Int)), .dat (.list (natL (ansN p.events))), .dat (logD p.back), x8, x9, x10, .dat (.str j), x12, .dat (.int (i : Int)), .dat (.int (b : Int)), x15, x16]) := by
  have lb := isAt_lt hb
  obtain ⟨d, hd, _⟩ := h.look hj
  have ks : (p.judges.lookup j).isSome = true := by rw [hd]; rfl
  have i1 := ins_log p "lost_first" (by rfl)
  have i2 := ins_log p "lost_second" (by rfl)
  have c1 : callM (false :: fl_Log_lost_first) m_Log_lost_first [(false, logD p), (false, .str j), (false, .int (i : Int)), (false, .int (b : Int))] = .ok (.bool (lostB p true j i b)) := by
    refine (lost_first_ok h (nms_ok h hj) (i : Int) (b : Int) (by omega) (by omega)).trans ?_
    rw [if_pos ks, if_pos ⟨by omega, by omega⟩, if_pos (isAns_of hb)]
    rfl
  have c2 : callM (false :: fl_Log_lost_second) m_Log_lost_second [(false, logD p), (false, .str j), (false, .int (i : Int)), (false, .int (b : Int))] = .ok (.bool (lostB p false j i b)) := by
    refine (lost_second_ok h (nms_ok h hj) (i : Int) (b : Int) (by omega) (by omega)).trans ?_
    rw [if_pos ks, if_pos ⟨by omega, by omega⟩, if_pos (isAns_of hb)]
    rfl
  have c3 : ∀ f : Bool, callM fl__law_lost m_law_lost [(false, p.d), (false, .str j), (false, .int (i : Int)), (false, .int (b : Int)), (false, .bool f)] = .ok (.bool (lostB p f j i b)) := fun f => law_lost_ok h hj i hi hb f
  have c4 : ∀ x : Bool, callM fl__law_is m_law_is [(false, .bool x), (false, .bool x)] = .ok (.bool true) := fun x => by
    refine (law_is_ok _ _).trans ?_
    rw [beq_self_eq_true]
  unfold b3_law
  simp only [b2, consF, consT, lstM, tupM, sliceM, sliceTM, catM, notT, ifO, letρ, bcall, e_bind, e_bindr, e_map, e_mapr, e_onE, e_onr, e_seq, e_seqt, e_seqr, e_of, e_asB, e_asI, e_lstOf, e_listOf, e_noRs, e_getB0, e_getBs, e_getW0, e_getW0k, e_getW0o, e_getWs, e_getK0, e_getK0k, e_getKs, e_frz0, e_frzs, e_both, e_either, e_bothT, e_eitherT, e_add, e_sub, e_lt, e_le, e_gt, e_ge, e_intF, e_neg, e_lenL, e_lenT, e_max, e_unfl0, e_unfl1, e_small0, e_small1, e_small2, e_small3, e_small4, e_small5, e_small8, e_runt, e_runn, e_runr, List.set_cons_zero, List.set_cons_succ, List.map_cons, List.map_nil, if_true, Bool.false_eq_true, if_false, Bool.not_true, Bool.not_false, decide_true, decide_false, methM, i1, i2, c1, c2, c3, c4]
theorem b4_ok {s nu x8 x9 x10 x12 x14 x15 x16 : B} {p : Pt} (h : p.Ok) (hs : p.events.length < 1000) {j : Str} (hj : j ∈ p.judges.map (·.1)) {i : Nat} (hi : i ≤ p.events.length) :
    ∃ x14', b4_law [s, nu, .dat p.d, .dat (logD p), .dat (.list (evL p.events)), .dat (.int (p.events.length : Int)), .dat (.list (natL (ansN p.events))), .dat (logD p.back), x8, x9, x10, .dat (.str j), x12, .dat (.int (i : Int)), x14, x15, x16] =
      some (.nx [s, nu, .dat p.d, .dat (logD p), .dat (.list (evL p.events)), .dat (.int (p.events.length : Int)), .dat (.list (natL (ansN p.events))), .dat (logD p.back), x8, x9, x10, .dat (.str j), x12, .dat (.int (i : Int)), x14', x15, x16]) := by
  obtain ⟨ρ', h1, y, h2⟩ := forO_rule (t := .one 14) (body := b3_law) (ds := natL (ansN p.events)) (ρ := [s, nu, .dat p.d, .dat (logD p), .dat (.list (evL p.events)), .dat (.int (p.events.length : Int)), .dat (.list (natL (ansN p.events))), .dat (logD p.back), x8, x9, x10, .dat (.str j), x12, .dat (.int (i : Int)), x14, x15, x16])
    (fun _ ρ => ∃ x14, ρ = [s, nu, .dat p.d, .dat (logD p), .dat (.list (evL p.events)), .dat (.int (p.events.length : Int)), .dat (.list (natL (ansN p.events))), .dat (logD p.back), x8, x9, x10, .dat (.str j), x12, .dat (.int (i : Int)), x14, x15, x16]) ⟨_, rfl⟩ (by
      rintro _ d ρ hd ⟨x, rfl⟩
      obtain ⟨b, hb, rfl⟩ := nat_at hd
      exact ⟨_, _, rfl, .inl (b3_ok h hs hj hi (mem_ansN.mp hb)), _, rfl⟩)
  refine ⟨y, ?_⟩
  unfold b4_law
  simp only [b2, consF, consT, lstM, tupM, sliceM, sliceTM, catM, notT, ifO, letρ, bcall, e_bind, e_bindr, e_map, e_mapr, e_onE, e_onr, e_seq, e_seqt, e_seqr, e_of, e_asB, e_asI, e_lstOf, e_listOf, e_noRs, e_getB0, e_getBs, e_getW0, e_getW0k, e_getW0o, e_getWs, e_getK0, e_getK0k, e_getKs, e_frz0, e_frzs, e_both, e_either, e_bothT, e_eitherT, e_add, e_sub, e_lt, e_le, e_gt, e_ge, e_intF, e_neg, e_lenL, e_lenT, e_max, e_unfl0, e_unfl1, e_small0, e_small1, e_small2, e_small3, e_small4, e_small5, e_small8, e_runt, e_runn, e_runr, List.set_cons_zero, List.set_cons_succ, List.map_cons, List.map_nil, if_true, Bool.false_eq_true, if_false, Bool.not_true, Bool.not_false, decide_true, decide_false]
  rw [h1, h2]
theorem b5_ok {s nu x8 x9 x10 x12 x13 x14 x15 x16 : B} {p : Pt} (h : p.Ok) (hs : p.events.length < 1000) {j : Str} (hj : j ∈ p.judges.map (·.1)) :
    ∃ x13' x14', b5_law [s, nu, .dat p.d, .dat (logD p), .dat (.list (evL p.events)), .dat (.int (p.events.length : Int)), .dat (.list (natL (ansN p.events))), .dat (logD p.back), x8, x9, x10, .dat (.str j), x12, x13, x14, x15, x16] =
      some (.nx [s, nu, .dat p.d, .dat (logD p), .dat (.list (evL p.events)), .dat (.int (p.events.length : Int)), .dat (.list (natL (ansN p.events))), .dat (logD p.back), x8, x9, x10, .dat (.str j), x12, x13', x14', x15, x16]) := by
  have r1 : rng1 (.int ((p.events.length : Int) + 1)) = .ok (rangeD 0 (p.events.length + 1)) := by
    rw [rng1_ok (by omega) (by omega)]
    rfl
  obtain ⟨ρ', h1, y, z, h2⟩ := forO_rule (t := .one 13) (body := b4_law) (ds := rangeD 0 (p.events.length + 1)) (ρ := [s, nu, .dat p.d, .dat (logD p), .dat (.list (evL p.events)), .dat (.int (p.events.length : Int)), .dat (.list (natL (ansN p.events))), .dat (logD p.back), x8, x9, x10, .dat (.str j), x12, x13, x14, x15, x16])
    (fun _ ρ => ∃ x13 x14, ρ = [s, nu, .dat p.d, .dat (logD p), .dat (.list (evL p.events)), .dat (.int (p.events.length : Int)), .dat (.list (natL (ansN p.events))), .dat (logD p.back), x8, x9, x10, .dat (.str j), x12, x13, x14, x15, x16]) ⟨_, _, rfl⟩ (by
      rintro _ d ρ hd ⟨x, x', rfl⟩
      obtain ⟨rfl, hi⟩ := range_at hd
      rw [Int.zero_add]
      obtain ⟨x14', e⟩ := b4_ok (s := s) (nu := nu) (x8 := x8) (x9 := x9) (x10 := x10) (x12 := x12) (x14 := x') (x15 := x15) (x16 := x16) h hs hj (Nat.le_of_lt_succ hi)
      exact ⟨_, _, rfl, .inl e, _, _, rfl⟩)
  refine ⟨y, z, ?_⟩
  unfold b5_law
  simp only [b2, consF, consT, lstM, tupM, sliceM, sliceTM, catM, notT, ifO, letρ, bcall, e_bind, e_bindr, e_map, e_mapr, e_onE, e_onr, e_seq, e_seqt, e_seqr, e_of, e_asB, e_asI, e_lstOf, e_listOf, e_noRs, e_getB0, e_getBs, e_getW0, e_getW0k, e_getW0o, e_getWs, e_getK0, e_getK0k, e_getKs, e_frz0, e_frzs, e_both, e_either, e_bothT, e_eitherT, e_add, e_sub, e_lt, e_le, e_gt, e_ge, e_intF, e_neg, e_lenL, e_lenT, e_max, e_unfl0, e_unfl1, e_small0, e_small1, e_small2, e_small3, e_small4, e_small5, e_small8, e_runt, e_runn, e_runr, List.set_cons_zero, List.set_cons_succ, List.map_cons, List.map_nil, if_true, Bool.false_eq_true, if_false, Bool.not_true, Bool.not_false, decide_true, decide_false, r1]
  rw [h1, h2]
theorem no_ans {p : Pt} : ¬ isAns p.events (p.events.length : Int) = true := fun z => by
  obtain ⟨k, e, hk⟩ := isAns_nat z
  have := isAt_lt hk
  omega
theorem neg_ans {es : List Ev} {i : Int} (h : i < 0) : ¬ isAns es i = true := fun z => by
  obtain ⟨k, e, hk⟩ := isAns_nat z
  omega
theorem ok_nobody : sOk ("nobody" : Str) := by decide +kernel
theorem b6_ok {s nu x8 x9 x10 x12 x13 x14 x16 : B} {p : Pt} (h : p.Ok) (hs : p.events.length < 1000) {j : Str} (hj : j ∈ p.judges.map (·.1)) (hn : p.judges.lookup ("nobody" : Str) = none) {k : Int} (hk : k = 1 ∨ k = 2) :
    b6_law [s, nu, .dat p.d, .dat (logD p), .dat (.list (evL p.events)), .dat (.int (p.events.length : Int)), .dat (.list (natL (ansN p.events))), .dat (logD p.back), x8, x9, x10, .dat (.str j), x12, x13, x14, .dat (.int k), x16] =
      some (.nx [s, nu, .dat p.d, .dat (logD p), .dat (.list (evL p.events)), .dat (.int (p.events.length : Int)), .dat (.list (natL (ansN p.events))), .dat (logD p.back), x8, x9, x10, .dat (.str j), x12, x13, x14, .dat (.int k), x16]) := by
  have e1 : callM fl__law_error m_law_error [(false, logD p), (false, .int k), (false, .str "nobody"), (false, .int (-1)), (false, .int (-1))] = .ok (.str "nobody") := error_J h hk ok_nobody hn (by decide) (by decide)
  have e2 : callM fl__law_error m_law_error [(false, logD p), (false, .int k), (false, .str j), (false, .int (-1)), (false, .int (p.events.length : Int))] = .ok (.int (-1)) := error_P h hk hj (by decide) (by omega) (by omega)
  have e3 : callM fl__law_error m_law_error [(false, logD p), (false, .int k), (false, .str j), (false, .int ((p.events.length : Int) + 1)), (false, .int (-2))] = .ok (.int ((p.events.length : Int) + 1)) := error_P h hk hj (by omega) (by decide) (by omega)
  have e4 : callM fl__law_error m_law_error [(false, logD p), (false, .int k), (false, .str j), (false, .int 0), (false, .int (p.events.length : Int))] = .ok (.int (p.events.length : Int)) := error_Q h hk hj (by decide) (by omega) (by omega) no_ans
  unfold b6_law
  simp only [b2, consF, consT, lstM, tupM, sliceM, sliceTM, catM, notT, ifO, letρ, bcall, e_bind, e_bindr, e_map, e_mapr, e_onE, e_onr, e_seq, e_seqt, e_seqr, e_of, e_asB, e_asI, e_lstOf, e_listOf, e_noRs, e_getB0, e_getBs, e_getW0, e_getW0k, e_getW0o, e_getWs, e_getK0, e_getK0k, e_getKs, e_frz0, e_frzs, e_both, e_either, e_bothT, e_eitherT, e_add, e_sub, e_lt, e_le, e_gt, e_ge, e_intF, e_neg, e_lenL, e_lenT, e_max, e_unfl0, e_unfl1, e_small0, e_small1, e_small2, e_small3, e_small4, e_small5, e_small8, e_runt, e_runn, e_runr, List.set_cons_zero, List.set_cons_succ, List.map_cons, List.map_nil, if_true, Bool.false_eq_true, if_false, Bool.not_true, Bool.not_false, decide_true, decide_false, e1, e2, e3, e4, e_neS ok_nobody ok_nobody, e_neI]
theorem law_ok {p : Pt} (h : p.Ok) (hs : p.events.length < 100) (hn : p.judges.lookup ("nobody" : Str) = none) {s : List Int} {nums : List Int} (c1 : m_law_numbers [.list (intL s), .int 60] = .ok (.list (intL nums))) (c2 : m_law_parts [.list (intL nums), .int 0, .int 5, .int 12] = .ok p.d) : m_law [.list (intL s)] = .ok (.bool true) := by
  have st : start0 17 fl_law [.list (intL s)] = [.wk (intL s), .un, .un, .un, .un, .un, .un, .un, .un, .un, .un, .un, .un, .un, .un, .un, .un] := rfl
  unfold m_law
  rw [st]
  unfold m_law_b
  have c1' : callM fl__law_numbers m_law_numbers [(true, .list (intL s)), (false, .int 60)] = _ := c1
  have c2' : callM fl__law_parts m_law_parts [(false, .list (intL nums)), (false, .int 0), (false, .int 5), (false, .int 12)] = _ := c2
  have c3 : callM fl__law_log m_law_log [(false, p.d)] = _ := law_log_ok h
  have le : ((evL p.events).length : Int) = (p.events.length : Int) := by simp
  have r1 : rng1 (.int (p.events.length : Int)) = .ok (rangeD 0 p.events.length) := by
    rw [rng1_ok (by omega) (by omega)]
    rfl
  have i1 := ins_log p "backwards" (by rfl)
  have c4 := backwards_ok h
  have rg : rangeD 0 p.events.length = natL (List.range p.events.length) := by
    unfold rangeD natL
    exact List.map_congr_left fun i _ => by rw [Int.zero_add]
  have lcA : ∀ ρ : List B, ρ.length = 17 → ρ[4]? = some (.dat (.list (evL p.events))) → ∀ w : Str, sOk w → (w = "answer" ∨ w = "reset") → lcM (.one 14) [14] (fun ρ => ((b2 eqD (b2 ixD (b2 ixD (getW ρ 4) (getB ρ 14)) (R.ok (.int 0))) (R.ok (.str w))).bind asB)) (fun ρ => (getB ρ 14)) ρ (natL (List.range p.events.length)) =
      .ok (natL ((List.range p.events.length).filter fun i => if w = "answer" then isAt p.events i else !isAt p.events i)) := by
    intro ρ hl h4 w hw ww
    obtain ⟨r0, r1, r2, r3, r4, r5, r6, r7, r8, r9, r10, r11, r12, r13, r14, r15, r16, rfl⟩ : ∃ r0 r1 r2 r3 r4 r5 r6 r7 r8 r9 r10 r11 r12 r13 r14 r15 r16, ρ = [r0, r1, r2, r3, r4, r5, r6, r7, r8, r9, r10, r11, r12, r13, r14, r15, r16] := by
      match ρ, hl with
      | [r0, r1, r2, r3, r4, r5, r6, r7, r8, r9, r10, r11, r12, r13, r14, r15, r16], _ => exact ⟨_, _, _, _, _, _, _, _, _, _, _, _, _, _, _, _, _, rfl⟩
    obtain rfl : r4 = .dat (.list (evL p.events)) := Option.some.inj h4
    refine lc_map (fun (i : Nat) => .int (i : Int)) (fun i => if w = "answer" then isAt p.events i else !isAt p.events i) (fun (i : Nat) => .int (i : Int)) _ (by rw [List.length_range]; omega) (fun i hi => ?_) fun i _ _ => rfl
    have hl := List.mem_range.mp hi
    show ((b2 eqD (b2 ixD (b2 ixD (getW [r0, r1, r2, r3, .dat (.list (evL p.events)), r5, r6, r7, r8, r9, r10, r11, r12, r13, .dat (.int (i : Int)), r15, r16] 4) (getB [r0, r1, r2, r3, .dat (.list (evL p.events)), r5, r6, r7, r8, r9, r10, r11, r12, r13, .dat (.int (i : Int)), r15, r16] 14)) (R.ok (.int 0))) (R.ok (.str w))).bind asB) = _
    rcases ww with rfl | rfl
    · simp only [b2, consF, consT, lstM, tupM, sliceM, sliceTM, catM, notT, ifO, letρ, bcall, e_bind, e_bindr, e_map, e_mapr, e_onE, e_onr, e_seq, e_seqt, e_seqr, e_of, e_asB, e_asI, e_lstOf, e_listOf, e_noRs, e_getB0, e_getBs, e_getW0, e_getW0k, e_getW0o, e_getWs, e_getK0, e_getK0k, e_getKs, e_frz0, e_frzs, e_both, e_either, e_bothT, e_eitherT, e_add, e_sub, e_lt, e_le, e_gt, e_ge, e_intF, e_neg, e_lenL, e_lenT, e_max, e_unfl0, e_unfl1, e_small0, e_small1, e_small2, e_small3, e_small4, e_small5, e_small8, e_runt, e_runn, e_runr, List.set_cons_zero, List.set_cons_succ, List.map_cons, List.map_nil, if_true, Bool.false_eq_true, if_false, Bool.not_true, Bool.not_false, decide_true, decide_false, ix_ev hl, ix_ev0, kind_A]
      rfl
    · simp only [b2, consF, consT, lstM, tupM, sliceM, sliceTM, catM, notT, ifO, letρ, bcall, e_bind, e_bindr, e_map, e_mapr, e_onE, e_onr, e_seq, e_seqt, e_seqr, e_of, e_asB, e_asI, e_lstOf, e_listOf, e_noRs, e_getB0, e_getBs, e_getW0, e_getW0k, e_getW0o, e_getWs, e_getK0, e_getK0k, e_getKs, e_frz0, e_frzs, e_both, e_either, e_bothT, e_eitherT, e_add, e_sub, e_lt, e_le, e_gt, e_ge, e_intF, e_neg, e_lenL, e_lenT, e_max, e_unfl0, e_unfl1, e_small0, e_small1, e_small2, e_small3, e_small4, e_small5, e_small8, e_runt, e_runn, e_runr, List.set_cons_zero, List.set_cons_succ, List.map_cons, List.map_nil, if_true, Bool.false_eq_true, if_false, Bool.not_true, Bool.not_false, decide_true, decide_false, ix_ev hl, ix_ev0, kind_R]
      first
        | rfl
        | (rw [if_neg (by decide +kernel)]; rfl)
  have lc1 := lcA [.wk (intL s), .dat (.list (intL nums)), .dat p.d, .dat (logD p), .dat (.list (evL p.events)), .dat (.int (p.events.length : Int)), .un, .un, .un, .un, .un, .un, .un, .un, .un, .un, .un] rfl rfl "answer" ok_answer (.inl rfl)
  have an : ((List.range p.events.length).filter fun i => if ("answer" : Str) = "answer" then isAt p.events i else !isAt p.events i) = ansN p.events := by
    unfold ansN
    exact List.filter_congr fun i _ => if_pos rfl
  rw [an] at lc1
  simp only [b2, consF, consT, lstM, tupM, sliceM, sliceTM, catM, notT, ifO, letρ, bcall, e_bind, e_bindr, e_map, e_mapr, e_onE, e_onr, e_seq, e_seqt, e_seqr, e_of, e_asB, e_asI, e_lstOf, e_listOf, e_noRs, e_getB0, e_getBs, e_getW0, e_getW0k, e_getW0o, e_getWs, e_getK0, e_getK0k, e_getKs, e_frz0, e_frzs, e_both, e_either, e_bothT, e_eitherT, e_add, e_sub, e_lt, e_le, e_gt, e_ge, e_intF, e_neg, e_lenL, e_lenT, e_max, e_unfl0, e_unfl1, e_small0, e_small1, e_small2, e_small3, e_small4, e_small5, e_small8, e_runt, e_runn, e_runr, List.set_cons_zero, List.set_cons_succ, List.map_cons, List.map_nil, if_true, Bool.false_eq_true, if_false, Bool.not_true, Bool.not_false, decide_true, decide_false, c1', c2', c3, pd3, le, r1, rg]
  simp only [b2, consF, consT, lstM, tupM, sliceM, sliceTM, catM, notT, ifO, letρ, bcall, e_bind, e_bindr, e_map, e_mapr, e_onE, e_onr, e_seq, e_seqt, e_seqr, e_of, e_asB, e_asI, e_lstOf, e_listOf, e_noRs, e_getB0, e_getBs, e_getW0, e_getW0k, e_getW0o, e_getWs, e_getK0, e_getK0k, e_getKs, e_frz0, e_frzs, e_both, e_either, e_bothT, e_eitherT, e_add, e_sub, e_lt, e_le, e_gt, e_ge, e_intF, e_neg, e_lenL, e_lenT, e_max, e_unfl0, e_unfl1, e_small0, e_small1, e_small2, e_small3, e_small4, e_small5, e_small8, e_runt, e_runn, e_runr, List.set_cons_zero, List.set_cons_succ, List.map_cons, List.map_nil, if_true, Bool.false_eq_true, if_false, Bool.not_true, Bool.not_false, decide_true, decide_false] at lc1
  simp only [b2, consF, consT, lstM, tupM, sliceM, sliceTM, catM, notT, ifO, letρ, bcall, e_bind, e_bindr, e_map, e_mapr, e_onE, e_onr, e_seq, e_seqt, e_seqr, e_of, e_asB, e_asI, e_lstOf, e_listOf, e_noRs, e_getB0, e_getBs, e_getW0, e_getW0k, e_getW0o, e_getWs, e_getK0, e_getK0k, e_getKs, e_frz0, e_frzs, e_both, e_either, e_bothT, e_eitherT, e_add, e_sub, e_lt, e_le, e_gt, e_ge, e_intF, e_neg, e_lenL, e_lenT, e_max, e_unfl0, e_unfl1, e_small0, e_small1, e_small2, e_small3, e_small4, e_small5, e_small8, e_runt, e_runn, e_runr, List.set_cons_zero, List.set_cons_succ, List.map_cons, List.map_nil, if_true, Bool.false_eq_true, if_false, Bool.not_true, Bool.not_false, decide_true, decide_false, lc1, methM0, i1, c4]
  obtain ⟨ρ8, l8, x8, x9, x10, e8⟩ := forO_rule (t := .one 8) (body := b2_law) (ds := natL (ansN p.events)) (ρ := [.wk (intL s), .dat (.list (intL nums)), .dat p.d, .dat (logD p), .dat (.list (evL p.events)), .dat (.int (p.events.length : Int)), .dat (.list (natL (ansN p.events))), .dat (logD p.back), .un, .un, .un, .un, .un, .un, .un, .un, .un])
    (fun _ ρ => ∃ x8 x9 x10, ρ = [.wk (intL s), .dat (.list (intL nums)), .dat p.d, .dat (logD p), .dat (.list (evL p.events)), .dat (.int (p.events.length : Int)), .dat (.list (natL (ansN p.events))), .dat (logD p.back), x8, x9, x10, .un, .un, .un, .un, .un, .un]) ⟨_, _, _, rfl⟩ (by
      rintro _ d ρ hd ⟨x8, x9, x10, rfl⟩
      obtain ⟨a, ha, rfl⟩ := nat_at hd
      obtain ⟨x9', x10', e⟩ := b2_ok (s := .wk (intL s)) (nu := .dat (.list (intL nums))) (x9 := x9) (x10 := x10) (x11 := .un) (x12 := .un) (x13 := .un) (x14 := .un) (x15 := .un) (x16 := .un) h (mem_ansN.mp ha)
      exact ⟨_, _, rfl, .inl e, _, _, _, rfl⟩)
  rw [l8, e8]
  simp only [b2, consF, consT, lstM, tupM, sliceM, sliceTM, catM, notT, ifO, letρ, bcall, e_bind, e_bindr, e_map, e_mapr, e_onE, e_onr, e_seq, e_seqt, e_seqr, e_of, e_asB, e_asI, e_lstOf, e_listOf, e_noRs, e_getB0, e_getBs, e_getW0, e_getW0k, e_getW0o, e_getWs, e_getK0, e_getK0k, e_getKs, e_frz0, e_frzs, e_both, e_either, e_bothT, e_eitherT, e_add, e_sub, e_lt, e_le, e_gt, e_ge, e_intF, e_neg, e_lenL, e_lenT, e_max, e_unfl0, e_unfl1, e_small0, e_small1, e_small2, e_small3, e_small4, e_small5, e_small8, e_runt, e_runn, e_runr, List.set_cons_zero, List.set_cons_succ, List.map_cons, List.map_nil, if_true, Bool.false_eq_true, if_false, Bool.not_true, Bool.not_false, decide_true, decide_false, pd2]
  obtain ⟨ρ11, l11, x11, x12, x13, x14, e11⟩ := forO_rule (t := .many [11, 12]) (body := b5_law) (ds := jL p.judges) (ρ := [.wk (intL s), .dat (.list (intL nums)), .dat p.d, .dat (logD p), .dat (.list (evL p.events)), .dat (.int (p.events.length : Int)), .dat (.list (natL (ansN p.events))), .dat (logD p.back), x8, x9, x10, .un, .un, .un, .un, .un, .un])
    (fun _ ρ => ∃ x11 x12 x13 x14, ρ = [.wk (intL s), .dat (.list (intL nums)), .dat p.d, .dat (logD p), .dat (.list (evL p.events)), .dat (.int (p.events.length : Int)), .dat (.list (natL (ansN p.events))), .dat (logD p.back), x8, x9, x10, x11, x12, x13, x14, .un, .un]) ⟨_, _, _, _, rfl⟩ (by
      rintro _ d ρ hd ⟨x11, x12, x13, x14, rfl⟩
      rw [List.getElem?_map] at hd
      obtain ⟨q, hq, rfl⟩ := Option.map_eq_some_iff.mp hd
      obtain ⟨x13', x14', e⟩ := b5_ok (s := .wk (intL s)) (nu := .dat (.list (intL nums))) (x8 := x8) (x9 := x9) (x10 := x10) (x12 := .dat (.str q.2)) (x13 := x13) (x14 := x14) (x15 := .un) (x16 := .un) h (by omega) (List.mem_map.mpr ⟨q, List.mem_of_getElem? hq, rfl⟩ : q.1 ∈ p.judges.map (·.1))
      exact ⟨_, _, rfl, .inl e, _, _, _, _, rfl⟩)
  rw [l11, e11]
  obtain ⟨q0, hq0, hj0⟩ : ∃ q0 : Str × Str, (jL p.judges)[0]? = some (jD q0) ∧ q0.1 ∈ p.judges.map (·.1) := by
    cases e : p.judges with
    | nil => exact absurd e h.jn1
    | cons q r => exact ⟨q, rfl, List.mem_cons_self⟩
  have i20 : ixD (.list (jL p.judges)) (.int 0) = .ok (jD q0) := ixD_list (k := 0) hq0
  have i21 : ixD (jD q0) (.int 0) = .ok (.str q0.1) := rfl
  simp only [b2, consF, consT, lstM, tupM, sliceM, sliceTM, catM, notT, ifO, letρ, bcall, e_bind, e_bindr, e_map, e_mapr, e_onE, e_onr, e_seq, e_seqt, e_seqr, e_of, e_asB, e_asI, e_lstOf, e_listOf, e_noRs, e_getB0, e_getBs, e_getW0, e_getW0k, e_getW0o, e_getWs, e_getK0, e_getK0k, e_getKs, e_frz0, e_frzs, e_both, e_either, e_bothT, e_eitherT, e_add, e_sub, e_lt, e_le, e_gt, e_ge, e_intF, e_neg, e_lenL, e_lenT, e_max, e_unfl0, e_unfl1, e_small0, e_small1, e_small2, e_small3, e_small4, e_small5, e_small8, e_runt, e_runn, e_runr, List.set_cons_zero, List.set_cons_succ, List.map_cons, List.map_nil, if_true, Bool.false_eq_true, if_false, Bool.not_true, Bool.not_false, decide_true, decide_false, pd2, i20, i21]
  obtain ⟨ρ15, l15, x15, e15⟩ := forO_rule (t := .one 15) (body := b6_law) (ds := [.int 1, .int 2]) (ρ := [.wk (intL s), .dat (.list (intL nums)), .dat p.d, .dat (logD p), .dat (.list (evL p.events)), .dat (.int (p.events.length : Int)), .dat (.list (natL (ansN p.events))), .dat (logD p.back), x8, x9, x10, .dat (.str q0.1), x12, x13, x14, .un, .un])
    (fun _ ρ => ∃ x15, ρ = [.wk (intL s), .dat (.list (intL nums)), .dat p.d, .dat (logD p), .dat (.list (evL p.events)), .dat (.int (p.events.length : Int)), .dat (.list (natL (ansN p.events))), .dat (logD p.back), x8, x9, x10, .dat (.str q0.1), x12, x13, x14, x15, .un]) ⟨_, rfl⟩ (by
      rintro _ d ρ hd ⟨x15, rfl⟩
      obtain ⟨k, hk, rfl⟩ : ∃ k : Int, (k = 1 ∨ k = 2) ∧ d = .int k := by
        have := List.mem_of_getElem? hd
        simp only [List.mem_cons, List.not_mem_nil, or_false] at this
        rcases this with rfl | rfl
        · exact ⟨1, .inl rfl, rfl⟩
        · exact ⟨2, .inr rfl, rfl⟩
      exact ⟨_, _, rfl, .inl (b6_ok h (by omega) hj0 hn hk), _, rfl⟩)
  rw [l15, e15]
  have lc2 := lcA [.wk (intL s), .dat (.list (intL nums)), .dat p.d, .dat (logD p), .dat (.list (evL p.events)), .dat (.int (p.events.length : Int)), .dat (.list (natL (ansN p.events))), .dat (logD p.back), x8, x9, x10, .dat (.str q0.1), x12, x13, x14, x15, .un] rfl rfl "reset" ok_reset (.inr rfl)
  generalize hrs : ((List.range p.events.length).filter fun i => if ("reset" : Str) = "answer" then isAt p.events i else !isAt p.events i) = rs at lc2
  have hrl : rs.length ≤ p.events.length := by
    rw [← hrs]
    exact Nat.le_trans (List.length_filter_le _ _) (by rw [List.length_range]; exact Nat.le_refl _)
  have sm : small (natL rs ++ [.int (p.events.length : Int)]) = .ok (natL rs ++ [.int (p.events.length : Int)]) := small_is (by simp; omega)
  obtain ⟨z, hz, hza⟩ : ∃ z : Int, (natL rs ++ [PyData.int (p.events.length : Int)])[0]? = some (.int z) ∧ ¬ isAns p.events z = true := by
    cases e : rs with
    | nil => exact ⟨_, rfl, no_ans⟩
    | cons k r =>
      refine ⟨(k : Int), rfl, fun w => ?_⟩
      have hm : k ∈ rs := by rw [e]; exact List.mem_cons_self
      rw [← hrs, List.mem_filter] at hm
      have h2 := hm.2
      rw [if_neg (by decide +kernel)] at h2
      obtain ⟨k', e', hk'⟩ := isAns_nat w
      have : k = k' := by omega
      subst this
      rw [hk'] at h2
      cases h2
  have iz : ixD (.list (natL rs ++ [.int (p.events.length : Int)])) (.int 0) = .ok (.int z) := ixD_list (k := 0) hz
  have f1 : callM fl__law_error m_law_error [(false, logD p), (false, .int 0), (false, .str q0.1), (false, .int z), (false, .int (-5))] = .ok (.int z) := error_0 ((in_order_ok h z (-5)).trans (if_neg hza))
  have f2 : callM fl__law_error m_law_error [(false, logD p), (false, .int 0), (false, .str q0.1), (false, .int (-1)), (false, .int (p.events.length : Int))] = .ok (.int (-1)) := by
    have e0 : m_law_error [logD p, .int 0, .str q0.1, .int (-1), .int (p.events.length : Int)] = .ok (.int (-1)) := error_0 ((in_order_ok h (-1) (p.events.length : Int)).trans (if_neg (neg_ans (by decide))))
    exact e0
  simp only [b2, consF, consT, lstM, tupM, sliceM, sliceTM, catM, notT, ifO, letρ, bcall, e_bind, e_bindr, e_map, e_mapr, e_onE, e_onr, e_seq, e_seqt, e_seqr, e_of, e_asB, e_asI, e_lstOf, e_listOf, e_noRs, e_getB0, e_getBs, e_getW0, e_getW0k, e_getW0o, e_getWs, e_getK0, e_getK0k, e_getKs, e_frz0, e_frzs, e_both, e_either, e_bothT, e_eitherT, e_add, e_sub, e_lt, e_le, e_gt, e_ge, e_intF, e_neg, e_lenL, e_lenT, e_max, e_unfl0, e_unfl1, e_small0, e_small1, e_small2, e_small3, e_small4, e_small5, e_small8, e_runt, e_runn, e_runr, List.set_cons_zero, List.set_cons_succ, List.map_cons, List.map_nil, if_true, Bool.false_eq_true, if_false, Bool.not_true, Bool.not_false, decide_true, decide_false, r1, rg]
  simp only [b2, consF, consT, lstM, tupM, sliceM, sliceTM, catM, notT, ifO, letρ, bcall, e_bind, e_bindr, e_map, e_mapr, e_onE, e_onr, e_seq, e_seqt, e_seqr, e_of, e_asB, e_asI, e_lstOf, e_listOf, e_noRs, e_getB0, e_getBs, e_getW0, e_getW0k, e_getW0o, e_getWs, e_getK0, e_getK0k, e_getKs, e_frz0, e_frzs, e_both, e_either, e_bothT, e_eitherT, e_add, e_sub, e_lt, e_le, e_gt, e_ge, e_intF, e_neg, e_lenL, e_lenT, e_max, e_unfl0, e_unfl1, e_small0, e_small1, e_small2, e_small3, e_small4, e_small5, e_small8, e_runt, e_runn, e_runr, List.set_cons_zero, List.set_cons_succ, List.map_cons, List.map_nil, if_true, Bool.false_eq_true, if_false, Bool.not_true, Bool.not_false, decide_true, decide_false] at lc2
  simp only [b2, consF, consT, lstM, tupM, sliceM, sliceTM, catM, notT, ifO, letρ, bcall, e_bind, e_bindr, e_map, e_mapr, e_onE, e_onr, e_seq, e_seqt, e_seqr, e_of, e_asB, e_asI, e_lstOf, e_listOf, e_noRs, e_getB0, e_getBs, e_getW0, e_getW0k, e_getW0o, e_getWs, e_getK0, e_getK0k, e_getKs, e_frz0, e_frzs, e_both, e_either, e_bothT, e_eitherT, e_add, e_sub, e_lt, e_le, e_gt, e_ge, e_intF, e_neg, e_lenL, e_lenT, e_max, e_unfl0, e_unfl1, e_small0, e_small1, e_small2, e_small3, e_small4, e_small5, e_small8, e_runt, e_runn, e_runr, List.set_cons_zero, List.set_cons_succ, List.map_cons, List.map_nil, if_true, Bool.false_eq_true, if_false, Bool.not_true, Bool.not_false, decide_true, decide_false, lc2, sm, iz, f1, f2, e_eqI]
/-- the law holds at every script -/
theorem law_true (ns : List Int) (hl : ns.length ≤ 63) : m_law [.list (ns.map .int)] = .ok (.bool true) := by
  obtain ⟨xs, h1, h2⟩ := nums_ok ns 60 hl (by decide)
  obtain ⟨p, h3, h4, h5, ⟨m, h6⟩, _⟩ := parts_ok xs 0 5 12 (by decide) (by decide) (by omega) (by omega)
  refine law_ok h4 (by omega) ?_ h1 h3
  cases e : p.judges.lookup ("nobody" : Str) with
  | none => rfl
  | some d =>
    have : ("nobody" : Str) ∈ p.judges.map (·.1) := List.mem_map.mpr ⟨_, look_in e, rfl⟩
    rw [h6] at this
    exact absurd (List.mem_of_mem_take this) (by decide +kernel)
end K03


set_option Elab.async false
set_option linter.all false
set_option maxRecDepth 100000
open PySem PySem.W PyProof.Rows in
set_option maxRecDepth 100000 in
set_option maxHeartbeats 0 in
theorem PySem.Challenge.cw_risingbars_k03_orders_of_answers_holds : PySem.Challenge.rw_risingbars_k03_orders_of_answers.Holds := by
  w_on; o_law; k_head; (case hw => w_witness2)
  k_fill
  refine RB.walk (l := PySem.Challenge.rw_risingbars_k03_orders_of_answers) (k := 9) rfl rfl ⟨rfl, by decide, by decide⟩ (fun w h Y => PySem.W.kIn_of Y) ?F
  case F =>
    intro w mg fa h KX G hmg
    have cl_Log := by
      refine' RB.mk_cls (c := "Log") KX ?pg ?hd ?po ?sa ?n 
      (case n => k_is)
      (case pg => k_is)
      (case hd => k_is)
      (case po => k_is)
      (case sa => k_is)
    have b_abs := by
      refine' RB.mk_none (x := "abs") KX G ?n
      (case n => k_is)
    have b_all := by
      refine' RB.mk_none (x := "all") KX G ?n
      (case n => k_is)
    have b_bool := by
      refine' RB.mk_none (x := "bool") KX G ?n
      (case n => k_is)
    have b_enumerate := by
      refine' RB.mk_none (x := "enumerate") KX G ?n
      (case n => k_is)
    have b_int := by
      refine' RB.mk_none (x := "int") KX G ?n
      (case n => k_is)
    have b_isinstance := by
      refine' RB.mk_none (x := "isinstance") KX G ?n
      (case n => k_is)
    have b_len := by
      refine' RB.mk_none (x := "len") KX G ?n
      (case n => k_is)
    have b_list := by
      refine' RB.mk_none (x := "list") KX G ?n
      (case n => k_is)
    have b_max := by
      refine' RB.mk_none (x := "max") KX G ?n
      (case n => k_is)
    have b_range := by
      refine' RB.mk_none (x := "range") KX G ?n
      (case n => k_is)
    have b_sorted := by
      refine' RB.mk_none (x := "sorted") KX G ?n
      (case n => k_is)
    have c_DRIFTS := by
      refine' RB.mk_gtup (x := "DRIFTS") (ss := ["rises", "falls", "stays"]) KX G ?nx ?l ?hz ?hv
      (case nx => k_is)
      (case l => k_is)
      (case hz => decide)
      (case hv => exact .cons ⟨_, rfl⟩ (.cons ⟨_, rfl⟩ (.cons ⟨_, rfl⟩ (.nil))))
    have c_LONGEST_NAME := by
      refine' RB.mk_gint (x := "LONGEST_NAME") KX G ?n
      (case n => k_is)
    have c_MOST_EVENTS := by
      refine' RB.mk_gint (x := "MOST_EVENTS") KX G ?n
      (case n => k_is)
    have c_MOST_GRADES := by
      refine' RB.mk_gint (x := "MOST_GRADES") KX G ?n
      (case n => k_is)
    have c_MOST_ITEMS := by
      refine' RB.mk_gint (x := "MOST_ITEMS") KX G ?n
      (case n => k_is)
    have c_MOST_JUDGES := by
      refine' RB.mk_gint (x := "MOST_JUDGES") KX G ?n
      (case n => k_is)
    have c_NAME_SIGNS := by
      refine' RB.mk_gstr (x := "NAME_SIGNS") KX G ?n
      (case n => k_is)
    have x_InvalidLog := by
      refine' RB.mk_exct (x := "InvalidLog") KX G ?n ?e ?k ?h1 ?h3
      (case n => k_is)
      (case e => k_exc)
      (case k => k_is)
      (case h1 => k_is)
      (case h3 => k_is)
    have f_Log__item_names := by
      refine' RB.mk_fld (c := "Log") (x := "_item_names") KX G cl_Log ?n ?na
      (case n => k_is)
      (case na => k_is)
    have f_Log__grades := by
      refine' RB.mk_fld (c := "Log") (x := "_grades") KX G cl_Log ?n ?na
      (case n => k_is)
      (case na => k_is)
    have f_Log__judges := by
      refine' RB.mk_fld (c := "Log") (x := "_judges") KX G cl_Log ?n ?na
      (case n => k_is)
      (case na => k_is)
    have f_Log__events := by
      refine' RB.mk_fld (c := "Log") (x := "_events") KX G cl_Log ?n ?na
      (case n => k_is)
      (case na => k_is)
    have f_Log__drifts := by
      refine' RB.mk_fld (c := "Log") (x := "_drifts") KX G cl_Log ?n ?na
      (case n => k_is)
      (case na => k_is)
    have f_Log__resets := by
      refine' RB.mk_fld (c := "Log") (x := "_resets") KX G cl_Log ?n ?na
      (case n => k_is)
      (case na => k_is)
    have k_TURNED_DRIFTS := by
      refine' RB.mk_kdict (w := w) (x := "TURNED_DRIFTS") (qs := [("rises", "falls"), ("falls", "rises"), ("stays", "stays")]) KX G ?nx ?l ?hk (RB.AllKV.cons ?v0 (RB.AllKV.cons ?v1 (RB.AllKV.cons ?v2 (True.intro))))
      (case nx => k_is)
      (case l => k_is)
      (case hk => k_keys)
      (case v0 => k_is)
      (case v1 => k_is)
      (case v2 => k_is)
    have tk_InvalidPlace := by
      refine' RB.mk_takes (x := "InvalidPlace") KX G ?n ?h1 ?h2 ?h3 ?h4
      (case n => k_is)
      (case h1 => k_is)
      (case h2 => k_is)
      (case h3 => k_is)
      (case h4 => first | rfl | k_is)
    have xf_InvalidPlace_place := by
      refine' RB.mk_excf (x := "InvalidPlace") (y := "place") KX G ?n ?ga ?gg ?h1 ?hd ?nf
      (case n => k_is)
      (case ga => k_is)
      (case gg => k_is)
      (case h1 => k_is)
      (case hd => k_is)
      (case nf => k_is)
    have tk_UnknownJudge := by
      refine' RB.mk_takes (x := "UnknownJudge") KX G ?n ?h1 ?h2 ?h3 ?h4
      (case n => k_is)
      (case h1 => k_is)
      (case h2 => k_is)
      (case h3 => k_is)
      (case h4 => first | rfl | k_is)
    have xf_UnknownJudge_name := by
      refine' RB.mk_excf (x := "UnknownJudge") (y := "name") KX G ?n ?ga ?gg ?h1 ?hd ?nf
      (case n => k_is)
      (case ga => k_is)
      (case gg => k_is)
      (case h1 => k_is)
      (case hd => k_is)
      (case nf => k_is)
    have pt_InvalidPlace_UnknownJudge := by
      refine' RB.mk_parts (x := "InvalidPlace") (y := "UnknownJudge") KX G ?n ?n' ?h1 ?h2 ?h3 ?h4
      (case n => k_is)
      (case n' => k_is)
      (case h1 => k_is)
      (case h2 => k_is)
      (case h3 => k_is)
      (case h4 => k_is)
    have d__law_row := by
      refine' RB.mk_def (x := "_law_row") (st := K03.s__law_row) (ps := ["cell", "many"]) KX G (fun _ _ _ _ _ _ us hl => match us, hl with | [_, _], _ => rfl) ?n ?l ?cd ?k
      (case n => k_is)
      (case l => k_is)
      (case cd => k_is)
      (case k => k_is)
    have d__law_numbers := by
      refine' RB.mk_def (x := "_law_numbers") (st := K03.s__law_numbers) (ps := ["script", "many"]) KX G (fun _ _ _ _ _ _ us hl => match us, hl with | [_, _], _ => rfl) ?n ?l ?cd ?k
      (case n => k_is)
      (case l => k_is)
      (case cd => k_is)
      (case k => k_is)
    have d__law_parts := by
      refine' RB.mk_def (x := "_law_parts") (st := K03.s__law_parts) (ps := ["numbers", "at", "many", "more"]) KX G (fun _ _ _ _ _ _ us hl => match us, hl with | [_, _, _, _], _ => rfl) ?n ?l ?cd ?k
      (case n => k_is)
      (case l => k_is)
      (case cd => k_is)
      (case k => k_is)
    have d_is_name := by
      refine' RB.mk_def (x := "is_name") (st := K03.s_is_name) (ps := ["text"]) KX G (fun _ _ _ _ _ _ us hl => match us, hl with | [_], _ => rfl) ?n ?l ?cd ?k
      (case n => k_is)
      (case l => k_is)
      (case cd => k_is)
      (case k => k_is)
    have d_is_drift := by
      refine' RB.mk_def (x := "is_drift") (st := K03.s_is_drift) (ps := ["word"]) KX G (fun _ _ _ _ _ _ us hl => match us, hl with | [_], _ => rfl) ?n ?l ?cd ?k
      (case n => k_is)
      (case l => k_is)
      (case cd => k_is)
      (case k => k_is)
    have d_is_highest_grade := by
      refine' RB.mk_def (x := "is_highest_grade") (st := K03.s_is_highest_grade) (ps := ["grade"]) KX G (fun _ _ _ _ _ _ us hl => match us, hl with | [_], _ => rfl) ?n ?l ?cd ?k
      (case n => k_is)
      (case l => k_is)
      (case cd => k_is)
      (case k => k_is)
    have d_may_follow := by
      refine' RB.mk_def (x := "may_follow") (st := K03.s_may_follow) (ps := ["name", "names", "most"]) KX G (fun _ _ _ _ _ _ us hl => match us, hl with | [_, _, _], _ => rfl) ?n ?l ?cd ?k
      (case n => k_is)
      (case l => k_is)
      (case cd => k_is)
      (case k => k_is)
    have d_is_event := by
      refine' RB.mk_def (x := "is_event") (st := K03.s_is_event) (ps := ["event", "items", "grades", "judge_names"]) KX G (fun _ _ _ _ _ _ us hl => match us, hl with | [_, _, _, _], _ => rfl) ?n ?l ?cd ?k
      (case n => k_is)
      (case l => k_is)
      (case cd => k_is)
      (case k => k_is)
    have d__check_names := by
      refine' RB.mk_def (x := "_check_names") (st := K03.s__check_names) (ps := ["names", "most", "what"]) KX G (fun _ _ _ _ _ _ us hl => match us, hl with | [_, _, _], _ => rfl) ?n ?l ?cd ?k
      (case n => k_is)
      (case l => k_is)
      (case cd => k_is)
      (case k => k_is)
    have d__check_judges := by
      refine' RB.mk_def (x := "_check_judges") (st := K03.s__check_judges) (ps := ["judges"]) KX G (fun _ _ _ _ _ _ us hl => match us, hl with | [_], _ => rfl) ?n ?l ?cd ?k
      (case n => k_is)
      (case l => k_is)
      (case cd => k_is)
      (case k => k_is)
    have d__check_log := by
      refine' RB.mk_def (x := "_check_log") (st := K03.s__check_log) (ps := ["items", "grades", "judges", "events"]) KX G (fun _ _ _ _ _ _ us hl => match us, hl with | [_, _, _, _], _ => rfl) ?n ?l ?cd ?k
      (case n => k_is)
      (case l => k_is)
      (case cd => k_is)
      (case k => k_is)
    have d__resets_ahead := by
      refine' RB.mk_def (x := "_resets_ahead") (st := K03.s__resets_ahead) (ps := ["events"]) KX G (fun _ _ _ _ _ _ us hl => match us, hl with | [_], _ => rfl) ?n ?l ?cd ?k
      (case n => k_is)
      (case l => k_is)
      (case cd => k_is)
      (case k => k_is)
    have d_Log___init__ := by
      refine' RB.mk_init (c := "Log") (qual := "Log.__init__") (st := K03.s_Log___init__) (ps := ["self", "items", "grades", "judges", "events"]) KX G (fun _ _ _ _ _ _ us hl => match us, hl with | [_, _, _, _, _], _ => rfl) ?n ?a ?l ?cd ?k ?i ?m ?kC
      (case n => k_is)
      (case a => k_is)
      (case l => k_is)
      (case cd => k_is)
      (case k => k_is)
      (case i => k_is)
      (case m => k_is)
      (case kC => k_is)
    have d__law_log := by
      refine' RB.mk_def (x := "_law_log") (st := K03.s__law_log) (ps := ["parts"]) KX G (fun _ _ _ _ _ _ us hl => match us, hl with | [_], _ => rfl) ?n ?l ?cd ?k
      (case n => k_is)
      (case l => k_is)
      (case cd => k_is)
      (case k => k_is)
    have d_are_in_order := by
      refine' RB.mk_def (x := "are_in_order") (st := K03.s_are_in_order) (ps := ["drift", "one", "other"]) KX G (fun _ _ _ _ _ _ us hl => match us, hl with | [_, _, _], _ => rfl) ?n ?l ?cd ?k
      (case n => k_is)
      (case l => k_is)
      (case cd => k_is)
      (case k => k_is)
    have d_Log_answers := by
      refine' RB.mk_meth (x := "answers") (c := "Log") (qual := "Log.answers") (st := K03.s_Log_answers) (ps := ["self"]) KX G (fun _ _ _ _ _ _ us hl => match us, hl with | [_], _ => rfl) cl_Log ?n ?a ?l ?cd ?k ?i
      (case n => k_is)
      (case a => k_is)
      (case l => k_is)
      (case cd => k_is)
      (case k => k_is)
      (case i => k_is)
    have d_Log_is_answer := by
      refine' RB.mk_meth (x := "is_answer") (c := "Log") (qual := "Log.is_answer") (st := K03.s_Log_is_answer) (ps := ["self", "place"]) KX G (fun _ _ _ _ _ _ us hl => match us, hl with | [_, _], _ => rfl) cl_Log ?n ?a ?l ?cd ?k ?i
      (case n => k_is)
      (case a => k_is)
      (case l => k_is)
      (case cd => k_is)
      (case k => k_is)
      (case i => k_is)
    have d_Log__need_judge := by
      refine' RB.mk_meth (x := "_need_judge") (c := "Log") (qual := "Log._need_judge") (st := K03.s_Log__need_judge) (ps := ["self", "judge"]) KX G (fun _ _ _ _ _ _ us hl => match us, hl with | [_, _], _ => rfl) cl_Log ?n ?a ?l ?cd ?k ?i
      (case n => k_is)
      (case a => k_is)
      (case l => k_is)
      (case cd => k_is)
      (case k => k_is)
      (case i => k_is)
    have d_Log__need_answer := by
      refine' RB.mk_meth (x := "_need_answer") (c := "Log") (qual := "Log._need_answer") (st := K03.s_Log__need_answer) (ps := ["self", "place"]) KX G (fun _ _ _ _ _ _ us hl => match us, hl with | [_, _], _ => rfl) cl_Log ?n ?a ?l ?cd ?k ?i
      (case n => k_is)
      (case a => k_is)
      (case l => k_is)
      (case cd => k_is)
      (case k => k_is)
      (case i => k_is)
    have d_Log__need_lost_place := by
      refine' RB.mk_meth (x := "_need_lost_place") (c := "Log") (qual := "Log._need_lost_place") (st := K03.s_Log__need_lost_place) (ps := ["self", "place"]) KX G (fun _ _ _ _ _ _ us hl => match us, hl with | [_, _], _ => rfl) cl_Log ?n ?a ?l ?cd ?k ?i
      (case n => k_is)
      (case a => k_is)
      (case l => k_is)
      (case cd => k_is)
      (case k => k_is)
      (case i => k_is)
    have d_Log_answers_of := by
      refine' RB.mk_meth (x := "answers_of") (c := "Log") (qual := "Log.answers_of") (st := K03.s_Log_answers_of) (ps := ["self", "judge"]) KX G (fun _ _ _ _ _ _ us hl => match us, hl with | [_, _], _ => rfl) cl_Log ?n ?a ?l ?cd ?k ?i
      (case n => k_is)
      (case a => k_is)
      (case l => k_is)
      (case cd => k_is)
      (case k => k_is)
      (case i => k_is)
    have d_Log__stretch_behind := by
      refine' RB.mk_meth (x := "_stretch_behind") (c := "Log") (qual := "Log._stretch_behind") (st := K03.s_Log__stretch_behind) (ps := ["self", "judge", "resets"]) KX G (fun _ _ _ _ _ _ us hl => match us, hl with | [_, _, _], _ => rfl) cl_Log ?n ?a ?l ?cd ?k ?i
      (case n => k_is)
      (case a => k_is)
      (case l => k_is)
      (case cd => k_is)
      (case k => k_is)
      (case i => k_is)
    have d_Log_stretch_at := by
      refine' RB.mk_meth (x := "stretch_at") (c := "Log") (qual := "Log.stretch_at") (st := K03.s_Log_stretch_at) (ps := ["self", "judge", "place"]) KX G (fun _ _ _ _ _ _ us hl => match us, hl with | [_, _, _], _ => rfl) cl_Log ?n ?a ?l ?cd ?k ?i
      (case n => k_is)
      (case a => k_is)
      (case l => k_is)
      (case cd => k_is)
      (case k => k_is)
      (case i => k_is)
    have d_Log_in_order := by
      refine' RB.mk_meth (x := "in_order") (c := "Log") (qual := "Log.in_order") (st := K03.s_Log_in_order) (ps := ["self", "one", "other"]) KX G (fun _ _ _ _ _ _ us hl => match us, hl with | [_, _, _], _ => rfl) cl_Log ?n ?a ?l ?cd ?k ?i
      (case n => k_is)
      (case a => k_is)
      (case l => k_is)
      (case cd => k_is)
      (case k => k_is)
      (case i => k_is)
    have d_Log_lost_first := by
      refine' RB.mk_meth (x := "lost_first") (c := "Log") (qual := "Log.lost_first") (st := K03.s_Log_lost_first) (ps := ["self", "judge", "place", "at"]) KX G (fun _ _ _ _ _ _ us hl => match us, hl with | [_, _, _, _], _ => rfl) cl_Log ?n ?a ?l ?cd ?k ?i
      (case n => k_is)
      (case a => k_is)
      (case l => k_is)
      (case cd => k_is)
      (case k => k_is)
      (case i => k_is)
    have d_Log_lost_second := by
      refine' RB.mk_meth (x := "lost_second") (c := "Log") (qual := "Log.lost_second") (st := K03.s_Log_lost_second) (ps := ["self", "judge", "place", "at"]) KX G (fun _ _ _ _ _ _ us hl => match us, hl with | [_, _, _, _], _ => rfl) cl_Log ?n ?a ?l ?cd ?k ?i
      (case n => k_is)
      (case a => k_is)
      (case l => k_is)
      (case cd => k_is)
      (case k => k_is)
      (case i => k_is)
    have d_Log_backwards := by
      refine' RB.mk_meth (x := "backwards") (c := "Log") (qual := "Log.backwards") (st := K03.s_Log_backwards) (ps := ["self"]) KX G (fun _ _ _ _ _ _ us hl => match us, hl with | [_], _ => rfl) cl_Log ?n ?a ?l ?cd ?k ?i
      (case n => k_is)
      (case a => k_is)
      (case l => k_is)
      (case cd => k_is)
      (case k => k_is)
      (case i => k_is)
    have d__law_drift := by
      refine' RB.mk_def (x := "_law_drift") (st := K03.s__law_drift) (ps := ["parts", "judge"]) KX G (fun _ _ _ _ _ _ us hl => match us, hl with | [_, _], _ => rfl) ?n ?l ?cd ?k
      (case n => k_is)
      (case l => k_is)
      (case cd => k_is)
      (case k => k_is)
    have d__law_stretch_at := by
      refine' RB.mk_def (x := "_law_stretch_at") (st := K03.s__law_stretch_at) (ps := ["parts", "judge", "place"]) KX G (fun _ _ _ _ _ _ us hl => match us, hl with | [_, _, _], _ => rfl) ?n ?l ?cd ?k
      (case n => k_is)
      (case l => k_is)
      (case cd => k_is)
      (case k => k_is)
    have d__law_in_order := by
      refine' RB.mk_def (x := "_law_in_order") (st := K03.s__law_in_order) (ps := ["parts", "one", "other"]) KX G (fun _ _ _ _ _ _ us hl => match us, hl with | [_, _, _], _ => rfl) ?n ?l ?cd ?k
      (case n => k_is)
      (case l => k_is)
      (case cd => k_is)
      (case k => k_is)
    have d__law_is := by
      refine' RB.mk_def (x := "_law_is") (st := K03.s__law_is) (ps := ["told", "due"]) KX G (fun _ _ _ _ _ _ us hl => match us, hl with | [_, _], _ => rfl) ?n ?l ?cd ?k
      (case n => k_is)
      (case l => k_is)
      (case cd => k_is)
      (case k => k_is)
    have d__law_lost := by
      refine' RB.mk_def (x := "_law_lost") (st := K03.s__law_lost) (ps := ["parts", "judge", "place", "at", "first"]) KX G (fun _ _ _ _ _ _ us hl => match us, hl with | [_, _, _, _, _], _ => rfl) ?n ?l ?cd ?k
      (case n => k_is)
      (case l => k_is)
      (case cd => k_is)
      (case k => k_is)
    have d__law_error := by
      refine' RB.mk_def (x := "_law_error") (st := K03.s__law_error) (ps := ["log", "kind", "judge", "place", "at"]) KX G (fun _ _ _ _ _ _ us hl => match us, hl with | [_, _, _, _, _], _ => rfl) ?n ?l ?cd ?k
      (case n => k_is)
      (case l => k_is)
      (case cd => k_is)
      (case k => k_is)
    have d_law := by
      refine' RB.mk_def (x := "law") (st := K03.s_law) (ps := ["script"]) KX G (fun _ _ _ _ _ _ us hl => match us, hl with | [_], _ => rfl) ?n ?l ?cd ?k
      (case n => k_is)
      (case l => k_is)
      (case cd => k_is)
      (case k => k_is)
    have dx_UnknownJudge := by
      refine' RB.mk_oexc (x := "UnknownJudge") (y := "name") (qual := "UnknownJudge.__init__") (st := K03.s_x_UnknownJudge) (ps := ["self", "name"]) ?hr KX G (fun _ _ _ _ _ _ us hl => match us, hl with | [_, _], _ => rfl) ?n ?xL ?sa ?h1 ?h3 ?kC ?a ?t ?nf ?l ?cd ?k
      (case n => k_is)
      (case xL => k_is)
      (case sa => k_is)
      (case h1 => k_is)
      (case h3 => k_is)
      (case kC => k_is)
      (case a => k_is)
      (case t => k_is)
      (case nf => k_is)
      (case l => k_is)
      (case cd => k_is)
      (case k => k_is)
      (case hr => decide +kernel)
    have dx_InvalidPlace := by
      refine' RB.mk_oexc (x := "InvalidPlace") (y := "place") (qual := "InvalidPlace.__init__") (st := K03.s_x_InvalidPlace) (ps := ["self", "place"]) ?hr KX G (fun _ _ _ _ _ _ us hl => match us, hl with | [_, _], _ => rfl) ?n ?xL ?sa ?h1 ?h3 ?kC ?a ?t ?nf ?l ?cd ?k
      (case n => k_is)
      (case xL => k_is)
      (case sa => k_is)
      (case h1 => k_is)
      (case h3 => k_is)
      (case kC => k_is)
      (case a => k_is)
      (case t => k_is)
      (case nf => k_is)
      (case l => k_is)
      (case cd => k_is)
      (case k => k_is)
      (case hr => decide +kernel)
    have T : K03.Tx w _ mg := { b_abs := b_abs, b_all := b_all, b_bool := b_bool, b_enumerate := b_enumerate, b_int := b_int, b_isinstance := b_isinstance, b_len := b_len, b_list := b_list, b_max := b_max, b_range := b_range, b_sorted := b_sorted, c_DRIFTS := c_DRIFTS, c_LONGEST_NAME := c_LONGEST_NAME, c_MOST_EVENTS := c_MOST_EVENTS, c_MOST_GRADES := c_MOST_GRADES, c_MOST_ITEMS := c_MOST_ITEMS, c_MOST_JUDGES := c_MOST_JUDGES, c_NAME_SIGNS := c_NAME_SIGNS, x_InvalidLog := x_InvalidLog, f_Log__item_names := f_Log__item_names, f_Log__grades := f_Log__grades, f_Log__judges := f_Log__judges, f_Log__events := f_Log__events, f_Log__drifts := f_Log__drifts, f_Log__resets := f_Log__resets, k_TURNED_DRIFTS := k_TURNED_DRIFTS, tk_InvalidPlace := tk_InvalidPlace, xf_InvalidPlace_place := xf_InvalidPlace_place, tk_UnknownJudge := tk_UnknownJudge, xf_UnknownJudge_name := xf_UnknownJudge_name, pt_InvalidPlace_UnknownJudge := pt_InvalidPlace_UnknownJudge, d__law_row := d__law_row, d__law_numbers := d__law_numbers, d__law_parts := d__law_parts, d_is_name := d_is_name, d_is_drift := d_is_drift, d_is_highest_grade := d_is_highest_grade, d_may_follow := d_may_follow, d_is_event := d_is_event, d__check_names := d__check_names, d__check_judges := d__check_judges, d__check_log := d__check_log, d__resets_ahead := d__resets_ahead, d_Log___init__ := d_Log___init__, d__law_log := d__law_log, d_are_in_order := d_are_in_order, d_Log_answers := d_Log_answers, d_Log_is_answer := d_Log_is_answer, d_Log__need_judge := d_Log__need_judge, d_Log__need_answer := d_Log__need_answer, d_Log__need_lost_place := d_Log__need_lost_place, d_Log_answers_of := d_Log_answers_of, d_Log__stretch_behind := d_Log__stretch_behind, d_Log_stretch_at := d_Log_stretch_at, d_Log_in_order := d_Log_in_order, d_Log_lost_first := d_Log_lost_first, d_Log_lost_second := d_Log_lost_second, d_Log_backwards := d_Log_backwards, d__law_drift := d__law_drift, d__law_stretch_at := d__law_stretch_at, d__law_in_order := d__law_in_order, d__law_is := d__law_is, d__law_lost := d__law_lost, d__law_error := d__law_error, d_law := d_law, dx_UnknownJudge := dx_UnknownJudge, dx_InvalidPlace := dx_InvalidPlace }
    obtain ⟨fd, F, hb⟩ := RB.law_fa hmg d_law (fun _ _ _ _ _ _ us hl => match us, hl with | [_], _ => rfl)
    exact ⟨fd, hb, fun base _ _ => RB.law_end (K03.ok_law T F) K03.law_true⟩

