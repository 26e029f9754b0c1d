import PyProof.Rows.All
import Wide.All
import OpenK.AllK
import Wide.FinOn
import HandS.ForMost
import HandS.ForExc
import HandS.ExcInit
import HandS.IsInst
import HandS.Wide
import HandS.Conv
import HandS.Flow
import HandS.Lambda
import HandS.Gcd
import HandS.TryOnly
import PyProof.ReprRoads
import HandS.WordsExc
import KE.KExcIs
import HandS.Nested
import HandS.EndOwn
import HandS.Text
import HandS.StrMore
import HandS.Style
import HandS.FStr
import HandS.Strs
import PySem.Challenge.RW_lanecross_k04_numbers_written_and_read
set_option Elab.async false
set_option linter.all false
set_option maxRecDepth 100000
set_option maxHeartbeats 4000000
/-! Values as trees over the hand layer: what is never changed is a tree, what is changed has an address. -/
namespace Z
open PySem L2 PySem.Spec PyProof.Rows

inductive D where
  | non | bl (b : Bool) | int (i : Int) | str (x : Str) | flt (b : UInt64) | ref (a : Addr) | ty (n : String)
  | lst (xs : List D) | tup (xs : List D) | dct (kvs : List (Key × D)) | obj (C : Addr) (fs : List (Str × D)) | exn (C : Addr) (fs : List (Str × D))
inductive MO where
  | lst (xs : List D) | dct (kvs : List (Key × D)) | ins (C : Addr) (fs : List (Str × D)) | tbl (q : Str) | clo (f : Addr) (o : Obj) (vs : List V) (ds : List D)
abbrev MH := Addr → Option MO
abbrev EnvD := List (Option D)
def mput (M : MH) (a : Addr) (o : MO) : MH := fun b => if b = a then some o else M b
theorem mput_same {M : MH} {a : Addr} {o : MO} : mput M a o a = some o := by unfold mput; rw [if_pos rfl]
theorem mput_ne {M : MH} {a b : Addr} {o : MO} (h : b ≠ a) : mput M a o b = M b := by unfold mput; rw [if_neg h]
def mdel (M : MH) (a : Addr) : MH := fun b => if b = a then none else M b
theorem mdel_same {M : MH} {a : Addr} : mdel M a a = none := by unfold mdel; rw [if_pos rfl]
theorem mdel_ne {M : MH} {a b : Addr} (h : b ≠ a) : mdel M a b = M b := by unfold mdel; rw [if_neg h]

def WrL (K : PySem.W.Frag) (a : Addr) (xs : List V) : Prop :=
  ∃ (o : Obj) (its : Array Value) (n : Nat), K.lookup a = some o ∧ o.cls = .type "list" ∧ o.dict = none ∧ o.data = .seq its n ∧ its.size ≤ sizeLine ∧ Vals xs its.toList
def WrT (K : PySem.W.Frag) (a : Addr) (xs : List V) : Prop :=
  ∃ (o : Obj) (its : Array Value) (n : Nat), K.lookup a = some o ∧ o.cls = .type "tuple" ∧ o.data = .seq its n ∧ its.size ≤ sizeLine ∧ Vals xs its.toList
def ReL (K : PySem.W.Frag) (H : Hp) (M : MH) (a : Addr) (xs : List V) : Prop := (M a = none ∧ Rd H a (.lst xs)) ∨ WrL K a xs
def ReT (K : PySem.W.Frag) (H : Hp) (M : MH) (a : Addr) (xs : List V) : Prop := (M a = none ∧ Rd H a (.tup xs)) ∨ WrT K a xs
theorem ReL.sq {K : PySem.W.Frag} {H : Hp} {M : MH} {a : Addr} {xs : List V} (h : ReL K H M a xs) : SqL K H a xs := h.elim (fun h => .inl h.2) .inr
theorem ReT.sq {K : PySem.W.Frag} {H : Hp} {M : MH} {a : Addr} {xs : List V} (h : ReT K H M a xs) : SqT K H a xs := h.elim (fun h => .inl h.2) .inr

/-- an exception that was caught: of the class at C, its own dict at dx -/
def ExcAt (a C : Addr) (dx : Option Addr) : Heap → Prop := fun h => ∃ oe vs, h.get? a = some oe ∧ oe.cls = .ref C ∧ oe.dict = dx ∧ oe.data = .fields vs

mutual
inductive Rep (K : PySem.W.Frag) (H : Hp) (M : MH) : V → D → Prop
  | non : Rep K H M .non .non
  | bl (b) : Rep K H M (.bl b) (.bl b)
  | int (i) : Rep K H M (.int i) (.int i)
  | str (x) : Rep K H M (.str x) (.str x)
  | flt (x) : Rep K H M (.flt x) (.flt x)
  | ref (a) : Rep K H M (.ref a) (.ref a)
  | ty (n) : Rep K H M (.ty n) (.ty n)
  | lst {a vs xs} : ReL K H M a vs → Reps K H M vs xs → Rep K H M (.ref a) (.lst xs)
  | tup {a vs xs} : ReT K H M a vs → Reps K H M vs xs → Rep K H M (.ref a) (.tup xs)
  | dct {a kvs kds} : M a = none → H a = some (.dK kvs) → RepK K H M kvs kds → Rep K H M (.ref a) (.dct kds)
  | obj {a C dx fs ds} : M a = none → H a = some (.ins C dx fs) → RepF K H M fs ds → Rep K H M (.ref a) (.obj C ds)
  | exn {a C dx fs ds} : M a = none → M dx = none → H a = some (.ext (ExcAt a C (some dx))) → H dx = some (.xd fs) → RepF K H M fs ds → Rep K H M (.ref a) (.exn C ds)
  | exn0 {a C} : M a = none → H a = some (.ext (ExcAt a C none)) → Rep K H M (.ref a) (.exn C [])
inductive Reps (K : PySem.W.Frag) (H : Hp) (M : MH) : List V → List D → Prop
  | nil : Reps K H M [] []
  | cons {v d vs ds} : Rep K H M v d → Reps K H M vs ds → Reps K H M (v :: vs) (d :: ds)
inductive RepK (K : PySem.W.Frag) (H : Hp) (M : MH) : List (Key × V) → List (Key × D) → Prop
  | nil : RepK K H M [] []
  | cons {k v d vs ds} : Rep K H M v d → RepK K H M vs ds → RepK K H M ((k, v) :: vs) ((k, d) :: ds)
inductive RepF (K : PySem.W.Frag) (H : Hp) (M : MH) : List (Str × V) → List (Str × D) → Prop
  | nil : RepF K H M [] []
  | cons {k v d vs ds} : Rep K H M v d → RepF K H M vs ds → RepF K H M ((k, v) :: vs) ((k, d) :: ds)
end

/-- what is a tree stays -/
def Good (H : Hp) (M : MH) (H' : Hp) (M' : MH) : Prop := ∀ a o, H a = some o → M a = none → H' a = some o ∧ M' a = none
theorem Good.refl {H : Hp} {M : MH} : Good H M H M := fun _ _ h m => ⟨h, m⟩
theorem Good.trans {H H1 H2 : Hp} {M M1 M2 : MH} (a : Good H M H1 M1) (b : Good H1 M1 H2 M2) : Good H M H2 M2 := fun c o h m => let ⟨h1, m1⟩ := a c o h m; b c o h1 m1

section
variable {K : PySem.W.Frag} {H H' : Hp} {M M' : MH}
theorem Rd.good {a : Addr} {u : HO} (g : Good H M H' M') (m : M a = none) (r : Rd H a u) : Rd H' a u ∧ M' a = none := by
  rcases r with r | ⟨o, r⟩
  · exact ⟨.inl (g a _ r m).1, (g a _ r m).2⟩
  · exact ⟨.inr ⟨o, (g a _ r m).1⟩, (g a _ r m).2⟩
theorem ReL.good {a : Addr} {xs : List V} (g : Good H M H' M') (h : ReL K H M a xs) : ReL K H' M' a xs := by
  rcases h with ⟨m, r⟩ | h
  · exact .inl ⟨(Rd.good g m r).2, (Rd.good g m r).1⟩
  · exact .inr h
theorem ReT.good {a : Addr} {xs : List V} (g : Good H M H' M') (h : ReT K H M a xs) : ReT K H' M' a xs := by
  rcases h with ⟨m, r⟩ | h
  · exact .inl ⟨(Rd.good g m r).2, (Rd.good g m r).1⟩
  · exact .inr h
mutual
theorem Rep.good (g : Good H M H' M') : ∀ {v : V} {d : D}, Rep K H M v d → Rep K H' M' v d
  | _, _, .non => .non
  | _, _, .bl b => .bl b
  | _, _, .int i => .int i
  | _, _, .str x => .str x
  | _, _, .flt x => .flt x
  | _, _, .ref a => .ref a
  | _, _, .ty n => .ty n
  | _, _, .lst h r => .lst (h.good g) (Reps.good g r)
  | _, _, .tup h r => .tup (h.good g) (Reps.good g r)
  | _, _, .dct m h r => .dct (g _ _ h m).2 (g _ _ h m).1 (RepK.good g r)
  | _, _, .obj m h r => .obj (g _ _ h m).2 (g _ _ h m).1 (RepF.good g r)
  | _, _, .exn0 m h => .exn0 (g _ _ h m).2 (g _ _ h m).1
  | _, _, .exn m m2 h h2 r => .exn (g _ _ h m).2 (g _ _ h2 m2).2 (g _ _ h m).1 (g _ _ h2 m2).1 (RepF.good g r)
theorem Reps.good (g : Good H M H' M') : ∀ {vs : List V} {ds : List D}, Reps K H M vs ds → Reps K H' M' vs ds
  | _, _, .nil => .nil
  | _, _, .cons r t => .cons (Rep.good g r) (Reps.good g t)
theorem RepK.good (g : Good H M H' M') : ∀ {vs : List (Key × V)} {ds : List (Key × D)}, RepK K H M vs ds → RepK K H' M' vs ds
  | _, _, .nil => .nil
  | _, _, .cons r t => .cons (Rep.good g r) (RepK.good g t)
theorem RepF.good (g : Good H M H' M') : ∀ {vs : List (Str × V)} {ds : List (Str × D)}, RepF K H M vs ds → RepF K H' M' vs ds
  | _, _, .nil => .nil
  | _, _, .cons r t => .cons (Rep.good g r) (RepF.good g t)
end
theorem Reps.length : ∀ {vs : List V} {ds : List D}, Reps K H M vs ds → vs.length = ds.length
  | _, _, .nil => rfl
  | _, _, .cons _ t => by simp [Reps.length t]
theorem Reps.get : ∀ {vs : List V} {ds : List D} {i : Nat} {d : D}, Reps K H M vs ds → ds[i]? = some d → ∃ v, vs[i]? = some v ∧ Rep K H M v d
  | _, _, _, _, .nil, e => by simp at e
  | _, _, 0, _, .cons r _, e => by simp at e; subst e; exact ⟨_, rfl, r⟩
  | _, _, i + 1, d, .cons _ t, e => by
    obtain ⟨v, h1, h2⟩ := Reps.get (i := i) t (by simpa using e)
    exact ⟨v, by simpa using h1, h2⟩
theorem Reps.get' : ∀ {vs : List V} {ds : List D} {i : Nat} {v : V}, Reps K H M vs ds → vs[i]? = some v → ∃ d, ds[i]? = some d ∧ Rep K H M v d
  | _, _, _, _, .nil, e => by simp at e
  | _, _, 0, _, .cons r _, e => by simp at e; subst e; exact ⟨_, rfl, r⟩
  | _, _, i + 1, d, .cons _ t, e => by
    obtain ⟨v, h1, h2⟩ := Reps.get' (i := i) t (by simpa using e)
    exact ⟨v, by simpa using h1, h2⟩
theorem Reps.append : ∀ {vs ws : List V} {ds es : List D}, Reps K H M vs ds → Reps K H M ws es → Reps K H M (vs ++ ws) (ds ++ es)
  | _, _, _, _, .nil, s => s
  | _, _, _, _, .cons r t, s => .cons r (Reps.append t s)
theorem Reps.set {v : V} {d : D} (r : Rep K H M v d) : ∀ {vs : List V} {ds : List D} (i : Nat), Reps K H M vs ds → Reps K H M (vs.set i v) (ds.set i d)
  | _, _, _, .nil => .nil
  | _, _, 0, .cons _ t => .cons r t
  | _, _, i + 1, .cons q t => .cons q (Reps.set r i t)
theorem Reps.take : ∀ {vs : List V} {ds : List D} (n : Nat), Reps K H M vs ds → Reps K H M (vs.take n) (ds.take n)
  | _, _, 0, _ => .nil
  | _, _, _ + 1, .nil => .nil
  | _, _, n + 1, .cons r t => .cons r (Reps.take n t)
theorem Reps.drop : ∀ {vs : List V} {ds : List D} (n : Nat), Reps K H M vs ds → Reps K H M (vs.drop n) (ds.drop n)
  | _, _, 0, r => r
  | _, _, _ + 1, .nil => .nil
  | _, _, n + 1, .cons _ t => Reps.drop n t
theorem RepF.lookup {f : Str} : ∀ {vs : List (Str × V)} {ds : List (Str × D)} {d : D}, RepF K H M vs ds → ds.lookup f = some d → ∃ v, vs.lookup f = some v ∧ Rep K H M v d
  | _, _, _, .nil, e => by simp at e
  | _, _, d, .cons (k := k) r t, e => by
    rw [List.lookup_cons] at e ⊢
    cases h : f == k with
    | true => rw [h] at e; cases e; exact ⟨_, rfl, r⟩
    | false => rw [h] at e; exact RepF.lookup t e
theorem RepF.length : ∀ {vs : List (Str × V)} {ds : List (Str × D)}, RepF K H M vs ds → vs.length = ds.length
  | _, _, .nil => rfl
  | _, _, .cons _ t => by simp [RepF.length t]
theorem RepF.lookup_none {f : Str} : ∀ {vs : List (Str × V)} {ds : List (Str × D)}, RepF K H M vs ds → ds.lookup f = none → vs.lookup f = none
  | _, _, .nil, _ => rfl
  | _, _, .cons (k := k) r t, e => by
    rw [List.lookup_cons] at e ⊢
    cases h : f == k with
    | true => rw [h] at e; cases e
    | false => rw [h] at e; exact RepF.lookup_none t e
end

/-- at f: this very object -/
def CloO (f : Addr) (o : Obj) : HO := .ext fun h => h.get? f = some o
/-- what has an address -/
inductive RepM (K : PySem.W.Frag) (H : Hp) (M : MH) : HO → MO → Prop
  | lst {vs xs} : Reps K H M vs xs → RepM K H M (.lst vs) (.lst xs)
  | dct {kvs kds} : RepK K H M kvs kds → RepM K H M (.dK kvs) (.dct kds)
  | ins {C dx fs ds o} : M dx = none → H dx = some o → RepF K H M fs ds → RepM K H M (.ins C dx fs) (.ins C ds)
  | tbl {q ps} : TriplesOk ps.toList → (∀ (pos : Pos) (cv : Value), codeAmong pos ps.toList = some cv → ∃ c, cv = .ref c ∧ H c = some (LamX.CodeO c q) ∧ M c = none) → RepM K H M (.tbl ps) (.tbl q)
  | clo {f o vs ds} : Reps K H M vs ds → RepM K H M (CloO f o) (.clo f o vs ds)
def Mut (K : PySem.W.Frag) (H : Hp) (M : MH) : Prop := ∀ a mo, M a = some mo → ∃ ho, H a = some ho ∧ RepM K H M ho mo
def Slots (K : PySem.W.Frag) (H : Hp) (M : MH) (σ : L2.St) (τ : EnvD) : Prop := σ.length = τ.length ∧ ∀ (i : Nat) (d : D), τ[i]? = some (some d) → ∃ v, σ[i]? = some (some v) ∧ Rep K H M v d
section
variable {K : PySem.W.Frag} {H H' : Hp} {M M' : MH} {σ : L2.St} {τ : EnvD}
theorem RepM.good (g : Good H M H' M') {ho : HO} {mo : MO} (h : RepM K H M ho mo) : RepM K H' M' ho mo := by
  cases h with
  | lst r => exact .lst (r.good g)
  | dct r => exact .dct (r.good g)
  | ins m e r => exact .ins (g _ _ e m).2 (g _ _ e m).1 (r.good g)
  | tbl t a => exact .tbl t fun pos cv e => let ⟨c, h1, h2, h3⟩ := a pos cv e; ⟨c, h1, (g _ _ h2 h3).1, (g _ _ h2 h3).2⟩
  | clo r => exact .clo (r.good g)
theorem Slots.good (g : Good H M H' M') (h : Slots K H M σ τ) : Slots K H' M' σ τ := ⟨h.1, fun i d e => let ⟨v, e1, r⟩ := h.2 i d e; ⟨v, e1, r.good g⟩⟩
theorem Slots.set {i : Nat} {v : V} {d : D} (h : Slots K H M σ τ) (r : Rep K H M v d) : Slots K H M (σ.set i (some v)) (τ.set i (some d)) := by
  refine ⟨by simp [h.1], fun j e q => ?_⟩
  by_cases hj : i = j
  · subst hj
    by_cases hl : i < τ.length
    · rw [List.getElem?_set_self hl] at q
      cases q
      exact ⟨v, List.getElem?_set_self (by rw [h.1]; exact hl), r⟩
    · rw [List.getElem?_eq_none (by simpa using hl)] at q
      cases q
  · rw [List.getElem?_set_ne hj] at q ⊢
    exact h.2 j e q
theorem Slots.unset {i : Nat} (h : Slots K H M σ τ) : Slots K H M (σ.set i none) (τ.set i none) := by
  refine ⟨by simp [h.1], fun j e q => ?_⟩
  by_cases hj : i = j
  · subst hj
    by_cases hl : i < τ.length
    · rw [List.getElem?_set_self hl] at q
      cases q
    · rw [List.getElem?_eq_none (by simpa using hl)] at q
      cases q
  · rw [List.getElem?_set_ne hj] at q ⊢
    exact h.2 j e q
end

/-! ### readings over trees -/
abbrev WD := Addr → List (Str × D) → EnvD → MH → Prop
abbrev QD := D → MH → Prop
abbrev TED := WD → EnvD → MH → QD → Prop
abbrev TTD := WD → EnvD → MH → (Bool → MH → Prop) → Prop
abbrev TAD := WD → EnvD → MH → (List D → MH → Prop) → Prop
structure EndsD where
  nx : EnvD → MH → Prop
  rt : QD
  bk : EnvD → MH → Prop := fun _ _ => False
  ct : EnvD → MH → Prop := fun _ _ => False
abbrev TSD := WD → EndsD → EnvD → MH → Prop

/-- an exception's own dict -/
def ExD (K : PySem.W.Frag) (H : Hp) (M : MH) (d : Option Addr) (fs : List (Str × D)) : Prop :=
  (∃ dx ws, d = some dx ∧ M dx = none ∧ H dx = some (.xd ws) ∧ RepF K H M ws fs) ∨ (d = none ∧ fs = [])
/-- the wish for exceptions, over trees -/
def liftW (K : PySem.W.Frag) (H0 : Hp) (M0 : MH) (W : WD) : WX := fun cls d σ H => ∃ C ds τ M, cls = .ref C ∧ ExD K H M d ds ∧ Good H0 M0 H M ∧ Slots K H M σ τ ∧ Mut K H M ∧ W C ds τ M
def upE (K : PySem.W.Frag) (H0 : Hp) (M0 : MH) (W : WD) (t : TED) : TE := fun σ H Q => ∃ τ M F, Good H0 M0 H M ∧ Slots K H M σ τ ∧ Mut K H M ∧ t W τ M F ∧
  ∀ v H' d M', Good H M H' M' → Mut K H' M' → Rep K H' M' v d → F d M' → Q v H'
def upT (K : PySem.W.Frag) (H0 : Hp) (M0 : MH) (W : WD) (t : TTD) : TT := fun σ H Q => ∃ τ M F, Good H0 M0 H M ∧ Slots K H M σ τ ∧ Mut K H M ∧ t W τ M F ∧
  ∀ b H' M', Good H M H' M' → Mut K H' M' → F b M' → Q b H'
def upA (K : PySem.W.Frag) (H0 : Hp) (M0 : MH) (W : WD) (t : TAD) : TA := fun σ H Q => ∃ τ M F, Good H0 M0 H M ∧ Slots K H M σ τ ∧ Mut K H M ∧ t W τ M F ∧
  ∀ vs H' ds M', Good H M H' M' → Mut K H' M' → Reps K H' M' vs ds → F ds M' → Q vs H'
def liftN (K : PySem.W.Frag) (H0 : Hp) (M0 : MH) (N : EnvD → MH → Prop) : L2.St → Hp → Prop := fun σ H => ∃ τ M, Good H0 M0 H M ∧ Slots K H M σ τ ∧ Mut K H M ∧ N τ M
def liftR (K : PySem.W.Frag) (H0 : Hp) (M0 : MH) (R : QD) : VK := fun v H => ∃ d M, Good H0 M0 H M ∧ Mut K H M ∧ Rep K H M v d ∧ R d M
def upS (K : PySem.W.Frag) (H0 : Hp) (M0 : MH) (W : WD) (t : TSD) : TS := fun D σ H => ∃ τ M F, Good H0 M0 H M ∧ Slots K H M σ τ ∧ Mut K H M ∧ t W F τ M ∧
  (∀ σ' H', liftN K H M F.nx σ' H' → D.nx σ' H') ∧ (∀ v H', liftR K H M F.rt v H' → D.rt v H') ∧ (∀ σ' H', liftN K H M F.bk σ' H' → D.bk σ' H') ∧ (∀ σ' H', liftN K H M F.ct σ' H' → D.ct σ' H')
theorem liftN.tr {K : PySem.W.Frag} {H H1 H2 : Hp} {M M1 : MH} {N : EnvD → MH → Prop} {σ : L2.St} (g : Good H M H1 M1) (h : liftN K H1 M1 N σ H2) : liftN K H M N σ H2 := let ⟨τ, M2, g2, sl, mu, q⟩ := h; ⟨τ, M2, g.trans g2, sl, mu, q⟩
theorem liftR.tr {K : PySem.W.Frag} {H H1 H2 : Hp} {M M1 : MH} {R : QD} {v : V} (g : Good H M H1 M1) (h : liftR K H1 M1 R v H2) : liftR K H M R v H2 := let ⟨d, M2, g2, mu, r, q⟩ := h; ⟨d, M2, g.trans g2, mu, r, q⟩

/-- a place where code runs: X up to what is wished of exceptions -/
structure At (X : Cx) (pn : List (Addr × Obj)) (xe : Value → Shared → Prop) (H0 : Hp) (M0 : MH) (W : WD) : Prop where
  tk : Takes (X.tr pn xe) (liftW X.K H0 M0 W)
  po : PassesOwn (model X.prog X.w) X.A X.env xe
def PD (X : Cx) (e : Expr) (t : TED) : Prop := ∀ pn xe H0 M0 W, At X pn xe H0 M0 W → PE (X.tr pn xe) e (upE X.K H0 M0 W t)
def PDT (X : Cx) (e : Expr) (t : TTD) : Prop := ∀ pn xe H0 M0 W, At X pn xe H0 M0 W → PT (X.tr pn xe) e (upT X.K H0 M0 W t)
def PDW (X : Cx) (e : Expr) (t : TTD) : Prop := ∀ pn xe H0 M0 W, At X pn xe H0 M0 W → PW (X.tr pn xe) e (upT X.K H0 M0 W t)
def PDA (X : Cx) (es : List Expr) (t : TAD) : Prop := ∀ pn xe H0 M0 W, At X pn xe H0 M0 W → PA (X.tr pn xe) es (upA X.K H0 M0 W t)
def PDS (X : Cx) (s : Stmt) (t : TSD) : Prop := ∀ pn xe H0 M0 W, At X pn xe H0 M0 W → PS (X.tr pn xe) s (upS X.K H0 M0 W t)
def PDB (X : Cx) (s : List Stmt) (t : TSD) : Prop := ∀ pn xe H0 M0 W, At X pn xe H0 M0 W → PSs (X.tr pn xe) s (upS X.K H0 M0 W t)
end Z

set_option Elab.async false
set_option linter.all false
set_option maxRecDepth 100000
set_option maxHeartbeats 4000000
namespace Z
open PySem L2 PySem.Spec PyProof.Rows

theorem imE {X : Cx} {e : Expr} {t t' : TE} (h : PE X e t) (i : ∀ σ H Q, t' σ H Q → t σ H Q) : PE X e t' := ⟨fun pins s σ H Q I q => h.run pins s σ H Q I (i σ H Q q)⟩
theorem imT {X : Cx} {e : Expr} {t t' : TT} (h : PT X e t) (i : ∀ σ H Q, t' σ H Q → t σ H Q) : PT X e t' := ⟨fun pins s σ H Q I q => h.run pins s σ H Q I (i σ H Q q)⟩
theorem imW {X : Cx} {e : Expr} {t t' : TT} (h : PW X e t) (i : ∀ σ H Q, t' σ H Q → t σ H Q) : PW X e t' := ⟨fun w pins s σ H Q I q => h.run w pins s σ H Q I (i σ H Q q)⟩
theorem imA {X : Cx} {e : List Expr} {t t' : TA} (h : PA X e t) (i : ∀ σ H Q, t' σ H Q → t σ H Q) : PA X e t' := ⟨fun pos pins s σ H Q I q => h.run pos pins s σ H Q I (i σ H Q q)⟩
theorem imS {X : Cx} {e : Stmt} {t t' : TS} (h : PS X e t) (i : ∀ D σ H, t' D σ H → t D σ H) : PS X e t' := ⟨fun pins s σ H D I q => h.run pins s σ H D I (i D σ H q)⟩
theorem imB {X : Cx} {e : List Stmt} {t t' : TS} (h : PSs X e t) (i : ∀ D σ H, t' D σ H → t D σ H) : PSs X e t' := ⟨fun pins s σ H D I q => h.run pins s σ H D I (i D σ H q)⟩

/-! ### slots by their places -/
def getN : EnvD → Nat → Option D
  | [], _ => none
  | x :: _, 0 => x
  | _ :: r, n + 1 => getN r n
def setN : EnvD → Nat → Option D → EnvD
  | [], _, _ => []
  | _ :: r, 0, d => d :: r
  | x :: r, n + 1, d => x :: setN r n d
theorem getN_some : ∀ {τ : EnvD} {i : Nat} {d : D}, getN τ i = some d → τ[i]? = some (some d)
  | [], _, _, h => by cases h
  | x :: _, 0, d, h => by simp [getN] at h; subst h; rfl
  | _ :: r, n + 1, d, h => by simpa using getN_some (τ := r) (i := n) h
theorem setN_eq : ∀ (τ : EnvD) (i : Nat) (d : Option D), setN τ i d = τ.set i d
  | [], _, _ => rfl
  | _ :: _, 0, _ => rfl
  | x :: r, n + 1, d => by show x :: setN r n d = x :: r.set n d; rw [setN_eq r n d]

/-! ### relations between operations on values and on trees -/
abbrev R2D := D → D → MH → QD → Prop
abbrev RCD := List D → MH → QD → Prop
/-- behind an operation -/
abbrev Fin (K : PySem.W.Frag) (H : Hp) (M : MH) (F : QD) (Q : VK) : Prop := ∀ v H' d M', Good H M H' M' → Mut K H' M' → Rep K H' M' v d → F d M' → Q v H'
def SimOp (K : PySem.W.Frag) (r : R2) (rd : R2D) : Prop := ∀ x y d e H M F Q, Rep K H M x d → Rep K H M y e → Mut K H M → rd d e M F → Fin K H M F Q → r x y H Q
def SimU (K : PySem.W.Frag) (r : V → Hp → VK → Prop) (rd : D → MH → QD → Prop) : Prop := ∀ x d H M F Q, Rep K H M x d → Mut K H M → rd d M F → Fin K H M F Q → r x H Q
def SimC (K : PySem.W.Frag) (r : List V → Hp → VK → Prop) (rd : RCD) : Prop := ∀ xs ds H M F Q, Reps K H M xs ds → Mut K H M → rd ds M F → Fin K H M F Q → r xs H Q

/-! ### expressions -/
def tVarD (i : Nat) : TED := fun _ τ M Q => match getN τ i with | some d => Q d M | none => False
def tCD (d : D) : TED := fun _ _ M Q => Q d M
def tOpD (r : R2D) (ta tb : TED) : TED := fun W τ M Q => ta W τ M fun x M1 => tb W τ M1 fun y M2 => r x y M2 Q
def tUnD (r : D → MH → QD → Prop) (ta : TED) : TED := fun W τ M Q => ta W τ M fun x M1 => r x M1 Q
def tNilD : TAD := fun _ _ M Q => Q [] M
def tConsD (ta : TED) (tr : TAD) : TAD := fun W τ M Q => ta W τ M fun x M1 => tr W τ M1 fun xs M2 => Q (x :: xs) M2
def tCBD (r : RCD) (t : TAD) : TED := fun W τ M Q => t W τ M fun ds M1 => r ds M1 Q
section
variable {X : Cx} {e a b c : Expr} {es : List Expr} {t ta tb tc : TED} {ts : TAD} {pos p : Pos}

theorem upE_fin {K : PySem.W.Frag} {H0 : Hp} {M0 : MH} {W : WD} {σ : L2.St} {H : Hp} {M : MH} {τ : EnvD} {t : TED} {F : QD} {Q : VK} (g0 : Good H0 M0 H M) (sl : Slots K H M σ τ) (mu : Mut K H M) (h : t W τ M F) (k : Fin K H M F Q) : upE K H0 M0 W t σ H Q :=
  ⟨τ, M, F, g0, sl, mu, h, k⟩

theorem pd_var (i : Nat) {x : Str} (hN : X.N[i]? = some x := by rfl) (hv : Vis X.env.scope x := by first | exact Or.inl rfl | exact Or.inr (Or.inl rfl) | exact Or.inr (Or.inr rfl)) (hd : (x == ("__debug__" : Str)) = false := by decide)
    (hcd : (x == ("__classdict__" : Str)) = false := by decide) : PD X (.Name x pos) (tVarD i) := fun pn xe H0 M0 W at_ =>
  imE (pe_var (X := X.tr pn xe) hN hv hd hcd) fun σ H Q ⟨τ, M, F, g0, sl, mu, h, k⟩ => by
    unfold tVarD at h
    cases q : getN τ i with
    | none => rw [q] at h; exact h.elim
    | some d =>
      rw [q] at h
      obtain ⟨v, e1, r⟩ := sl.2 i d (getN_some q)
      exact ⟨v, e1, k v H d M .refl mu r h⟩
theorem pd_c {v : V} {d : D} (h : ∀ pn xe, PE (X.tr pn xe) e (tC v)) (r : ∀ K H M, Rep K H M v d) : PD X e (tCD d) := fun pn xe H0 M0 W at_ =>
  imE (h pn xe) fun σ H Q ⟨τ, M, F, g0, sl, mu, h, k⟩ => k v H d M .refl mu (r _ _ _) h
theorem pd_int {i j} : PD X (.Constant (.int i) j pos) (tCD (.int i)) := pd_c (fun _ _ => pe_int) fun _ _ _ => .int i
theorem pd_bl {i j} : PD X (.Constant (.bool i) j pos) (tCD (.bl i)) := pd_c (fun _ _ => pe_bl) fun _ _ _ => .bl i
theorem pd_non {j} : PD X (.Constant .none j pos) (tCD .non) := pd_c (fun _ _ => pe_non) fun _ _ _ => .non
theorem pd_str {i j} : PD X (.Constant (.str i) j pos) (tCD (.str i)) := pd_c (fun _ _ => pe_str) fun _ _ _ => .str i
/-- a def, a class -/
theorem pd_glob {x : Str} {f : Addr} (hm : X.mg x = some (.ref f)) (hg : Gl X x := by rfl) (hd : (x == ("__debug__" : Str)) = false := by decide) : PD X (.Name x pos) (tCD (.ref f)) :=
  pd_c (fun pn xe => pe_glob (X := X.tr pn xe) (v := .ref f) hg hm rfl hd) fun _ _ _ => .ref f
/-- a built-in type -/
theorem pd_ty {x : Str} {n : String} (hm : X.mg x = none) (hv : bootBuiltins x = some (.type n) := by decide +kernel) (hg : Gl X x := by rfl) (hn : x ≠ "__name__" := by decide) (hd : (x == ("__debug__" : Str)) = false := by decide) : PD X (.Name x pos) (tCD (.ty n)) :=
  pd_c (fun pn xe => pe_bltn (X := X.tr pn xe) (v := .ty n) hg hm hv rfl hn hd) fun _ _ _ => .ty n

theorem pd_op {op : Operator} {r : R2} {rd : R2D} (ho : ∀ pn xe, OpR (X.tr pn xe) (binaryOp op) r) (hs : SimOp X.K r rd) (ha : PD X a ta) (hb : PD X b tb) : PD X (.BinOp a op b pos) (tOpD rd ta tb) := fun pn xe H0 M0 W at_ =>
  imE (pe_op (ho pn xe) (ha pn xe H0 M0 W at_) (hb pn xe H0 M0 W at_)) fun σ H Q ⟨τ, M, F, g0, sl, mu, h, k⟩ =>
    upE_fin g0 sl mu h fun x H1 d M1 g1 mu1 r1 h1 => upE_fin (g0.trans g1) (sl.good g1) mu1 h1 fun y H2 e M2 g2 mu2 r2 h2 =>
      hs x y d e H2 M2 F Q (r1.good g2) r2 mu2 h2 fun v H' d' M' g' mu' r' f' => k v H' d' M' ((g1.trans g2).trans g') mu' r' f'
theorem pd_cmp {op : CmpOp} {r : R2} {rd : R2D} (ho : ∀ pn xe, OpR (X.tr pn xe) (compareOp op) r) (hs : SimOp X.K r rd) (ha : PD X a ta) (hb : PD X b tb) (hm : behindInMarks op b = false := by first | exact nomark _ | rfl) : PD X (.Compare a [op] [b] pos) (tOpD rd ta tb) := fun pn xe H0 M0 W at_ =>
  imE (pe_cmpR (ho pn xe) (ha pn xe H0 M0 W at_) (hb pn xe H0 M0 W at_) hm) fun σ H Q ⟨τ, M, F, g0, sl, mu, h, k⟩ =>
    upE_fin g0 sl mu h fun x H1 d M1 g1 mu1 r1 h1 => upE_fin (g0.trans g1) (sl.good g1) mu1 h1 fun y H2 e M2 g2 mu2 r2 h2 =>
      hs x y d e H2 M2 F Q (r1.good g2) r2 mu2 h2 fun v H' d' M' g' mu' r' f' => k v H' d' M' ((g1.trans g2).trans g') mu' r' f'
theorem pd_un {op : UnaryOp} {r : V → Hp → VK → Prop} {rd : D → MH → QD → Prop} (ho : ∀ pn xe, UnR (X.tr pn xe) (unaryOp op) r) (hs : SimU X.K r rd) (ha : PD X a ta) : PD X (.UnaryOp op a pos) (tUnD rd ta) := fun pn xe H0 M0 W at_ =>
  imE (pe_un (ho pn xe) (ha pn xe H0 M0 W at_)) fun σ H Q ⟨τ, M, F, g0, sl, mu, h, k⟩ =>
    upE_fin g0 sl mu h fun x H1 d M1 g1 mu1 r1 h1 => hs x d H1 M1 F Q r1 mu1 h1 fun v H' d' M' g' mu' r' f' => k v H' d' M' (g1.trans g') mu' r' f'

/-! ### arguments, displays -/
theorem pda_nil : PDA X [] tNilD := fun pn xe H0 M0 W at_ => imA pa_nil fun σ H Q ⟨τ, M, F, g0, sl, mu, h, k⟩ => k [] H [] M .refl mu .nil h
theorem pda_cons (ha : PD X e t) (hr : PDA X es ts) (hs : starEach (e :: es) X.env = (false, eval e X.env) :: starEach es X.env := by rfl) : PDA X (e :: es) (tConsD t ts) := fun pn xe H0 M0 W at_ =>
  imA (pa_cons (X := X.tr pn xe) (ha pn xe H0 M0 W at_) (hr pn xe H0 M0 W at_) hs) fun σ H Q ⟨τ, M, F, g0, sl, mu, h, k⟩ =>
    upE_fin g0 sl mu h fun x H1 d M1 g1 mu1 r1 h1 => ⟨τ, M1, _, g0.trans g1, sl.good g1, mu1, h1, fun xs H2 ds M2 g2 mu2 r2 h2 => k (x :: xs) H2 (d :: ds) M2 (g1.trans g2) mu2 (.cons (r1.good g2) r2) h2⟩

theorem good_new {H : Hp} {M : MH} {p : Addr} {o : HO} (hp : H p = none) : Good H M (upd H p o) M := fun a u h m => ⟨by rw [upd_ne (ne_of_none h hp)]; exact h, m⟩
theorem good_put {H : Hp} {M : MH} {p : Addr} {o : HO} {mo : MO} (hp : H p = none) : Good H M (upd H p o) (mput M p mo) := fun a u h m => ⟨by rw [upd_ne (ne_of_none h hp)]; exact h, by rw [mput_ne (ne_of_none h hp)]; exact m⟩
theorem mut_none {K : PySem.W.Frag} {H : Hp} {M : MH} {p : Addr} (mu : Mut K H M) (hp : H p = none) : M p = none := by
  cases q : M p with
  | none => rfl
  | some mo => obtain ⟨ho, e, _⟩ := mu p mo q; rw [hp] at e; cases e
theorem mut_new {K : PySem.W.Frag} {H : Hp} {M : MH} {p : Addr} {o : HO} (mu : Mut K H M) (hp : H p = none) : Mut K (upd H p o) M := fun a mo e => by
  obtain ⟨ho, e1, r⟩ := mu a mo e
  exact ⟨ho, by rw [upd_ne (ne_of_none e1 hp)]; exact e1, r.good (good_new hp)⟩
theorem mut_put {K : PySem.W.Frag} {H : Hp} {M : MH} {p : Addr} {o : HO} {mo : MO} (mu : Mut K H M) (hp : H p = none) (r : RepM K H M o mo) : Mut K (upd H p o) (mput M p mo) := fun a mo' e => by
  by_cases h : a = p
  · subst h
    rw [mput_same] at e
    cases e
    exact ⟨o, upd_same, r.good (good_put hp)⟩
  · rw [mput_ne h] at e
    obtain ⟨ho, e1, r⟩ := mu a mo' e
    exact ⟨ho, by rw [upd_ne h]; exact e1, r.good (good_put hp)⟩
theorem good_write {H : Hp} {M : MH} {p : Addr} {o : HO} {mo mo' : MO} (hp : M p = some mo') : Good H M (upd H p o) (mput M p mo) := fun a u h m => by
  have n : a ≠ p := fun e => by rw [e, hp] at m; cases m
  exact ⟨by rw [upd_ne n]; exact h, by rw [mput_ne n]; exact m⟩
theorem mut_write {K : PySem.W.Frag} {H : Hp} {M : MH} {p : Addr} {o : HO} {mo mo' : MO} (mu : Mut K H M) (hp : M p = some mo') (r : RepM K H M o mo) : Mut K (upd H p o) (mput M p mo) := fun a m e => by
  by_cases h : a = p
  · subst h
    rw [mput_same] at e
    cases e
    exact ⟨o, upd_same, r.good (good_write hp)⟩
  · rw [mput_ne h] at e
    obtain ⟨ho, e1, r⟩ := mu a m e
    exact ⟨ho, by rw [upd_ne h]; exact e1, r.good (good_write hp)⟩
theorem good_del {H : Hp} {M : MH} {p : Addr} : Good H M H (mdel M p) := fun a u h m => ⟨h, by unfold mdel; split <;> first | rfl | exact m⟩
theorem mut_del {K : PySem.W.Frag} {H : Hp} {M : MH} {p : Addr} (mu : Mut K H M) : Mut K H (mdel M p) := fun a mo e => by
  by_cases h : a = p
  · subst h; rw [mdel_same] at e; cases e
  · rw [mdel_ne h] at e
    obtain ⟨ho, e1, r⟩ := mu a mo e
    exact ⟨ho, e1, r.good good_del⟩

def tTupD (t : TAD) : TED := fun W τ M Q => t W τ M fun ds M1 => decide (ds.length ≤ 16777216) = true ∧ Q (.tup ds) M1
def tLstD (t : TAD) : TED := fun W τ M Q => t W τ M fun ds M1 => decide (ds.length ≤ 16777216) = true ∧ Q (.lst ds) M1
/-- a list that is going to be changed -/
def tLstM (t : TAD) : TED := fun W τ M Q => t W τ M fun ds M1 => decide (ds.length ≤ 16777216) = true ∧ ∀ p, M1 p = none → Q (.ref p) (mput M1 p (.lst ds))
theorem szl {n : Nat} (h : decide (n ≤ 16777216) = true) : n ≤ sizeLine := by rw [sizeLine_eq]; exact of_decide_eq_true h
theorem rep_tup {K : PySem.W.Frag} {H : Hp} {M : MH} {p : Addr} {vs : List V} {ds : List D} (mu : Mut K H M) (hp : H p = none) (r : Reps K H M vs ds) : Rep K (upd H p (.tup vs)) M (.ref p) (.tup ds) :=
  .tup (.inl ⟨mut_none mu hp, .inl upd_same⟩) (r.good (good_new hp))
theorem rep_lst {K : PySem.W.Frag} {H : Hp} {M : MH} {p : Addr} {vs : List V} {ds : List D} (mu : Mut K H M) (hp : H p = none) (r : Reps K H M vs ds) : Rep K (upd H p (.lst vs)) M (.ref p) (.lst ds) :=
  .lst (.inl ⟨mut_none mu hp, .inl upd_same⟩) (r.good (good_new hp))
theorem pd_tup {x1} (h : PDA X es ts) : PD X (.Tuple es x1 pos) (tTupD ts) := fun pn xe H0 M0 W at_ =>
  imE (pe_tup (h pn xe H0 M0 W at_)) fun σ H Q ⟨τ, M, F, g0, sl, mu, h, k⟩ => ⟨τ, M, _, g0, sl, mu, h, fun vs H1 ds M1 g1 mu1 r ⟨z, q⟩ =>
    ⟨by rw [r.length]; exact szl z, fun p hp => k _ _ _ M1 (g1.trans (good_new hp)) (mut_new mu1 hp) (rep_tup mu1 hp r) q⟩⟩
theorem pd_lst (h : PDA X es ts) : PD X (.List es pos) (tLstD ts) := fun pn xe H0 M0 W at_ =>
  imE (pe_lst (h pn xe H0 M0 W at_)) fun σ H Q ⟨τ, M, F, g0, sl, mu, h, k⟩ => ⟨τ, M, _, g0, sl, mu, h, fun vs H1 ds M1 g1 mu1 r ⟨z, q⟩ =>
    ⟨by rw [r.length]; exact szl z, fun p hp => k _ _ _ M1 (g1.trans (good_new hp)) (mut_new mu1 hp) (rep_lst mu1 hp r) q⟩⟩
theorem pd_lstM (h : PDA X es ts) : PD X (.List es pos) (tLstM ts) := fun pn xe H0 M0 W at_ =>
  imE (pe_lst (h pn xe H0 M0 W at_)) fun σ H Q ⟨τ, M, F, g0, sl, mu, h, k⟩ => ⟨τ, M, _, g0, sl, mu, h, fun vs H1 ds M1 g1 mu1 r ⟨z, q⟩ =>
    ⟨by rw [r.length]; exact szl z, fun p hp => k _ _ _ _ (g1.trans (good_put hp)) (mut_put mu1 hp (.lst r)) (.ref p) (q p (mut_none mu1 hp))⟩⟩

/-! ### and, or, not, if -/
def tTestB (t : TED) : TTD := fun W τ M Q => t W τ M fun d M1 => match d with | .bl b => Q b M1 | _ => False
def tAndD (t u : TTD) : TTD := fun W τ M Q => t W τ M fun c M1 => (c = true → u W τ M1 Q) ∧ (c = false → Q false M1)
def tOrD (t u : TTD) : TTD := fun W τ M Q => t W τ M fun c M1 => (c = true → Q true M1) ∧ (c = false → u W τ M1 Q)
def tNotD (t : TTD) : TTD := fun W τ M Q => t W τ M fun c M1 => Q (!c) M1
def tAndE (t u : TED) : TED := fun W τ M Q => t W τ M fun d M1 => match d with | .bl c => (c = true → u W τ M1 Q) ∧ (c = false → Q (.bl false) M1) | _ => False
def tOrE (t u : TED) : TED := fun W τ M Q => t W τ M fun d M1 => match d with | .bl c => (c = true → Q (.bl true) M1) ∧ (c = false → u W τ M1 Q) | _ => False
def tNotE (t : TED) : TED := fun W τ M Q => t W τ M fun d M1 => match d with | .bl c => Q (.bl (!c)) M1 | _ => False
def tIfE (t : TTD) (ta tb : TED) : TED := fun W τ M Q => t W τ M fun c M1 => (c = true → ta W τ M1 Q) ∧ (c = false → tb W τ M1 Q)
variable {u u' : TTD} {rest : List Expr} {op : BoolOp}
theorem pd_one (h : PD X a ta) : PD X (.BoolOp op [a] pos) ta := fun pn xe H0 M0 W at_ => pe_one (h pn xe H0 M0 W at_)
theorem pd_and (ha : PD X a ta) (hb : PD X (.BoolOp .And (b :: rest) pos) tb) : PD X (.BoolOp .And (a :: b :: rest) pos) (tAndE ta tb) := fun pn xe H0 M0 W at_ =>
  imE (pe_and (ha pn xe H0 M0 W at_) (hb pn xe H0 M0 W at_)) fun σ H Q ⟨τ, M, F, g0, sl, mu, h, k⟩ => upE_fin g0 sl mu h fun x H1 d M1 g1 mu1 r1 h1 => by
    cases r1 with
    | bl c =>
      refine ⟨c, rfl, ?_⟩
      cases c with
      | true =>
        rw [if_pos rfl]
        exact upE_fin (g0.trans g1) (sl.good g1) mu1 (h1.1 rfl) fun y H2 e M2 g2 => k y H2 e M2 (g1.trans g2)
      | false =>
        rw [if_neg Bool.false_ne_true]
        exact k _ _ _ _ g1 mu1 (.bl _) (h1.2 rfl)
    | _ => exact h1.elim
theorem pd_or (ha : PD X a ta) (hb : PD X (.BoolOp .Or (b :: rest) pos) tb) : PD X (.BoolOp .Or (a :: b :: rest) pos) (tOrE ta tb) := fun pn xe H0 M0 W at_ =>
  imE (pe_or (ha pn xe H0 M0 W at_) (hb pn xe H0 M0 W at_)) fun σ H Q ⟨τ, M, F, g0, sl, mu, h, k⟩ => upE_fin g0 sl mu h fun x H1 d M1 g1 mu1 r1 h1 => by
    cases r1 with
    | bl c =>
      refine ⟨c, rfl, ?_⟩
      cases c with
      | true =>
        rw [if_pos rfl]
        exact k _ _ _ _ g1 mu1 (.bl _) (h1.1 rfl)
      | false =>
        rw [if_neg Bool.false_ne_true]
        exact upE_fin (g0.trans g1) (sl.good g1) mu1 (h1.2 rfl) fun y H2 e M2 g2 => k y H2 e M2 (g1.trans g2)
    | _ => exact h1.elim
theorem pd_not (ha : PD X a ta) : PD X (.UnaryOp .Not a pos) (tNotE ta) := fun pn xe H0 M0 W at_ =>
  imE (pe_not (ha pn xe H0 M0 W at_)) fun σ H Q ⟨τ, M, F, g0, sl, mu, h, k⟩ => upE_fin g0 sl mu h fun x H1 d M1 g1 mu1 r1 h1 => by
    cases r1 with
    | bl c => exact ⟨c, rfl, k _ _ _ _ g1 mu1 (.bl _) h1⟩
    | _ => exact h1.elim
/-- behind a test -/
abbrev FinT (K : PySem.W.Frag) (H : Hp) (M : MH) (F : Bool → MH → Prop) (Q : Bool → Hp → Prop) : Prop := ∀ b H' M', Good H M H' M' → Mut K H' M' → F b M' → Q b H'
theorem upT_fin {K : PySem.W.Frag} {H0 : Hp} {M0 : MH} {W : WD} {σ : L2.St} {H : Hp} {M : MH} {τ : EnvD} {t : TTD} {F : Bool → MH → Prop} {Q : Bool → Hp → Prop} (g0 : Good H0 M0 H M) (sl : Slots K H M σ τ) (mu : Mut K H M) (h : t W τ M F) (k : FinT K H M F Q) : upT K H0 M0 W t σ H Q :=
  ⟨τ, M, F, g0, sl, mu, h, k⟩
theorem pd_ifE (hc : PDT X c u) (ha : PD X a ta) (hb : PD X b tb) : PD X (.IfExp c a b pos) (tIfE u ta tb) := fun pn xe H0 M0 W at_ =>
  imE (pe_ifExp (hc pn xe H0 M0 W at_) (ha pn xe H0 M0 W at_) (hb pn xe H0 M0 W at_)) fun σ H Q ⟨τ, M, F, g0, sl, mu, h, k⟩ => upT_fin g0 sl mu h fun c H1 M1 g1 mu1 h1 => by
    cases c with
    | true =>
      rw [if_pos rfl]
      exact upE_fin (g0.trans g1) (sl.good g1) mu1 (h1.1 rfl) fun y H2 e M2 g2 => k y H2 e M2 (g1.trans g2)
    | false =>
      rw [if_neg Bool.false_ne_true]
      exact upE_fin (g0.trans g1) (sl.good g1) mu1 (h1.2 rfl) fun y H2 e M2 g2 => k y H2 e M2 (g1.trans g2)
theorem pdt_w (h : PDW X a u) : PDT X a u := fun pn xe H0 M0 W at_ => (h pn xe H0 M0 W at_).pt
theorem pdt_cmp {op : CmpOp} {r : R2} {rd : R2D} (ho : ∀ pn xe, OpR (X.tr pn xe) (compareOp op) r) (hs : SimOp X.K r rd) (ha : PD X a ta) (hb : PD X b tb) (hm : behindInMarks op b = false := by first | exact nomark _ | rfl) : PDT X (.Compare a [op] [b] pos) (tTestB (tOpD rd ta tb)) := fun pn xe H0 M0 W at_ =>
  imT (pt_cmpR (ho pn xe) (ha pn xe H0 M0 W at_) (hb pn xe H0 M0 W at_) hm) fun σ H Q ⟨τ, M, F, g0, sl, mu, h, k⟩ =>
    upE_fin g0 sl mu h fun x H1 d M1 g1 mu1 r1 h1 => upE_fin (g0.trans g1) (sl.good g1) mu1 h1 fun y H2 e M2 g2 mu2 r2 h2 =>
      hs x y d e H2 M2 _ _ (r1.good g2) r2 mu2 h2 fun v H' d' M' g' mu' r' f' => by
        cases r' with
        | bl c => exact ⟨c, rfl, k c H' M' ((g1.trans g2).trans g') mu' f'⟩
        | _ => exact f'.elim
theorem pdw_and1 (ha : PDT X a u) : PDW X (.BoolOp .And [a] pos) u := fun pn xe H0 M0 W at_ => pw_and1 (ha pn xe H0 M0 W at_)
theorem pdw_or1 (ha : PDT X a u) : PDW X (.BoolOp .Or [a] pos) u := fun pn xe H0 M0 W at_ => pw_or1 (ha pn xe H0 M0 W at_)
theorem pdw_and (ha : PDT X a u) (hb : PDW X (.BoolOp .And (b :: rest) pos) u') : PDW X (.BoolOp .And (a :: b :: rest) pos) (tAndD u u') := fun pn xe H0 M0 W at_ =>
  imW (pw_and (ha pn xe H0 M0 W at_) (hb pn xe H0 M0 W at_)) fun σ H Q ⟨τ, M, F, g0, sl, mu, h, k⟩ => upT_fin g0 sl mu h fun c H1 M1 g1 mu1 h1 => by
    cases c with
    | true =>
      rw [if_pos rfl]
      exact upT_fin (g0.trans g1) (sl.good g1) mu1 (h1.1 rfl) fun b H2 M2 g2 => k b H2 M2 (g1.trans g2)
    | false =>
      rw [if_neg Bool.false_ne_true]
      exact k _ _ _ g1 mu1 (h1.2 rfl)
theorem pdw_or (ha : PDT X a u) (hb : PDW X (.BoolOp .Or (b :: rest) pos) u') : PDW X (.BoolOp .Or (a :: b :: rest) pos) (tOrD u u') := fun pn xe H0 M0 W at_ =>
  imW (pw_or (ha pn xe H0 M0 W at_) (hb pn xe H0 M0 W at_)) fun σ H Q ⟨τ, M, F, g0, sl, mu, h, k⟩ => upT_fin g0 sl mu h fun c H1 M1 g1 mu1 h1 => by
    cases c with
    | true =>
      rw [if_pos rfl]
      exact k _ _ _ g1 mu1 (h1.1 rfl)
    | false =>
      rw [if_neg Bool.false_ne_true]
      exact upT_fin (g0.trans g1) (sl.good g1) mu1 (h1.2 rfl) fun b H2 M2 g2 => k b H2 M2 (g1.trans g2)
theorem pdt_not (ha : PDT X a u) : PDT X (.UnaryOp .Not a pos) (tNotD u) := fun pn xe H0 M0 W at_ =>
  imT (pt_not (ha pn xe H0 M0 W at_)) fun σ H Q ⟨τ, M, F, g0, sl, mu, h, k⟩ => upT_fin g0 sl mu h fun c H1 M1 g1 mu1 h1 => k _ _ _ g1 mu1 h1

/-! ### truth of values -/
def truthD (d : D) (M : MH) : Option Bool := match d with
  | .non => some false
  | .bl b => some b
  | .int i => some (i != 0)
  | .lst xs => some (!xs.isEmpty)
  | .tup xs => some (!xs.isEmpty)
  | .dct xs => some (!xs.isEmpty)
  | .ref a => match M a with | some (.lst xs) => some (!xs.isEmpty) | some (.dct xs) => some (!xs.isEmpty) | _ => none
  | _ => none
def tTruD (t : TED) : TTD := fun W τ M Q => t W τ M fun d M1 => match truthD d M1 with | some b => Q b M1 | none => False
theorem reps_emp {K : PySem.W.Frag} {H : Hp} {M : MH} {vs : List V} {ds : List D} (r : Reps K H M vs ds) : ds.isEmpty = vs.isEmpty := by cases r <;> rfl
theorem repk_emp {K : PySem.W.Frag} {H : Hp} {M : MH} {vs : List (Key × V)} {ds : List (Key × D)} (r : RepK K H M vs ds) : ds.isEmpty = vs.isEmpty := by cases r <;> rfl
theorem tru_sim {K : PySem.W.Frag} {H : Hp} {M : MH} {x : V} {d : D} {b : Bool} (r : Rep K H M x d) (mu : Mut K H M) (h : truthD d M = some b) : TruV K x H b := by
  cases r with
  | non => cases h; exact rfl
  | bl c => cases h; exact rfl
  | int i => cases h; exact rfl
  | lst hr rs => cases h; exact .inl ⟨_, hr.sq, by rw [reps_emp rs]⟩
  | tup hr rs => cases h; exact .inr (.inl ⟨_, hr.sq, by rw [reps_emp rs]⟩)
  | dct m e rs => cases h; exact .inr (.inr ⟨_, e, by rw [repk_emp rs]⟩)
  | ref a =>
    unfold truthD at h
    dsimp only at h
    cases q : M a with
    | none => rw [q] at h; cases h
    | some mo =>
      rw [q] at h
      obtain ⟨ho, e, r⟩ := mu a mo q
      cases r with
      | lst rs => cases h; exact .inl ⟨_, .inl (.inl e), by rw [reps_emp rs]⟩
      | dct rs => cases h; exact .inr (.inr ⟨_, e, by rw [repk_emp rs]⟩)
      | ins _ _ _ => cases h
      | tbl _ _ => cases h
      | clo _ => cases h
  | _ => cases h
theorem pdt_tru (ha : PD X a ta) (he : ∀ whole, isTrue a X.env whole = (do let v ← whole; standAt a.pos; holding [v] (truthy v)) := by intro _; rfl) : PDT X a (tTruD ta) := fun pn xe H0 M0 W at_ =>
  imT (pt_truth (X := X.tr pn xe) (ha pn xe H0 M0 W at_) he) fun σ H Q ⟨τ, M, F, g0, sl, mu, h, k⟩ => upE_fin g0 sl mu h fun x H1 d M1 g1 mu1 r1 h1 => by
    cases q : truthD d M1 with
    | none => rw [q] at h1; exact h1.elim
    | some b =>
      rw [q] at h1
      exact ⟨b, tru_sim r1 mu1 q, k b H1 M1 g1 mu1 h1⟩
end
end Z

set_option Elab.async false
set_option linter.all false
set_option maxRecDepth 100000
set_option maxHeartbeats 4000000
namespace Z
open PySem L2 PySem.Spec PyProof.Rows

/-! ### what a def promises, over trees -/
abbrev ED := Addr → List (Str × D) → MH → Prop
abbrev SpD := List D → MH → QD → ED → Prop
def spOf (K : PySem.W.Frag) (sp : SpD) : Sp := fun vs H Q E => ∃ ds M F FE, Reps K H M vs ds ∧ Mut K H M ∧ sp ds M F FE ∧ Fin K H M F Q ∧
  ∀ C fs d H' M', Good H M H' M' → Mut K H' M' → ExD K H' M' d fs → FE C fs M' → E (.ref C) d H'
def startD (N : List Str) (ds : List D) : EnvD := ds.map some ++ List.replicate (N.length - ds.length) none
theorem slots_start {K : PySem.W.Frag} {H : Hp} {M : MH} {N : List Str} {vs : List V} {ds : List D} (r : Reps K H M vs ds) : Slots K H M (L2.start N vs) (startD N ds) := by
  unfold L2.start startD
  have hl := r.length
  refine ⟨by simp [hl], fun i d e => ?_⟩
  by_cases hi : i < ds.length
  · rw [List.getElem?_append_left (by simpa using hi), List.getElem?_map] at e
    cases q : ds[i]? with
    | none => rw [q] at e; cases e
    | some d' =>
      rw [q] at e
      cases e
      obtain ⟨v, e1, r1⟩ := r.get q
      exact ⟨v, by rw [List.getElem?_append_left (by simpa [hl] using hi), List.getElem?_map, e1]; rfl, r1⟩
  · rw [List.getElem?_append_right (by simpa using hi), List.getElem?_replicate] at e
    split at e <;> cases e

section
variable {P : Program} {w : World} {K : PySem.W.Frag} {mg : Str → Option Value} {base : Heap}
/-- THE RULE for a def: its body as a term of rules, and what that term asks of the promise -/
theorem fnD {x qual : Str} {st : Stmt} {f : Addr} {fd : FuncData} {N ps : List Str} {k : Nat} {sp : SpD} {t : TSD} (F : Fun K x qual st f fd) (S : FnScope N ps (defScope st)) (len : ∀ ds M F E, sp ds M F E → ds.length = ps.length)
    (hb : ∀ (cdv : Value) (A : Around) (outer : List Env) (s : Shared) (H : Hp) (E : XK), Room k (A.deeper (envOfC qual (defScope st) s.heap.objs.size f cdv)) → PDB (cxOf (L2.CX P w) P w K mg base N qual (defScope st) f cdv A outer s H E) (defBody st) t)
    (wp : ∀ ds M F FE, sp ds M F FE → t (fun C fs _ M => FE C fs M) { nx := fun _ M => F .non M, rt := F } (startD N ds) M) : FnOk P w K mg base (L2.CX P w) (k + 1) f fd ps (spOf K sp) := by
  obtain ⟨oc, od, kV, doc, pm, an, cdv, ct, osl, rfl, lk, hcd⟩ := F.ex
  refine fn_of lk hcd S (fun vs H Q E ⟨ds, M, G, FE, r, _, h, _⟩ => by rw [r.length]; exact len _ _ _ _ h) fun A outer s H vs Q E hr hsp => ?_
  obtain ⟨ds, M, G, FE, r, mu, h, k1, k2⟩ := hsp
  have at_ : At (cxOf (L2.CX P w) P w K mg base N qual (defScope st) f cdv A outer s H E) (cxOf (L2.CX P w) P w K mg base N qual (defScope st) f cdv A outer s H E).pn (cxOf (L2.CX P w) P w K mg base N qual (defScope st) f cdv A outer s H E).xe H M (fun C fs _ M => FE C fs M) := by
    refine ⟨?_, passes_of rfl⟩
    refine Takes.imp (takes_of rfl rfl rfl rfl) fun c d σ H' ⟨C, ds', τ, M', e, ex, g, sl, mu', q⟩ => ?_
    subst e
    exact k2 C ds' d H' M' g mu' ex q
  refine ⟨upS K H M (fun C fs _ M => FE C fs M) t, hb cdv A outer s H E hr _ _ H M _ at_, startD N ds, M, _, .refl, slots_start r, mu, wp ds M G FE h, ?_, ?_, ?_, ?_⟩
  · rintro σ' H' ⟨τ, M', g, sl, mu', q⟩
    exact k1 _ _ _ _ g mu' .non q
  · rintro v H' ⟨d, M', g, mu', r', q⟩
    exact k1 _ _ _ _ g mu' r' q
  · rintro σ' H' ⟨τ, M', g, sl, mu', q⟩
    exact q.elim
  · rintro σ' H' ⟨τ, M', g, sl, mu', q⟩
    exact q.elim
end

/-! ### calls of own defs -/
def tCallD (sp : SpD) (t : TAD) : TED := fun W τ M Q => t W τ M fun ds M1 => sp ds M1 Q (fun C fs M' => W C fs τ M')
def permL {α : Type} (ix : List Nat) (l : List α) : List α := ix.filterMap fun i => l[i]?
theorem Reps.perm {K : PySem.W.Frag} {H : Hp} {M : MH} {vs : List V} {ds : List D} (r : Reps K H M vs ds) : ∀ ix : List Nat, Reps K H M (permL ix vs) (permL ix ds)
  | [] => .nil
  | i :: ix => by
    unfold permL
    rw [List.filterMap_cons, List.filterMap_cons]
    cases e : ds[i]? with
    | none =>
      have hl := r.length
      have e2 : vs[i]? = none := by rw [List.getElem?_eq_none_iff] at e ⊢; omega
      rw [e2]
      exact Reps.perm r ix
    | some d =>
      obtain ⟨v, e1, r1⟩ := r.get e
      rw [e1]
      exact .cons r1 (Reps.perm r ix)
theorem vals_perm {vs : List V} {us : List Value} (r : Vals vs us) : ∀ ix : List Nat, Vals (permL ix vs) (permL ix us)
  | [] => .nil
  | i :: ix => by
    unfold permL
    rw [List.filterMap_cons, List.filterMap_cons]
    cases e : vs[i]? with
    | none =>
      rw [r.none_of e]
      exact vals_perm r ix
    | some d =>
      obtain ⟨u, e1, r1⟩ := r.get e
      rw [e1]
      exact .cons r1 (vals_perm r ix)
def tCallKD (sp : SpD) (ix : List Nat) (t : TAD) : TED := fun W τ M Q => t W τ M fun ds M1 => sp (permL ix ds) M1 Q (fun C fs M' => W C fs τ M')
/-- how a call by keywords alone binds -/
def KwB (K : PySem.W.Frag) (fd : FuncData) (ps ks : List Str) (ix : List Nat) : Prop := ∀ ws : List Value, ws.length = ks.length → bindArgs fd ⟨[], ks.zip ws⟩ = pure (ps.zip (permL ix ws))
theorem kwB {K : PySem.W.Frag} {x qual : Str} {st : Stmt} {f : Addr} {fd : FuncData} {ps ks : List Str} {ix : List Nat} (F : Fun K x qual st f fd)
    (h : ∀ (kV doc pm : Value) (an : Option Addr) (cdv ct : Value) (us : List Value), us.length = ks.length → bindArgs (PySem.W.fnOf x qual (defArgs st) (defBody st) (defScope st) .none kV doc pm an cdv ct) ⟨[], ks.zip us⟩ = pure (ps.zip (permL ix us))) : KwB K fd ps ks ix := by
  obtain ⟨oc, od, kV, doc, pm, an, cdv, ct, osl, rfl, lk, hcd⟩ := F.ex
  exact h kV doc pm an cdv ct

section
variable {X : Cx} {k : Nat} {f : Addr} {fd : FuncData} {ps ks : List Str} {sp : SpD} {x : Str} {e : Expr} {es : List Expr} {kws : List Keyword} {ta : TAD} {pos p : Pos} {ix : List Nat}
/-- the keywords' values -/
def PDK (X : Cx) (es : List Keyword) (t : TAD) : Prop := ∀ pn xe H0 M0 W, At X pn xe H0 M0 W → PK (X.tr pn xe) es (upA X.K H0 M0 W t)
theorem imK {X : Cx} {e : List Keyword} {t t' : TA} (h : PK X e t) (i : ∀ σ H Q, t' σ H Q → t σ H Q) : PK X e t' := ⟨fun pos pins s σ H Q I q => h.run pos pins s σ H Q I (i σ H Q q)⟩
theorem pdk_nil : PDK X [] tNilD := fun pn xe H0 M0 W at_ => imK pk_nil fun σ H Q ⟨τ, M, F, g0, sl, mu, h, k⟩ => k [] H [] M .refl mu .nil h
theorem pdk_cons {nm : Option Str} {kpos : Pos} {t : TED} {ts : TAD} (ha : PD X e t) (hr : PDK X kws ts) : PDK X (⟨nm, e, kpos⟩ :: kws) (tConsD t ts) := fun pn xe H0 M0 W at_ =>
  imK (pk_cons (ha pn xe H0 M0 W at_) (hr pn xe H0 M0 W at_)) fun σ H Q ⟨τ, M, F, g0, sl, mu, h, k⟩ =>
    upE_fin g0 sl mu h fun x H1 d M1 g1 mu1 r1 h1 => ⟨τ, M1, _, g0.trans g1, sl.good g1, mu1, h1, fun xs H2 ds M2 g2 mu2 r2 h2 => k (x :: xs) H2 (d :: ds) M2 (g1.trans g2) mu2 (.cons (r1.good g2) r2) h2⟩

theorem sp_of_call {H0 : Hp} {M0 : MH} {W : WD} {σ : L2.St} {τ : EnvD} {H H1 : Hp} {M M1 : MH} {F : QD} {Q : VK} {vs : List V} {ds : List D} (g0 : Good H0 M0 H M) (sl : Slots X.K H M σ τ) (k : Fin X.K H M F Q) (g1 : Good H M H1 M1) (mu1 : Mut X.K H1 M1) (r1 : Reps X.K H1 M1 vs ds)
    (h : sp ds M1 F (fun C fs M' => W C fs τ M')) : spOf X.K sp vs H1 Q (WE (liftW X.K H0 M0 W) σ) :=
  ⟨ds, M1, F, _, r1, mu1, h, fun v H' d M' g' mu' r' f' => k v H' d M' (g1.trans g') mu' r' f', fun C fs d H' M' g' mu' ex we => ⟨C, fs, τ, M', rfl, ex, (g0.trans g1).trans g', sl.good (g1.trans g'), mu', we⟩⟩
theorem pd_call (F : FnOk X.prog X.w X.K X.mg X.base (L2.CX X.prog X.w) k f fd ps (spOf X.K sp)) (hr : Room k X.A) (hm : X.mg x = some (.ref f)) (hk : PySem.W.keepIn X.K (.ref f) = true) (hb : Binds X.K fd ps [])
    (ha : PDA X (e :: es) ta) (hg : Gl X x := by rfl) (hdb : (x == ("__debug__" : Str)) = false := by decide) (he : starEach (e :: es) X.env = (false, eval e X.env) :: starEach es X.env := by rfl) (hpl : (backTo pos (starEach es X.env)).any (·.1) = false := by rfl) :
    PD X (.Call (.Name x p) (e :: es) [] pos) (tCallD sp ta) := fun pn xe H0 M0 W at_ =>
  imE (pe_callS (X := X.tr pn xe) F hr hg hm hk hb (fun σ => passAt at_.tk σ) (ha pn xe H0 M0 W at_) hdb he hpl) fun σ H Q ⟨τ, M, G, g0, sl, mu, h, k⟩ =>
    ⟨τ, M, _, g0, sl, mu, h, fun vs H1 ds M1 g1 mu1 r1 h1 => sp_of_call g0 sl k g1 mu1 r1 h1⟩
theorem pd_call0 (F : FnOk X.prog X.w X.K X.mg X.base (L2.CX X.prog X.w) k f fd ps (spOf X.K sp)) (hr : Room k X.A) (hm : X.mg x = some (.ref f)) (hk : PySem.W.keepIn X.K (.ref f) = true) (hb : Binds X.K fd ps [])
    (hg : Gl X x := by rfl) (hdb : (x == ("__debug__" : Str)) = false := by decide) : PD X (.Call (.Name x p) [] [] pos) (tCallD sp tNilD) := fun pn xe H0 M0 W at_ => by
  refine ⟨fun pins s σ H Q I ⟨τ, M, G, g0, sl, mu, h, k⟩ => ?_⟩
  refine wpAny_Call_Name_kw (ld_glob I hg hm ?_ hdb)
  exact PySem.W.callWith_K0 I.kIn hk (run_fnS (us := []) (X := X.tr pn xe) F hr hb (passAt at_.tk σ) I .nil (sp_of_call (X := X) g0 sl k .refl mu .nil h))
theorem pd_callK (F : FnOk X.prog X.w X.K X.mg X.base (L2.CX X.prog X.w) k f fd ps (spOf X.K sp)) (hr : Room k X.A) (hm : X.mg x = some (.ref f)) (hk : PySem.W.keepIn X.K (.ref f) = true) (hb : KwB X.K fd ps ks ix)
    (ha : PDK X kws ta) (hl : kws.length = ks.length) (hg : Gl X x := by rfl) (hdb : (x == ("__debug__" : Str)) = false := by decide) (hall : (backToKw pos (keywordEach kws X.env)).all (·.1.isSome) = true := by rfl)
    (hks : (backToKw pos (keywordEach kws X.env)).filterMap (·.1) = ks := by rfl) (hpl : ((backTo pos (starEach [] X.env)).any (·.1) || (backToKw pos (keywordEach kws X.env)).any (·.1.isNone)) = false := by rfl) (hlk : ∀ (W : WD) τ M (R : List D → MH → Prop), ta W τ M R → ta W τ M (fun ds M => R ds M ∧ ds.length = kws.length)) :
    PD X (.Call (.Name x p) [] kws pos) (tCallKD sp ix ta) := fun pn xe H0 M0 W at_ => by
  refine ⟨fun pins s σ H Q I ⟨τ, M, G, g0, sl, mu, h, k⟩ => ?_⟩
  refine wpAny_Call_Name_kw (ld_glob I hg hm ?_ hdb)
  refine PySem.W.callWith_KW0 (h₀ := X.base) I.ok.mod.kin hk hall (thn ((ha pn xe H0 M0 W at_).run pos pins s σ H (fun zs H1 => zs.length = kws.length ∧ spOf X.K sp (permL ix zs) H1 Q (WE (liftW X.K H0 M0 W) σ)) I ?_) fun ws s1 ⟨zs, H1, I1, r, hzl, q⟩ => ⟨I1.kIn, ?_⟩) hpl
  · exact ⟨τ, M, _, g0, sl, mu, hlk _ _ _ _ h, fun vs H1 ds M1 g1 mu1 r1 ⟨h1, h2⟩ => ⟨by rw [r1.length, h2], sp_of_call (X := X) g0 sl k g1 mu1 (r1.perm ix) h1⟩⟩
  · rw [hks]
    have hx := passAt at_.tk σ
    refine wpAny_call (codeAny_mono (F.run X.A X.stack s1 H1 ⟨[], ks.zip ws⟩ (permL ix ws) (permL ix zs) Q (WE (liftW X.K H0 M0 W) σ) hr I1.env0 (BindsTo.of_eq (hb ws (by rw [← r.length, hzl, hl]))) (vals_perm r ix) q) fun r s' hq => ?_)
    cases r with
    | error e => exact hx pins H1 s1 e s' I1 hq
    | ok fl =>
      cases fl with
      | ret u => exact I1.after hq
      | next => exact False.elim hq
      | brk => exact False.elim hq
      | cont => exact False.elim hq
theorem lk_nil {W : WD} {τ : EnvD} {M : MH} {R : List D → MH → Prop} (h : tNilD W τ M R) : tNilD W τ M (fun ds M => R ds M ∧ ds.length = 0) := ⟨h, rfl⟩
/-- a call of a built-in function, a built-in type -/
theorem pd_bf {id : String} {r : List V → Hp → VK → Prop} {rd : RCD} (hm : X.mg x = none) (hv : bootBuiltins x = some (.builtin id)) (hc : ∀ pn xe, CallR (X.tr pn xe) (.builtin id) r) (hs : SimC X.K r rd) (ha : PDA X (e :: es) ta) (hg : Gl X x := by rfl) (hn : x ≠ "__name__" := by decide) (hdb : (x == ("__debug__" : Str)) = false := by decide)
    (he : starEach (e :: es) X.env = (false, eval e X.env) :: starEach es X.env := by rfl) (hpl : (backTo pos (starEach es X.env)).any (·.1) = false := by rfl) : PD X (.Call (.Name x p) (e :: es) [] pos) (tCBD rd ta) := fun pn xe H0 M0 W at_ =>
  imE (pe_callB (X := X.tr pn xe) (hc pn xe) hg hm hv (ha pn xe H0 M0 W at_) hn hdb he hpl) fun σ H Q ⟨τ, M, G, g0, sl, mu, h, k⟩ =>
    ⟨τ, M, _, g0, sl, mu, h, fun vs H1 ds M1 g1 mu1 r1 h1 => hs vs ds H1 M1 G Q r1 mu1 h1 fun v H' d M' g' mu' r' f' => k v H' d M' (g1.trans g') mu' r' f'⟩
theorem pd_bt {T : String} {r : List V → Hp → VK → Prop} {rd : RCD} (hm : X.mg x = none) (hv : bootBuiltins x = some (.type T)) (hc : ∀ pn xe, CallR (X.tr pn xe) (.type T) r) (hs : SimC X.K r rd) (ha : PDA X (e :: es) ta) (hg : Gl X x := by rfl) (hn : x ≠ "__name__" := by decide) (hdb : (x == ("__debug__" : Str)) = false := by decide)
    (he : starEach (e :: es) X.env = (false, eval e X.env) :: starEach es X.env := by rfl) (hpl : (backTo pos (starEach es X.env)).any (·.1) = false := by rfl) : PD X (.Call (.Name x p) (e :: es) [] pos) (tCBD rd ta) := fun pn xe H0 M0 W at_ =>
  imE (pe_callTy (X := X.tr pn xe) (hc pn xe) hg hm hv (ha pn xe H0 M0 W at_) hn hdb he hpl) fun σ H Q ⟨τ, M, G, g0, sl, mu, h, k⟩ =>
    ⟨τ, M, _, g0, sl, mu, h, fun vs H1 ds M1 g1 mu1 r1 h1 => hs vs ds H1 M1 G Q r1 mu1 h1 fun v H' d M' g' mu' r' f' => k v H' d M' (g1.trans g') mu' r' f'⟩
end

/-! ### statements -/
def tNextD : TSD := fun _ F τ M => F.nx τ M
def tSeqD (t u : TSD) : TSD := fun W F τ M => t W { F with nx := fun τ' M' => u W F τ' M' } τ M
def tDropD (t : TED) : TSD := fun W F τ M => t W τ M fun _ M1 => F.nx τ M1
def tRetD (t : TED) : TSD := fun W F τ M => t W τ M F.rt
def tRetN : TSD := fun _ F _ M => F.rt .non M
def tIfD (c : TTD) (t u : TSD) : TSD := fun W F τ M => c W τ M fun b M1 => (b = true → t W F τ M1) ∧ (b = false → u W F τ M1)
def tSetD (i : Nat) (t : TED) : TSD := fun W F τ M => t W τ M fun d M1 => F.nx (setN τ i (some d)) M1
def tContD : TSD := fun _ F τ M => F.ct τ M
def tBrkD : TSD := fun _ F τ M => F.bk τ M
section
variable {X : Cx} {st : Stmt} {rest : List Stmt} {t u : TSD} {e c : Expr} {te : TED} {tt : TTD} {pos : Pos}
theorem upS_fin {K : PySem.W.Frag} {H0 : Hp} {M0 : MH} {W : WD} {σ : L2.St} {H H1 : Hp} {M M1 : MH} {τ : EnvD} {t : TSD} {F : EndsD} {D : Ends} (g0 : Good H0 M0 H M) (g1 : Good H M H1 M1) (sl : Slots K H1 M1 σ τ) (mu : Mut K H1 M1) (h : t W F τ M1)
    (k1 : ∀ σ' H', liftN K H M F.nx σ' H' → D.nx σ' H') (k2 : ∀ v H', liftR K H M F.rt v H' → D.rt v H') (k3 : ∀ σ' H', liftN K H M F.bk σ' H' → D.bk σ' H') (k4 : ∀ σ' H', liftN K H M F.ct σ' H' → D.ct σ' H') : upS K H0 M0 W t D σ H1 :=
  ⟨τ, M1, F, g0.trans g1, sl, mu, h, fun σ' H' q => k1 σ' H' (q.tr g1), fun σ' H' q => k2 σ' H' (q.tr g1), fun σ' H' q => k3 σ' H' (q.tr g1), fun σ' H' q => k4 σ' H' (q.tr g1)⟩
theorem pdb_nil : PDB X [] tNextD := fun pn xe H0 M0 W at_ => imB pss_nil fun D σ H ⟨τ, M, F, g0, sl, mu, h, k1, k2, k3, k4⟩ => k1 σ H ⟨τ, M, .refl, sl, mu, h⟩
theorem pdb_cons (h1 : PDS X st t) (h2 : PDB X rest u) : PDB X (st :: rest) (tSeqD t u) := fun pn xe H0 M0 W at_ =>
  imB (pss_cons (h1 pn xe H0 M0 W at_) (h2 pn xe H0 M0 W at_)) fun D σ H ⟨τ, M, F, g0, sl, mu, h, k1, k2, k3, k4⟩ =>
    ⟨τ, M, _, g0, sl, mu, h, (fun σ' H' ⟨τ', M', g', sl', mu', q⟩ => upS_fin g0 g' sl' mu' q k1 k2 k3 k4), k2, k3, k4⟩
theorem pdb_one (h1 : PDS X st t) : PDB X [st] t := fun pn xe H0 M0 W at_ => pss_one (h1 pn xe H0 M0 W at_)
theorem pds_pass : PDS X (.Pass pos) tNextD := fun pn xe H0 M0 W at_ => imS ps_pass fun D σ H ⟨τ, M, F, g0, sl, mu, h, k1, k2, k3, k4⟩ => k1 σ H ⟨τ, M, .refl, sl, mu, h⟩
theorem pds_cont : PDS X (.Continue pos) tContD := fun pn xe H0 M0 W at_ => imS ps_continue fun D σ H ⟨τ, M, F, g0, sl, mu, h, k1, k2, k3, k4⟩ => k4 σ H ⟨τ, M, .refl, sl, mu, h⟩
theorem pds_brk : PDS X (.Break pos) tBrkD := fun pn xe H0 M0 W at_ => imS ps_break fun D σ H ⟨τ, M, F, g0, sl, mu, h, k1, k2, k3, k4⟩ => k3 σ H ⟨τ, M, .refl, sl, mu, h⟩
theorem pds_expr (he : PD X e te) (hs : swapsWith e none pos.line X.env = pure false := by rfl) : PDS X (.Expr e pos) (tDropD te) := fun pn xe H0 M0 W at_ =>
  imS (ps_expr (X := X.tr pn xe) (he pn xe H0 M0 W at_) hs) fun D σ H ⟨τ, M, F, g0, sl, mu, h, k1, k2, k3, k4⟩ => upE_fin g0 sl mu h fun v H1 d M1 g1 mu1 r1 q => k1 σ H1 ⟨τ, M1, g1, sl.good g1, mu1, q⟩
theorem pds_ret (he : PD X e te) : PDS X (.Return (some e) pos) (tRetD te) := fun pn xe H0 M0 W at_ =>
  imS (ps_ret (he pn xe H0 M0 W at_)) fun D σ H ⟨τ, M, F, g0, sl, mu, h, k1, k2, k3, k4⟩ => upE_fin g0 sl mu h fun v H1 d M1 g1 mu1 r1 q => k2 v H1 ⟨d, M1, g1, mu1, r1, q⟩
theorem pds_retN : PDS X (.Return none pos) tRetN := fun pn xe H0 M0 W at_ => imS ps_retN fun D σ H ⟨τ, M, F, g0, sl, mu, h, k1, k2, k3, k4⟩ => k2 _ H ⟨_, M, .refl, mu, .non, h⟩
theorem pds_if {a b : List Stmt} (hc : PDT X c tt) (ha : PDB X a t) (hb : PDB X b u) : PDS X (.If c a b pos) (tIfD tt t u) := fun pn xe H0 M0 W at_ =>
  imS (ps_if (hc pn xe H0 M0 W at_) (ha pn xe H0 M0 W at_) (hb pn xe H0 M0 W at_)) fun D σ H ⟨τ, M, F, g0, sl, mu, h, k1, k2, k3, k4⟩ => upT_fin g0 sl mu h fun c H1 M1 g1 mu1 h1 => by
    cases c with
    | true =>
      rw [if_pos rfl]
      exact upS_fin g0 g1 (sl.good g1) mu1 (h1.1 rfl) k1 k2 k3 k4
    | false =>
      rw [if_neg Bool.false_ne_true]
      exact upS_fin g0 g1 (sl.good g1) mu1 (h1.2 rfl) k1 k2 k3 k4
theorem pds_set {i : Nat} {x : Str} {pos' : Pos} (he : PD X e te) (hN : X.N.Nodup) (hi : X.N[i]? = some x := by rfl) (hx : Loc X.env.scope x := by first | exact Or.inl rfl | exact Or.inr rfl) (hs : swapsWith e (some (.Name x pos')) pos.line X.env = pure false := by rfl)
    (hf : X.fn x = true ∨ X.env.scope.names.lookup x = some .local := by first | exact .inl rfl | exact .inr rfl) : PDS X (.Assign [.Name x pos'] e pos) (tSetD i te) := fun pn xe H0 M0 W at_ =>
  imS (ps_set (X := X.tr pn xe) hN hi hx (he pn xe H0 M0 W at_) hs hf) fun D σ H ⟨τ, M, F, g0, sl, mu, h, k1, k2, k3, k4⟩ => upE_fin g0 sl mu h fun v H1 d M1 g1 mu1 r1 q =>
    k1 _ H1 ⟨setN τ i (some d), M1, g1, by rw [setN_eq]; exact (sl.good g1).set r1, mu1, q⟩
end
end Z

set_option Elab.async false
set_option linter.all false
set_option maxRecDepth 100000
set_option maxHeartbeats 4000000
namespace Z
open PySem L2

/-! ### ints -/
def rdI (g : Int → Int → Int) : R2D := fun d e M F => match d, e with | .int i, .int j => F (.int (g i j)) M | _, _ => False
def rdIC (C : Int → Int → Prop) (g : Int → Int → Int) : R2D := fun d e M F => match d, e with | .int i, .int j => C i j ∧ F (.int (g i j)) M | _, _ => False
def rdB (g : Int → Int → Bool) : R2D := fun d e M F => match d, e with | .int i, .int j => F (.bl (g i j)) M | _, _ => False
theorem rdI_inv {g : Int → Int → Int} {d e : D} {M : MH} {F : QD} (h : rdI g d e M F) : ∃ i j, d = .int i ∧ e = .int j ∧ F (.int (g i j)) M := by
  unfold rdI at h
  split at h
  · exact ⟨_, _, rfl, rfl, h⟩
  · exact h.elim
theorem rdIC_inv {C : Int → Int → Prop} {g : Int → Int → Int} {d e : D} {M : MH} {F : QD} (h : rdIC C g d e M F) : ∃ i j, d = .int i ∧ e = .int j ∧ C i j ∧ F (.int (g i j)) M := by
  unfold rdIC at h
  split at h
  · exact ⟨_, _, rfl, rfl, h⟩
  · exact h.elim
theorem rdB_inv {g : Int → Int → Bool} {d e : D} {M : MH} {F : QD} (h : rdB g d e M F) : ∃ i j, d = .int i ∧ e = .int j ∧ F (.bl (g i j)) M := by
  unfold rdB at h
  split at h
  · exact ⟨_, _, rfl, rfl, h⟩
  · exact h.elim
section
variable {K : PySem.W.Frag}
theorem simI {g : Int → Int → Int} : SimOp K (rI0 fun i j => .int (g i j)) (rdI g) := fun x y d e H M F Q rx ry mu h k => by
  obtain ⟨i, j, rfl, rfl, q⟩ := rdI_inv h
  cases rx
  cases ry
  exact ⟨_, _, rfl, rfl, k _ _ _ _ .refl mu (.int _) q⟩
theorem simIC {C C' : Int → Int → Prop} {g : Int → Int → Int} (hc : ∀ i j, C' i j → C i j) : SimOp K (rI C fun i j => .int (g i j)) (rdIC C' g) := fun x y d e H M F Q rx ry mu h k => by
  obtain ⟨i, j, rfl, rfl, c, q⟩ := rdIC_inv h
  cases rx
  cases ry
  exact ⟨_, _, rfl, rfl, hc _ _ c, k _ _ _ _ .refl mu (.int _) q⟩
theorem simB {g : Int → Int → Bool} : SimOp K (rI0 fun i j => .bl (g i j)) (rdB g) := fun x y d e H M F Q rx ry mu h k => by
  obtain ⟨i, j, rfl, rfl, q⟩ := rdB_inv h
  cases rx
  cases ry
  exact ⟨_, _, rfl, rfl, k _ _ _ _ .refl mu (.bl _) q⟩
end
def MulOk (i j : Int) : Prop := CMul i j ∨ CMulW i j
def DivOk (_ j : Int) : Prop := j ≠ 0 ∧ j.natAbs.log2 < 9000
theorem op_mulZ {X : Cx} : OpR X (binaryOp .Mult) (rI MulOk fun i j => .int (i * j)) := fun pins s σ H x y v u Q I rx ry h => by
  obtain ⟨i, j, e1, e2, c, q⟩ := h
  rcases c with c | c
  · exact op_mul pins s σ H x y v u Q I rx ry ⟨i, j, e1, e2, c, q⟩
  · exact op_mulW pins s σ H x y v u Q I rx ry ⟨i, j, e1, e2, c, q⟩
theorem op_fdivZ {X : Cx} : OpR X (binaryOp .FloorDiv) (rI DivOk fun i j => .int (i.fdiv j)) := opI fun i j _ _ _ _ _ hc q =>
  PyProof.Rows.floordiv_int hc.1 q (.inl (PyProof.noPylong_of_log2 hc.2))
section
variable {X : Cx} {a b e : Expr} {ta tb : TED} {pos p : Pos}
theorem pd_add (ha : PD X a ta) (hb : PD X b tb) : PD X (.BinOp a .Add b pos) (tOpD (rdI fun i j => i + j) ta tb) := pd_op (fun _ _ => op_add) simI ha hb
theorem pd_sub (ha : PD X a ta) (hb : PD X b tb) : PD X (.BinOp a .Sub b pos) (tOpD (rdI fun i j => i - j) ta tb) := pd_op (fun _ _ => op_sub) simI ha hb
theorem pd_mul (ha : PD X a ta) (hb : PD X b tb) : PD X (.BinOp a .Mult b pos) (tOpD (rdIC MulOk fun i j => i * j) ta tb) := pd_op (fun _ _ => op_mulZ) (simIC fun _ _ h => h) ha hb
theorem pd_fdiv (ha : PD X a ta) (hb : PD X b tb) : PD X (.BinOp a .FloorDiv b pos) (tOpD (rdIC DivOk fun i j => i.fdiv j) ta tb) := pd_op (fun _ _ => op_fdivZ) (simIC fun _ _ h => h) ha hb
theorem pd_mod (ha : PD X a ta) (hb : PD X b tb) : PD X (.BinOp a .Mod b pos) (tOpD (rdIC (fun _ j => 0 < j) fun i j => i % j) ta tb) := pd_op (fun _ _ => op_mod) (simIC fun _ _ h => h) ha hb
theorem pd_pow (ha : PD X a ta) (hb : PD X b tb) : PD X (.BinOp a .Pow b pos) (tOpD (rdIC CPow fun i j => i ^ j.toNat) ta tb) := pd_op (fun _ _ => op_pow) (simIC fun _ _ h => h) ha hb
theorem pd_lt (ha : PD X a ta) (hb : PD X b tb) : PD X (.Compare a [.Lt] [b] pos) (tOpD (rdB fun i j => decide (i < j)) ta tb) := pd_cmp (fun _ _ => op_lt) simB ha hb
theorem pd_le (ha : PD X a ta) (hb : PD X b tb) : PD X (.Compare a [.LtE] [b] pos) (tOpD (rdB fun i j => decide (i ≤ j)) ta tb) := pd_cmp (fun _ _ => op_le) simB ha hb
theorem pd_gt (ha : PD X a ta) (hb : PD X b tb) : PD X (.Compare a [.Gt] [b] pos) (tOpD (rdB fun i j => decide (j < i)) ta tb) := pd_cmp (fun _ _ => op_gt) simB ha hb
theorem pd_ge (ha : PD X a ta) (hb : PD X b tb) : PD X (.Compare a [.GtE] [b] pos) (tOpD (rdB fun i j => decide (j ≤ i)) ta tb) := pd_cmp (fun _ _ => op_ge) simB ha hb
theorem pdt_lt (ha : PD X a ta) (hb : PD X b tb) : PDT X (.Compare a [.Lt] [b] pos) (tTestB (tOpD (rdB fun i j => decide (i < j)) ta tb)) := pdt_cmp (fun _ _ => op_lt) simB ha hb
theorem pdt_le (ha : PD X a ta) (hb : PD X b tb) : PDT X (.Compare a [.LtE] [b] pos) (tTestB (tOpD (rdB fun i j => decide (i ≤ j)) ta tb)) := pdt_cmp (fun _ _ => op_le) simB ha hb
theorem pdt_gt (ha : PD X a ta) (hb : PD X b tb) : PDT X (.Compare a [.Gt] [b] pos) (tTestB (tOpD (rdB fun i j => decide (j < i)) ta tb)) := pdt_cmp (fun _ _ => op_gt) simB ha hb
theorem pdt_ge (ha : PD X a ta) (hb : PD X b tb) : PDT X (.Compare a [.GtE] [b] pos) (tTestB (tOpD (rdB fun i j => decide (j ≤ i)) ta tb)) := pdt_cmp (fun _ _ => op_ge) simB ha hb
/-- -x -/
def rdNeg : D → MH → QD → Prop := fun d M F => match d with | .int i => F (.int (-i)) M | _ => False
theorem pd_neg (ha : PD X a ta) : PD X (.UnaryOp .USub a pos) (tUnD rdNeg ta) := pd_un (fun _ _ => un_neg) (fun x d H M F Q rx mu h k => by
  unfold rdNeg at h
  split at h
  · cases rx; exact ⟨_, rfl, k _ _ _ _ .refl mu (.int _) h⟩
  · exact h.elim) ha

/-! ### == and != -/
end
mutual
def toPy : D → Option PyData
  | .non => some .none
  | .bl b => some (.bool b)
  | .int i => some (.int i)
  | .str x => some (.str x)
  | .lst xs => (toPys xs).map .list
  | .tup xs => (toPys xs).map .tuple
  | _ => none
def toPys : List D → Option (List PyData)
  | [] => some []
  | x :: xs => match toPy x, toPys xs with | some p, some ps => some (p :: ps) | _, _ => none
end
section
variable {K : PySem.W.Frag} {H : Hp} {M : MH}
mutual
theorem toPy_dp : ∀ {v : V} {d : D} {p : PyData}, Rep K H M v d → toPy d = some p → Dp K H v p
  | _, _, _, .non, h => by simp only [toPy] at h; cases h; exact .non
  | _, _, _, .bl b, h => by simp only [toPy] at h; cases h; exact .bl b
  | _, _, _, .int i, h => by simp only [toPy] at h; cases h; exact .int i
  | _, _, _, .str x, h => by simp only [toPy] at h; cases h; exact .str x
  | _, _, _, .flt x, h => by simp [toPy] at h
  | _, _, _, .ref a, h => by simp [toPy] at h
  | _, _, _, .ty n, h => by simp [toPy] at h
  | _, _, _, .lst (xs := xs) r rs, h => by
    simp only [toPy] at h
    cases e : toPys xs with
    | none => rw [e] at h; cases h
    | some ps => rw [e] at h; cases h; exact .lst r.sq (toPys_dp rs e)
  | _, _, _, .tup (xs := xs) r rs, h => by
    simp only [toPy] at h
    cases e : toPys xs with
    | none => rw [e] at h; cases h
    | some ps => rw [e] at h; cases h; exact .tup r.sq (toPys_dp rs e)
  | _, _, _, .dct _ _ _, h => by simp [toPy] at h
  | _, _, _, .obj _ _ _, h => by simp [toPy] at h
  | _, _, _, .exn _ _ _ _ _, h => by simp [toPy] at h
  | _, _, _, .exn0 _ _, h => by simp [toPy] at h
theorem toPys_dp : ∀ {vs : List V} {ds : List D} {ps : List PyData}, Reps K H M vs ds → toPys ds = some ps → DpAll K H vs ps
  | _, _, _, .nil, h => by simp only [toPys] at h; cases h; exact .nil
  | _, _, _, .cons (d := d) (ds := ds) r rs, h => by
    simp only [toPys] at h
    cases e1 : toPy d with
    | none => rw [e1] at h; cases h
    | some p =>
      cases e2 : toPys ds with
      | none => rw [e1, e2] at h; cases h
      | some ps => rw [e1, e2] at h; cases h; exact .cons (toPy_dp r e1) (toPys_dp rs e2)
end
end
/-- == of trees of data; None where it is not told here -/
def eqD (d e : D) : Option Bool := match d, e with
  | .int i, .int j => some (decide (i = j))
  | .bl i, .bl j => some (decide (i = j))
  | .str i, .str j => some (decide (i = j))
  | .non, .non => some true
  | .non, .int _ | .int _, .non | .non, .bl _ | .bl _, .non | .non, .str _ | .str _, .non | .int _, .str _ | .str _, .int _ | .bl _, .str _ | .str _, .bl _ => some false
  | _, _ => match toPy d, toPy e with | some p, some q => if SeqAt.shaped p && SeqAt.shaped q then some (PyData.eqv p q) else none | _, _ => none
def rdEq : R2D := fun d e M F => match eqD d e with | some b => F (.bl b) M | none => False
def rdNe : R2D := fun d e M F => match eqD d e with | some b => F (.bl (!b)) M | none => False
theorem rdEq_inv {d e : D} {M : MH} {F : QD} (h : rdEq d e M F) : ∃ b, eqD d e = some b ∧ F (.bl b) M := by
  unfold rdEq at h
  split at h
  · exact ⟨_, by assumption, h⟩
  · exact h.elim
theorem rdNe_inv {d e : D} {M : MH} {F : QD} (h : rdNe d e M F) : ∃ b, eqD d e = some b ∧ F (.bl (!b)) M := by
  unfold rdNe at h
  split at h
  · exact ⟨_, by assumption, h⟩
  · exact h.elim
section
variable {K : PySem.W.Frag} {H : Hp} {M : MH}
theorem eqD_sim {x y : V} {d e : D} {b : Bool} (rx : Rep K H M x d) (ry : Rep K H M y e) (h : eqD d e = some b) : (scal x y = true ∧ decide (x = y) = b) ∨ ∃ p q, Dp K H x p ∧ Dp K H y q ∧ SeqAt.shaped p = true ∧ SeqAt.shaped q = true ∧ PyData.eqv p q = b := by
  unfold eqD at h
  split at h
  · cases rx; cases ry; cases h; exact .inl ⟨rfl, by simp⟩
  · cases rx; cases ry; cases h; exact .inl ⟨rfl, by simp⟩
  · cases rx; cases ry; cases h; exact .inl ⟨rfl, by simp⟩
  · cases rx; cases ry; cases h; exact .inl ⟨rfl, by simp⟩
  · cases rx; cases ry; cases h; exact .inl ⟨rfl, by simp⟩
  · cases rx; cases ry; cases h; exact .inl ⟨rfl, by simp⟩
  · cases rx; cases ry; cases h; exact .inl ⟨rfl, by simp⟩
  · cases rx; cases ry; cases h; exact .inl ⟨rfl, by simp⟩
  · cases rx; cases ry; cases h; exact .inl ⟨rfl, by simp⟩
  · cases rx; cases ry; cases h; exact .inl ⟨rfl, by simp⟩
  · cases rx; cases ry; cases h; exact .inl ⟨rfl, by simp⟩
  · cases rx; cases ry; cases h; exact .inl ⟨rfl, by simp⟩
  · cases rx; cases ry; cases h; exact .inl ⟨rfl, by simp⟩
  · cases rx; cases ry; cases h; exact .inl ⟨rfl, by simp⟩
  · split at h
    · rename_i p q e1 e2
      split at h
      · rename_i c
        rw [Bool.and_eq_true] at c
        cases h
        exact .inr ⟨p, q, toPy_dp rx e1, toPy_dp ry e2, c.1, c.2, rfl⟩
      · cases h
    · cases h
end
section
variable {X : Cx} {a b e : Expr} {ta tb : TED} {pos p : Pos}
theorem simEq {K : PySem.W.Frag} : SimOp K (fun x y H Q => rEq x y H Q ∨ rEqD K x y H Q) rdEq := fun x y d e H M F Q rx ry mu h k => by
  obtain ⟨c, e1, q⟩ := rdEq_inv h
  rcases eqD_sim rx ry e1 with ⟨h1, h2⟩ | ⟨p, q', h1, h2, h3, h4, h5⟩
  · exact .inl ⟨h1, by rw [h2]; exact k _ _ _ _ .refl mu (.bl _) q⟩
  · exact .inr ⟨p, q', h1, h2, h3, h4, by rw [h5]; exact k _ _ _ _ .refl mu (.bl _) q⟩
theorem simNe {K : PySem.W.Frag} : SimOp K (fun x y H Q => rNe x y H Q ∨ rNeD K x y H Q) rdNe := fun x y d e H M F Q rx ry mu h k => by
  obtain ⟨c, e1, q⟩ := rdNe_inv h
  rcases eqD_sim rx ry e1 with ⟨h1, h2⟩ | ⟨p, q', h1, h2, h3, h4, h5⟩
  · exact .inl ⟨h1, by rw [h2]; exact k _ _ _ _ .refl mu (.bl _) q⟩
  · exact .inr ⟨p, q', h1, h2, h3, h4, by rw [h5]; exact k _ _ _ _ .refl mu (.bl _) q⟩
theorem pd_eq (hu : X.A.units + 64 < cLine) (ha : PD X a ta) (hb : PD X b tb) : PD X (.Compare a [.Eq] [b] pos) (tOpD rdEq ta tb) := pd_cmp (fun pn xe => OpR.or op_eq (op_eqD (X := X.tr pn xe) hu)) simEq ha hb
theorem pd_ne (hu : X.A.units + 64 < cLine) (ha : PD X a ta) (hb : PD X b tb) : PD X (.Compare a [.NotEq] [b] pos) (tOpD rdNe ta tb) := pd_cmp (fun pn xe => OpR.or op_ne (op_neD (X := X.tr pn xe) hu)) simNe ha hb
theorem pdt_eq (hu : X.A.units + 64 < cLine) (ha : PD X a ta) (hb : PD X b tb) : PDT X (.Compare a [.Eq] [b] pos) (tTestB (tOpD rdEq ta tb)) := pdt_cmp (fun pn xe => OpR.or op_eq (op_eqD (X := X.tr pn xe) hu)) simEq ha hb
theorem pdt_ne (hu : X.A.units + 64 < cLine) (ha : PD X a ta) (hb : PD X b tb) : PDT X (.Compare a [.NotEq] [b] pos) (tTestB (tOpD rdNe ta tb)) := pdt_cmp (fun pn xe => OpR.or op_ne (op_neD (X := X.tr pn xe) hu)) simNe ha hb
/-- is None, is not None -/
def isNonD : D → Bool | .non => true | _ => false
def tIsND (t : TED) : TED := fun W τ M Q => t W τ M fun d M1 => Q (.bl (isNonD d)) M1
def tNotND (t : TED) : TED := fun W τ M Q => t W τ M fun d M1 => Q (.bl (!isNonD d)) M1
theorem isNon_sim {K : PySem.W.Frag} {H : Hp} {M : MH} {x : V} {d : D} (r : Rep K H M x d) : decide (x = .non) = isNonD d := by cases r <;> rfl
theorem pd_isN {j pos'} (ha : PD X a ta) : PD X (.Compare a [.Is] [.Constant .none j pos'] pos) (tIsND ta) := fun pn xe H0 M0 W at_ =>
  imE (pe_cmp (pc_isN (ha pn xe H0 M0 W at_))) fun σ H Q ⟨τ, M, F, g0, sl, mu, h, k⟩ => upE_fin g0 sl mu h fun x H1 d M1 g1 mu1 r1 h1 => by
    rw [isNon_sim r1]; exact k _ _ _ _ g1 mu1 (.bl _) h1
theorem pd_notN {j pos'} (ha : PD X a ta) : PD X (.Compare a [.IsNot] [.Constant .none j pos'] pos) (tNotND ta) := fun pn xe H0 M0 W at_ =>
  imE (pe_cmp (pc_notN (ha pn xe H0 M0 W at_))) fun σ H Q ⟨τ, M, F, g0, sl, mu, h, k⟩ => upE_fin g0 sl mu h fun x H1 d M1 g1 mu1 r1 h1 => by
    rw [isNon_sim r1]; exact k _ _ _ _ g1 mu1 (.bl _) h1
theorem pdt_isN {j pos'} (ha : PD X a ta) : PDT X (.Compare a [.Is] [.Constant .none j pos'] pos) (tTestB (tIsND ta)) := fun pn xe H0 M0 W at_ =>
  imT (pt_cmp (pc_isN (ha pn xe H0 M0 W at_))) fun σ H Q ⟨τ, M, F, g0, sl, mu, h, k⟩ => upE_fin g0 sl mu h fun x H1 d M1 g1 mu1 r1 h1 => by
    rw [isNon_sim r1]; exact ⟨_, rfl, k _ _ _ g1 mu1 h1⟩
theorem pdt_notN {j pos'} (ha : PD X a ta) : PDT X (.Compare a [.IsNot] [.Constant .none j pos'] pos) (tTestB (tNotND ta)) := fun pn xe H0 M0 W at_ =>
  imT (pt_cmp (pc_notN (ha pn xe H0 M0 W at_))) fun σ H Q ⟨τ, M, F, g0, sl, mu, h, k⟩ => upE_fin g0 sl mu h fun x H1 d M1 g1 mu1 r1 h1 => by
    rw [isNon_sim r1]; exact ⟨_, rfl, k _ _ _ g1 mu1 h1⟩

/-! ### subscripts, len, slices -/
def rdIx : R2D := fun d e M F => match d, e with
  | .lst xs, .int i => (match atI xs i with | some x => F x M | none => False)
  | .tup xs, .int i => (match atI xs i with | some x => F x M | none => False)
  | .ref a, .int i => (match M a with | some (.lst xs) => (match atI xs i with | some x => F x M | none => False) | _ => False)
  | _, _ => False
theorem Reps.at {K : PySem.W.Frag} {H : Hp} {M : MH} {vs : List V} {ds : List D} {i : Int} {d : D} (r : Reps K H M vs ds) (h : atI ds i = some d) : ∃ v, atI vs i = some v ∧ Rep K H M v d := by
  unfold atI at h ⊢
  rw [r.length]
  cases e : ixN ds.length i with
  | none => rw [e] at h; cases h
  | some j => rw [e] at h; exact r.get h
theorem simIx {K : PySem.W.Frag} : SimOp K (fun x y H Q => rIxL K x y H Q ∨ rIxT K x y H Q) rdIx := fun x y d e H M F Q rx ry mu h k => by
  unfold rdIx at h
  split at h
  · cases ry
    cases rx with
    | lst r rs =>
      split at h
      · rename_i q
        obtain ⟨v, e1, r1⟩ := rs.at q
        exact .inl ⟨_, _, _, _, rfl, rfl, r.sq, e1, k _ _ _ _ .refl mu r1 h⟩
      · exact h.elim
  · cases ry
    cases rx with
    | tup r rs =>
      split at h
      · rename_i q
        obtain ⟨v, e1, r1⟩ := rs.at q
        exact .inr ⟨_, _, _, _, rfl, rfl, r.sq, e1, k _ _ _ _ .refl mu r1 h⟩
      · exact h.elim
  · cases ry
    cases rx with
    | ref a =>
      split at h
      · rename_i q1
        obtain ⟨ho, e, r⟩ := mu _ _ q1
        cases r with
        | lst rs =>
          split at h
          · rename_i q
            obtain ⟨v, e1, r1⟩ := rs.at q
            exact .inl ⟨_, _, _, _, rfl, rfl, .inl (.inl e), e1, k _ _ _ _ .refl mu r1 h⟩
          · exact h.elim
      · exact h.elim
  · exact h.elim
theorem pd_ix (ha : PD X a ta) (hb : PD X b tb) (hs : PlainIx b := by exact fun _ _ => rfl) : PD X (.Subscript a b pos) (tOpD rdIx ta tb) := fun pn xe H0 M0 W at_ =>
  imE (pe_ix (IxR.or ix_list ix_tup) (ha pn xe H0 M0 W at_) (hb pn xe H0 M0 W at_) hs) fun σ H Q ⟨τ, M, F, g0, sl, mu, h, k⟩ =>
    upE_fin g0 sl mu h fun x H1 d M1 g1 mu1 r1 h1 => upE_fin (g0.trans g1) (sl.good g1) mu1 h1 fun y H2 e M2 g2 mu2 r2 h2 =>
      simIx x y d e H2 M2 F Q (r1.good g2) r2 mu2 h2 fun v H' d' M' g' mu' r' f' => k v H' d' M' ((g1.trans g2).trans g') mu' r' f'
def rdLen : RCD := fun ds M F => match ds with
  | [.lst xs] => F (.int xs.length) M
  | [.tup xs] => F (.int xs.length) M
  | [.ref a] => (match M a with | some (.lst xs) => F (.int xs.length) M | _ => False)
  | _ => False
theorem simLen {K : PySem.W.Frag} : SimC K (fun xs H Q => ∃ p ys, xs = [.ref p] ∧ (SqL K H p ys ∨ SqT K H p ys) ∧ Q (.int ys.length) H) rdLen := fun xs ds H M F Q r mu h k => by
  unfold rdLen at h
  split at h
  · cases r with
    | cons r t =>
      cases t
      cases r with
      | lst r rs => exact ⟨_, _, rfl, .inl r.sq, by rw [rs.length]; exact k _ _ _ _ .refl mu (.int _) h⟩
  · cases r with
    | cons r t =>
      cases t
      cases r with
      | tup r rs => exact ⟨_, _, rfl, .inr r.sq, by rw [rs.length]; exact k _ _ _ _ .refl mu (.int _) h⟩
  · cases r with
    | cons r t =>
      cases t
      cases r with
      | ref a =>
        split at h
        · rename_i q1
          obtain ⟨ho, e, r⟩ := mu _ _ q1
          cases r with
          | lst rs => exact ⟨_, _, rfl, .inl (.inl (.inl e)), by rw [rs.length]; exact k _ _ _ _ .refl mu (.int _) h⟩
        · exact h.elim
  · exact h.elim
variable {ts : TAD} {es : List Expr}
theorem pd_len (hm : X.mg "len" = none) (ha : PDA X (e :: es) ts) (hg : Gl X "len" := by rfl) (he : starEach (e :: es) X.env = (false, eval e X.env) :: starEach es X.env := by rfl) (hpl : (backTo pos (starEach es X.env)).any (·.1) = false := by rfl) :
    PD X (.Call (.Name "len" p) (e :: es) [] pos) (tCBD rdLen ts) := pd_bf hm PySem.boot_len (fun pn xe => call_len_seq (X := X.tr pn xe)) simLen ha hg (by decide) (by decide) he hpl
def rdAbs : RCD := fun ds M F => match ds with | [.int i] => F (.int (if i < 0 then -i else i)) M | _ => False
def rdInt : RCD := fun ds M F => match ds with | [.int i] => F (.int i) M | [.bl b] => F (.int (if b then 1 else 0)) M | _ => False
def rdGcd : RCD := fun ds M F => match ds with | [.int i, .int j] => F (.int ((Nat.gcd i.natAbs j.natAbs : Nat) : Int)) M | _ => False
theorem pd_abs (hm : X.mg "abs" = none) (ha : PDA X (e :: es) ts) (hg : Gl X "abs" := by rfl) (he : starEach (e :: es) X.env = (false, eval e X.env) :: starEach es X.env := by rfl) (hpl : (backTo pos (starEach es X.env)).any (·.1) = false := by rfl) :
    PD X (.Call (.Name "abs" p) (e :: es) [] pos) (tCBD rdAbs ts) := pd_bf hm (by decide +kernel) (fun pn xe => call_abs (X := X.tr pn xe)) (fun xs ds H M F Q r mu h k => by
      unfold rdAbs at h
      split at h
      · cases r with
        | cons r t => cases t; cases r; exact ⟨_, rfl, k _ _ _ _ .refl mu (.int _) h⟩
      · exact h.elim) ha hg (by decide) (by decide) he hpl
theorem pd_int1 (hm : X.mg "int" = none) (ha : PDA X (e :: es) ts) (hg : Gl X "int" := by rfl) (he : starEach (e :: es) X.env = (false, eval e X.env) :: starEach es X.env := by rfl) (hpl : (backTo pos (starEach es X.env)).any (·.1) = false := by rfl) :
    PD X (.Call (.Name "int" p) (e :: es) [] pos) (tCBD rdInt ts) := pd_bt hm (by decide +kernel) (fun pn xe => call_int1 (X := X.tr pn xe)) (fun xs ds H M F Q r mu h k => by
      unfold rdInt at h
      split at h
      · cases r with
        | cons r t => cases t; cases r; exact .inl ⟨_, rfl, k _ _ _ _ .refl mu (.int _) h⟩
      · cases r with
        | cons r t => cases t; cases r; exact .inr ⟨_, rfl, k _ _ _ _ .refl mu (.int _) h⟩
      · exact h.elim) ha hg (by decide) (by decide) he hpl
theorem pd_gcd {x : Str} (hm : X.mg x = some (.builtin "math.gcd")) (ha : PDA X (e :: es) ts) (hg : Gl X x := by rfl) (hdb : (x == ("__debug__" : Str)) = false := by decide) (he : starEach (e :: es) X.env = (false, eval e X.env) :: starEach es X.env := by rfl) (hpl : (backTo pos (starEach es X.env)).any (·.1) = false := by rfl) :
    PD X (.Call (.Name x p) (e :: es) [] pos) (tCBD rdGcd ts) := fun pn xe H0 M0 W at_ =>
  imE (pe_callBfun (X := X.tr pn xe) cr_gcd hg hm (ha pn xe H0 M0 W at_) hdb he hpl) fun σ H Q ⟨τ, M, F, g0, sl, mu, h, k⟩ => ⟨τ, M, _, g0, sl, mu, h, fun vs H1 ds M1 g1 mu1 r1 h1 => by
    unfold rdGcd at h1
    split at h1
    · cases r1 with
      | cons r t => cases t with
        | cons r' t' => cases t'; cases r; cases r'; exact ⟨_, _, rfl, k _ _ _ _ g1 mu1 (.int _) h1⟩
    · exact h1.elim⟩
end
end Z

set_option Elab.async false
set_option linter.all false
set_option maxRecDepth 100000
set_option maxHeartbeats 4000000
namespace Z
open PySem L2

/-! ### targets -/
abbrev TGD := D → EnvD → MH → (EnvD → MH → Prop) → Prop
abbrev TGsD := List D → EnvD → MH → (EnvD → MH → Prop) → Prop
def upG (K : PySem.W.Frag) (t : TGD) : TG := fun v σ H Q => ∃ d τ M N, Rep K H M v d ∧ Slots K H M σ τ ∧ Mut K H M ∧ t d τ M N ∧ ∀ σ' H' τ' M', Good H M H' M' → Slots K H' M' σ' τ' → Mut K H' M' → N τ' M' → Q σ' H'
def upGs (K : PySem.W.Frag) (t : TGsD) : TGs := fun vs σ H Q => ∃ ds τ M N, Reps K H M vs ds ∧ Slots K H M σ τ ∧ Mut K H M ∧ t ds τ M N ∧ ∀ σ' H' τ' M', Good H M H' M' → Slots K H' M' σ' τ' → Mut K H' M' → N τ' M' → Q σ' H'
/-- a target: it stores, and raises nothing -/
def PDG (X : Cx) (e : Expr) (t : TGD) : Prop := ∀ pn xe, PG (X.tr pn xe) e (upG X.K t)
def PDGs (X : Cx) (es : List Expr) (t : TGsD) : Prop := ∀ pn xe, PGs (X.tr pn xe) es (upGs X.K t)
def gNameD (i : Nat) : TGD := fun d τ M N => N (setN τ i (some d)) M
def gNilD : TGsD := fun ds τ M N => match ds with | [] => N τ M | _ => False
def gConsD (t : TGD) (u : TGsD) : TGsD := fun ds τ M N => match ds with | d :: r => t d τ M fun τ' M' => u r τ' M' N | [] => False
/-- a list or a tuple, by its items -/
def seqD : D → Option (List D) | .lst xs => some xs | .tup xs => some xs | _ => none
def gTupD (n : Nat) (t : TGsD) : TGD := fun d τ M N => match seqD d with | some xs => xs.length = n ∧ t xs τ M N | none => False
section
variable {X : Cx} {pos : Pos}
theorem imG {e : Expr} {t t' : TG} (h : PG X e t) (i : ∀ v σ H Q, t' v σ H Q → t v σ H Q) : PG X e t' := ⟨fun pins s σ H v u Q I r q => h.run pins s σ H v u Q I r (i v σ H Q q)⟩
theorem imGs {e : List Expr} {t t' : TGs} (h : PGs X e t) (i : ∀ v σ H Q, t' v σ H Q → t v σ H Q) : PGs X e t' := ⟨fun pins s σ H v u Q I r q => h.run pins s σ H v u Q I r (i v σ H Q q)⟩
theorem pdg_name {i : Nat} {x : Str} (hN : X.N.Nodup) (hi : X.N[i]? = some x := by rfl) (hx : Loc X.env.scope x := by first | exact Or.inl rfl | exact Or.inr rfl) (hf : X.fn x = true ∨ X.env.scope.names.lookup x = some .local := by first | exact .inl rfl | exact .inr rfl) : PDG X (.Name x pos) (gNameD i) := fun pn xe =>
  imG (pg_name (X := X.tr pn xe) hN hi hx hf) fun v σ H Q ⟨d, τ, M, N, r, sl, mu, h, k⟩ => k _ H (setN τ i (some d)) M .refl (by rw [setN_eq]; exact sl.set r) mu h
theorem pdgs_nil : PDGs X [] gNilD := fun pn xe => imGs pgs_nil fun vs σ H Q ⟨ds, τ, M, N, r, sl, mu, h, k⟩ => by
  cases r with
  | nil => exact ⟨rfl, k σ H τ M .refl sl mu h⟩
  | cons _ _ => exact h.elim
theorem pdgs_cons {e : Expr} {es : List Expr} {t : TGD} {u : TGsD} (h1 : PDG X e t) (h2 : PDGs X es u) (hs : (assignEach (e :: es) X.env).map (·.2) = assign e X.env :: (assignEach es X.env).map (·.2) := by rfl) : PDGs X (e :: es) (gConsD t u) := fun pn xe =>
  imGs (pgs_cons (X := X.tr pn xe) (h1 pn xe) (h2 pn xe) hs) fun vs σ H Q ⟨ds, τ, M, N, r, sl, mu, h, k⟩ => by
    cases r with
    | nil => exact h.elim
    | cons r rs => exact ⟨_, _, rfl, _, τ, M, _, r, sl, mu, h, fun σ1 H1 τ1 M1 g1 sl1 mu1 q => ⟨_, τ1, M1, N, rs.good g1, sl1, mu1, q, fun σ' H' τ' M' g' sl' mu' n => k σ' H' τ' M' (g1.trans g') sl' mu' n⟩⟩
theorem pdg_tup {es : List Expr} {k : Nat} {t : TGsD} {n : Nat} (hc : X.calm = true) (h : PDGs X es t) (hn : (assignEach es X.env).length = n := by rfl) (hst : (assignEach es X.env).findIdx? (·.1) = none := by rfl) : PDG X (.Tuple es k pos) (gTupD n t) := fun pn xe => by
  have h1 := pg_tup (X := X.tr pn xe) (pos := pos) (k := k) hc (h pn xe) hn hst
  have h2 := pg_lst (X := X.tr pn xe) (pos := pos) (k := k) hc (h pn xe) hn hst
  refine ⟨fun pins s σ H v u Q I r ⟨d, τ, M, N, rp, sl, mu, hh, kk⟩ => ?_⟩
  unfold gTupD at hh
  cases q : seqD d with
  | none => rw [q] at hh; exact hh.elim
  | some xs =>
    rw [q] at hh
    obtain ⟨hl, hh⟩ := hh
    cases rp with
    | lst rr rs =>
      cases q
      exact h2.run pins s σ H _ u Q I r ⟨_, _, rfl, rr.sq, by rw [rs.length]; exact hl, ⟨_, τ, M, N, rs, sl, mu, hh, kk⟩⟩
    | tup rr rs =>
      cases q
      exact h1.run pins s σ H _ u Q I r ⟨_, _, rfl, rr.sq, by rw [rs.length]; exact hl, ⟨_, τ, M, N, rs, sl, mu, hh, kk⟩⟩
    | _ => cases q
/-- target = value -/
def tAsgD (te : TED) (g : TGD) : TSD := fun W F τ M => te W τ M fun d M1 => g d τ M1 F.nx
theorem upG_fin {H0 : Hp} {M0 : MH} {g : TGD} {v : V} {d : D} {σ : L2.St} {τ : EnvD} {H : Hp} {M : MH} {N : EnvD → MH → Prop} {Q : L2.St → Hp → Prop} (g0 : Good H0 M0 H M) (r : Rep X.K H M v d) (sl : Slots X.K H M σ τ) (mu : Mut X.K H M) (h : g d τ M N)
    (k : ∀ σ' H', liftN X.K H0 M0 N σ' H' → Q σ' H') : upG X.K g v σ H Q := ⟨d, τ, M, N, r, sl, mu, h, fun σ' H' τ' M' g' sl' mu' n => k σ' H' ⟨τ', M', g0.trans g', sl', mu', n⟩⟩
theorem pds_asg {tg e : Expr} {te : TED} {g : TGD} (he : PD X e te) (hg : PDG X tg g) (hs : swapsWithSole [tg] e pos.line X.env = pure false := by rfl) (hw : swappedStores [tg] e X.env = pure none := by rfl) (h1 : (assignEach [tg] X.env).map (·.2) = [assign tg X.env] := by rfl) :
    PDS X (.Assign [tg] e pos) (tAsgD te g) := fun pn xe H0 M0 W at_ =>
  imS (ps_asg (X := X.tr pn xe) (he pn xe H0 M0 W at_) (hg pn xe) hs hw h1) fun D σ H ⟨τ, M, F, g0, sl, mu, h, k1, k2, k3, k4⟩ => upE_fin g0 sl mu h fun v H1 d M1 g1 mu1 r1 q => upG_fin g1 r1 (sl.good g1) mu1 q k1
/-- o[i] = v, o a list with an address -/
def tSetIx (te to ti : TED) : TSD := fun W F τ M => te W τ M fun d M1 => to W τ M1 fun o M2 => ti W τ M2 fun i M3 => match o, i with
  | .ref a, .int k => (match M3 a with | some (.lst xs) => (match ixN xs.length k with | some j => F.nx τ (mput M3 a (.lst (xs.set j d))) | none => False) | _ => False)
  | _, _ => False
theorem pds_setix {o i e : Expr} {te to ti : TED} {p2 : Pos} (he : PD X e te) (ho : PD X o to) (hi : PD X i ti) (hs : swapsWithSole [.Subscript o i p2] e pos.line X.env = pure false := by rfl) (hw : swappedStores [.Subscript o i p2] e X.env = pure none := by rfl)
    (h1 : (assignEach [.Subscript o i p2] X.env).map (·.2) = [assign (.Subscript o i p2) X.env] := by rfl)
    (ha : ∀ v, assign (.Subscript o i p2) X.env v = (do
      let ov ← holding [v] (eval o X.env)
      let iv ← holding [v, ov] (eval i X.env)
      standAt p2
      holding [v, ov, iv] (setItem ov iv v)
      release [v, ov, iv] []) := by intro _; rfl) : PDS X (.Assign [.Subscript o i p2] e pos) (tSetIx te to ti) := fun pn xe H0 M0 W at_ =>
  imS (ps_asg (X := X.tr pn xe) (he pn xe H0 M0 W at_) (pg_sub (X := X.tr pn xe) (ho pn xe H0 M0 W at_) (hi pn xe H0 M0 W at_) set_list ha) hs hw h1) fun D σ H ⟨τ, M, F, g0, sl, mu, h, k1, k2, k3, k4⟩ =>
    upE_fin g0 sl mu h fun v H1 d M1 g1 mu1 r1 q1 => upE_fin (g0.trans g1) (sl.good g1) mu1 q1 fun ov H2 od M2 g2 mu2 r2 q2 => upE_fin ((g0.trans g1).trans g2) ((sl.good g1).good g2) mu2 q2 fun iv H3 id M3 g3 mu3 r3 q3 => by
      have r1' := (r1.good g2).good g3
      have r2' := r2.good g3
      split at q3
      · cases r3
        cases r2'
        split at q3
        · rename_i a k xs q
          split at q3
          · rename_i j qj
            obtain ⟨ho, e, rm⟩ := mu3 _ _ q
            cases rm with
            | lst rs =>
              exact ⟨_, _, _, j, rfl, rfl, e, by rw [rs.length]; exact qj, k1 _ _ ⟨τ, _, ((g1.trans g2).trans g3).trans (good_write q), (((sl.good g1).good g2).good g3).good (good_write q), mut_write mu3 q (.lst (rs.set r1' j)), q3⟩⟩
          · exact q3.elim
        · exact q3.elim
      · exact q3.elim

/-! ### what a loop walks -/
/-- over a tree: by its items -/
theorem pi_seq {tg l : Expr} {tl : TE} (hl : PE X l tl) : PI X tg l (fun σ H R => tl σ H fun x H1 => ∃ a, x = .ref a ∧ (((∃ xs, SqL X.K H1 a xs) ∧ R (Itl X.K a) H1) ∨ ((∃ xs, SqT X.K H1 a xs) ∧ R (Itt X.K a) H1))) := by
  refine ⟨fun pins s σ H R I h => thn (hl.run pins s σ H _ I h) ?_⟩
  rintro v s1 ⟨x, H1, I1, r1, a, rfl, q⟩
  cases r1
  have I2 : ∀ o : Obj, Inv X pins σ H1 { s1 with heap := s1.heap.push o } := fun o => I1.kept (t' := s1.toks) fun b u e => Heap.get?_push_of_some _ e
  have fp : ∀ b ∈ [s1.heap.objs.size], FpOk X pins H1 b := fun b hb => by
    rw [List.mem_singleton] at hb
    rw [hb]
    exact I1.fpOk (Nat.le_refl _) (I1.hok.fresh (Nat.le_refl _))
  rcases q with ⟨⟨xs, hq⟩, q⟩ | ⟨⟨xs, hq⟩, q⟩
  · obtain ⟨its, rv, p, hz⟩ := I1.list hq
    exact wpAny_pyIter_list p.isList ⟨_, _, _, _, H1, rfl, I2 _, turn_list a _, ⟨_, Heap.get?_push_size _ rfl, rfl, rfl⟩, fp, q⟩
  · obtain ⟨its, rv, p, hz⟩ := I1.tuple hq
    exact wpAny_pyIter_tuple (show s1.heap.IsTuple a its.toArray from p) ⟨_, _, _, _, H1, rfl, I2 _, turn_tuple a _, ⟨_, Heap.get?_push_size _ rfl, rfl, rfl⟩, fp, q⟩

/-- an iterator that yields these items, whatever happens to what has an address -/
def ItRel (K : PySem.W.Frag) (J : It) (H : Hp) (M : MH) (ds : List D) : Prop := ∀ H2 M2, Good H M H2 M2 → Mut K H2 M2 →
  (∀ i d, ds[i]? = some d → J.go i H2 ∧ ∀ x H3, J.yld i H2 x H3 → Good H2 M2 H3 M2 ∧ Mut K H3 M2 ∧ Rep K H3 M2 x d) ∧ J.stop ds.length H2
def upI (K : PySem.W.Frag) (H0 : Hp) (M0 : MH) (W : WD) (t : TAD) : TI := fun σ H R => ∃ τ M F, Good H0 M0 H M ∧ Slots K H M σ τ ∧ Mut K H M ∧ t W τ M F ∧ ∀ J H' ds M', Good H M H' M' → Mut K H' M' → ItRel K J H' M' ds → F ds M' → R J H'
/-- what a loop walks, by its items -/
def PDI (X : Cx) (tg iter : Expr) (t : TAD) : Prop := ∀ pn xe H0 M0 W, At X pn xe H0 M0 W → PI (X.tr pn xe) tg iter (upI X.K H0 M0 W t)
theorem imI {tg e : Expr} {t t' : TI} (h : PI X tg e t) (i : ∀ σ H Q, t' σ H Q → t σ H Q) : PI X tg e t' := ⟨fun pins s σ H R I q => h.run pins s σ H R I (i σ H R q)⟩
def iSeqD (te : TED) : TAD := fun W τ M Q => te W τ M fun d M1 => match seqD d with | some xs => Q xs M1 | none => False
theorem pdi_seq {tg iter : Expr} {te : TED} (he : PD X iter te) : PDI X tg iter (iSeqD te) := fun pn xe H0 M0 W at_ =>
  imI (pi_seq (he pn xe H0 M0 W at_)) fun σ H R ⟨τ, M, F, g0, sl, mu, h, k⟩ => upE_fin g0 sl mu h fun v H1 d M1 g1 mu1 r1 q => by
    cases e : seqD d with
    | none => rw [e] at q; exact q.elim
    | some xs =>
      rw [e] at q
      cases r1 with
      | lst rr rs =>
        cases e
        refine ⟨_, rfl, .inl ⟨⟨_, rr.sq⟩, k _ H1 xs M1 g1 mu1 (fun H2 M2 g2 mu2 => ⟨fun i d hd => ?_, ⟨_, (rr.good g2).sq, Nat.le_of_eq rs.length⟩⟩) q⟩⟩
        obtain ⟨v, hv, rv⟩ := (rs.good g2).get hd
        exact ⟨⟨_, v, (rr.good g2).sq, hv⟩, fun x H3 ⟨e3, hx⟩ => by
          subst e3
          have := hx _ (rr.good g2).sq
          rw [hv] at this
          cases this
          exact ⟨.refl, mu2, rv⟩⟩
      | tup rr rs =>
        cases e
        refine ⟨_, rfl, .inr ⟨⟨_, rr.sq⟩, k _ H1 xs M1 g1 mu1 (fun H2 M2 g2 mu2 => ⟨fun i d hd => ?_, ⟨_, (rr.good g2).sq, Nat.le_of_eq rs.length⟩⟩) q⟩⟩
        obtain ⟨v, hv, rv⟩ := (rs.good g2).get hd
        exact ⟨⟨_, v, (rr.good g2).sq, hv⟩, fun x H3 ⟨e3, hx⟩ => by
          subst e3
          have := hx _ (rr.good g2).sq
          rw [hv] at this
          cases this
          exact ⟨.refl, mu2, rv⟩⟩
      | _ => cases e
/-- lo, lo + 1, .. -/
def upFrom (lo : Int) (n : Nat) : List D := (List.range n).map fun i => .int (lo + (i : Nat))
theorem upFrom_get {lo : Int} {n i : Nat} {d : D} (h : (upFrom lo n)[i]? = some d) : i < n ∧ d = .int (lo + i) := by
  unfold upFrom at h
  rw [List.getElem?_map] at h
  by_cases hi : i < n
  · rw [List.getElem?_range hi] at h
    cases h
    exact ⟨hi, rfl⟩
  · rw [List.getElem?_eq_none (by simpa using Nat.le_of_not_lt hi)] at h
    cases h
theorem itr_rel {K : PySem.W.Frag} {lo : Int} {n : Nat} {H : Hp} {M : MH} : ItRel K (Itr lo n) H M (upFrom lo n) := fun H2 M2 g2 mu2 => ⟨fun i d hd => by
  obtain ⟨hi, rfl⟩ := upFrom_get hd
  exact ⟨hi, fun x H3 ⟨e3, ex⟩ => by subst e3 ex; exact ⟨.refl, mu2, .int _⟩⟩, by show n ≤ (upFrom lo n).length; simp [upFrom]⟩
def iRngD (ta : TAD) : TAD := fun W τ M Q => ta W τ M fun ds M1 => match ds with
  | [.int n] => (-4611686018427387904 ≤ n ∧ n < 4611686018427387904) ∧ Q (upFrom 0 n.toNat) M1
  | [.int a, .int b] => ((-4611686018427387904 ≤ a ∧ a < 4611686018427387904) ∧ -4611686018427387904 ≤ b ∧ b < 4611686018427387904) ∧ Q (upFrom a (b - a).toNat) M1
  | _ => False
theorem pdi_range1 {tg a : Expr} {ta : TAD} {p : Pos} (hm : X.mg "range" = none) (ha : PDA X [a] ta) (hlk : ∀ (W : WD) τ M (R : List D → MH → Prop), ta W τ M R → ta W τ M (fun ds M => R ds M ∧ ds.length = 1)) (hg : Gl X "range" := by rfl) (hs : starEach [a] X.env = [(false, eval a X.env)] := by rfl) : PDI X tg (.Call (.Name "range" p) [a] [] pos) (iRngD ta) := fun pn xe H0 M0 W at_ =>
  imI (pi_range1 (X := X.tr pn xe) hg hm (ha pn xe H0 M0 W at_) hs) fun σ H R ⟨τ, M, F, g0, sl, mu, h, k⟩ => ⟨τ, M, _, g0, sl, mu, hlk _ _ _ _ h, fun vs H1 ds M1 g1 mu1 r ⟨q, l⟩ => by
    cases r with
    | nil => cases l
    | cons r rs =>
      cases rs with
      | cons _ _ => simp at l
      | nil =>
        split at q
        · rename_i n e
          cases e
          cases r
          exact ⟨n, rfl, by omega, by omega, k _ H1 _ M1 g1 mu1 itr_rel q.2⟩
        · rename_i e; cases e
        · exact q.elim⟩
theorem pdi_range2 {tg a b : Expr} {ta : TAD} {p : Pos} (hm : X.mg "range" = none) (ha : PDA X [a, b] ta) (hlk : ∀ (W : WD) τ M (R : List D → MH → Prop), ta W τ M R → ta W τ M (fun ds M => R ds M ∧ ds.length = 2)) (hg : Gl X "range" := by rfl) (hs : starEach [a, b] X.env = [(false, eval a X.env), (false, eval b X.env)] := by rfl) (hs2 : starEach [b] X.env = [(false, eval b X.env)] := by rfl) : PDI X tg (.Call (.Name "range" p) [a, b] [] pos) (iRngD ta) := fun pn xe H0 M0 W at_ =>
  imI (pi_range2 (X := X.tr pn xe) hg hm (ha pn xe H0 M0 W at_) hs hs2) fun σ H R ⟨τ, M, F, g0, sl, mu, h, k⟩ => ⟨τ, M, _, g0, sl, mu, hlk _ _ _ _ h, fun vs H1 ds M1 g1 mu1 r ⟨q, l⟩ => by
    split at q
    · simp at l
    · cases r with
      | cons r rs =>
        cases rs with
        | cons r' rs' =>
          cases rs'
          cases r
          cases r'
          exact ⟨_, _, rfl, ⟨by omega, by omega, by omega, by omega⟩, k _ H1 _ M1 g1 mu1 itr_rel q.2⟩
    · exact q.elim⟩

/-- for target in ..: body -/
def tForD (ti : TAD) (g : TGD) (body : TSD) : TSD := fun W F τ M => ti W τ M fun xs M1 => ∃ Iv : Nat → EnvD → MH → Prop, Iv 0 τ M1 ∧
  (∀ i x τ' M', xs[i]? = some x → Iv i τ' M' → g x τ' M' fun τ2 M2 => body W { F with nx := Iv (i + 1), ct := Iv (i + 1), bk := F.nx } τ2 M2) ∧ (∀ τ' M', Iv xs.length τ' M' → F.nx τ' M')
theorem pds_for {tg iter : Expr} {body : List Stmt} {ti : TAD} {g : TGD} {tb : TSD} (hc : X.calm = true) (he : PDI X tg iter ti) (hg : PDG X tg g) (hb : PDB X body tb) (hs : ∀ x, foldedSetIterable iter X.env x = pure x := by intro _; rfl) : PDS X (.For tg iter body [] pos) (tForD ti g tb) := fun pn xe H0 M0 W at_ =>
  imS (ps_for (X := X.tr pn xe) at_.po hc (he pn xe H0 M0 W at_) (hg pn xe) (hb pn xe H0 M0 W at_) hs) fun D σ H ⟨τ, M, F, g0, sl, mu, h, k1, k2, k3, k4⟩ => ⟨τ, M, _, g0, sl, mu, h, fun J H1 xs M1 g1 mu1 it ⟨Iv, i0, step, done⟩ => by
    refine ⟨fun i m σ2 H2 => m = xs.length - i ∧ i ≤ xs.length ∧ ∃ τ2 M2, Good H1 M1 H2 M2 ∧ Slots X.K H2 M2 σ2 τ2 ∧ Mut X.K H2 M2 ∧ Iv i τ2 M2, ⟨_, rfl, Nat.zero_le _, τ, M1, .refl, sl.good g1, mu1, i0⟩, ?_⟩
    rintro i m σ2 H2 ⟨rfl, hi, τ2, M2, g2, sl2, mu2, iv⟩
    obtain ⟨go, stop⟩ := it H2 M2 g2 mu2
    by_cases hlt : i < xs.length
    · obtain ⟨go1, yl⟩ := go i xs[i] (by simp [hlt])
      refine .inr ⟨go1, fun σ4 H4 => ∃ τ2 M2, Good H1 M1 H4 M2 ∧ Slots X.K H4 M2 σ4 τ2 ∧ Mut X.K H4 M2 ∧ Iv (i + 1) τ2 M2, fun σ' H' w => ⟨xs.length - (i + 1), by omega, rfl, hlt, w⟩, fun x H3 y => ?_⟩
      obtain ⟨g3, mu3, rx⟩ := yl x H3 y
      refine ⟨_, τ2, M2, _, rx, sl2.good g3, mu3, step i xs[i] τ2 M2 (by simp [hlt]) iv, fun σ4 H4 τ4 M4 g4 sl4 mu4 n => ?_⟩
      have gg := (g2.trans g3).trans g4
      refine ⟨τ4, M4, { F with nx := fun τ4 M4 => Iv (i + 1) τ4 M4, ct := fun τ4 M4 => Iv (i + 1) τ4 M4, bk := F.nx }, (g0.trans g1).trans gg, sl4, mu4, n, ?_, fun v H' q => k2 v H' ((q.tr gg).tr g1), fun σ' H' q => k1 σ' H' ((q.tr gg).tr g1), ?_⟩
      all_goals
        rintro σ5 H5 ⟨τ5, M5, g5, sl5, mu5, iv5⟩
        exact ⟨τ5, M5, gg.trans g5, sl5, mu5, iv5⟩
    · have e : i = xs.length := by omega
      subst e
      exact .inl ⟨stop, k1 _ _ ⟨τ2, M2, g1.trans g2, sl2, mu2, done τ2 M2 iv⟩⟩⟩

/-! ### list comprehensions -/
def wipeD (τ : EnvD) : List Nat → EnvD
  | [] => τ
  | v :: vs => setN (wipeD τ vs) v none
theorem slots_wipe {K : PySem.W.Frag} {H : Hp} {M : MH} {σ : L2.St} {τ : EnvD} (h : Slots K H M σ τ) : ∀ vs, Slots K H M (wipe σ vs) (wipeD τ vs)
  | [] => h
  | v :: vs => by unfold wipe wipeD; rw [setN_eq]; exact (slots_wipe h vs).unset
/-- a target of names alone, among vs -/
def TgtOk (K : PySem.W.Frag) (g : TG) (gd : TGD) (vs : List Nat) : Prop := ∀ v d σ τ H M Q N, Rep K H M v d → Slots K H M σ τ → gd d τ M N → (∀ σ' τ', Slots K H M σ' τ' → wipe σ' vs = wipe σ vs → N τ' M → Q σ' H) → g v σ H Q
theorem wipe_set {x : Option V} {i : Nat} : ∀ {vs : List Nat} {σ : L2.St}, i ∈ vs → wipe (σ.set i x) vs = wipe σ vs
  | v :: vs, σ, h => by
    unfold wipe
    by_cases e : i ∈ vs
    · rw [wipe_set e]
    · have ev : v = i := by
        rcases List.mem_cons.mp h with h | h
        · exact h.symm
        · exact absurd h e
      subst ev
      have q : ∀ (ws : List Nat) (σ : L2.St), v ∉ ws → wipe (σ.set v x) ws = (wipe σ ws).set v x := fun ws => by
        induction ws with
        | nil => intro σ _; rfl
        | cons w ws ih =>
          intro σ hn
          have n1 : w ≠ v := fun e => hn (by rw [e]; exact List.mem_cons_self)
          unfold wipe
          rw [ih σ fun z => hn (List.mem_cons_of_mem _ z), List.set_comm _ _ (Ne.symm n1)]
      rw [q vs σ e, List.set_set]
theorem wipe_sub {vs : List Nat} {σ : L2.St} : ∀ {us : List Nat}, (∀ u ∈ us, u ∈ vs) → wipe (wipe σ us) vs = wipe σ vs
  | [], _ => rfl
  | u :: us, h => by
    show wipe ((wipe σ us).set u none) vs = _
    rw [wipe_set (h u List.mem_cons_self)]
    exact wipe_sub fun w hw => h w (List.mem_cons_of_mem _ hw)
theorem tgt_name {K : PySem.W.Frag} {i : Nat} {vs : List Nat} (hi : i ∈ vs) : TgtOk K (gName i) (gNameD i) vs := fun v d σ τ H M Q N r sl h k => k _ (setN τ i (some d)) (by rw [setN_eq]; exact sl.set r) (wipe_set hi) h
def TgtsOk (K : PySem.W.Frag) (g : TGs) (gd : TGsD) (vs : List Nat) : Prop := ∀ xs ds σ τ H M Q N, Reps K H M xs ds → Slots K H M σ τ → gd ds τ M N → (∀ σ' τ', Slots K H M σ' τ' → wipe σ' vs = wipe σ vs → N τ' M → Q σ' H) → g xs σ H Q
theorem tgts_nil {K : PySem.W.Frag} {vs : List Nat} : TgtsOk K gNil gNilD vs := fun xs ds σ τ H M Q N r sl h k => by
  cases r with
  | nil => exact ⟨rfl, k σ τ sl rfl h⟩
  | cons _ _ => exact h.elim
theorem tgts_cons {K : PySem.W.Frag} {vs : List Nat} {g : TG} {gd : TGD} {gs : TGs} {gds : TGsD} (h1 : TgtOk K g gd vs) (h2 : TgtsOk K gs gds vs) : TgtsOk K (gCons g gs) (gConsD gd gds) vs := fun xs ds σ τ H M Q N r sl h k => by
  cases r with
  | nil => exact h.elim
  | cons r rs => exact ⟨_, _, rfl, h1 _ _ σ τ H M _ _ r sl h fun σ1 τ1 sl1 w1 h1' => h2 _ _ σ1 τ1 H M _ _ rs sl1 h1' fun σ2 τ2 sl2 w2 h2' => k σ2 τ2 sl2 (w2.trans w1) h2'⟩
/-- a tuple of names: what is walked are tuples -/
theorem tgt_tup {K : PySem.W.Frag} {vs : List Nat} {gs : TGs} {gds : TGsD} {n : Nat} (h1 : TgtsOk K gs gds vs) : TgtOk K (gTup K n gs) (fun d τ M N => match d with | .tup xs => xs.length = n ∧ gds xs τ M N | _ => False) vs := fun v d σ τ H M Q N r sl h k => by
  cases r with
  | tup rr rs => exact ⟨_, _, rfl, rr.sq, by rw [rs.length]; exact h.1, h1 _ _ σ τ H M Q N rs sl h.2 k⟩
  | _ => exact h.elim

def noW : WD := fun _ _ _ _ => False
theorem at_no {X : Cx} {H0 : Hp} {M0 : MH} {pn : List (Addr × Obj)} : At X pn (fun _ _ => False) H0 M0 noW :=
  ⟨fun u s' ⟨a, B, sI, pins, σ, H, cls, d, e, I, nb, up, sky, na, os, ag, w⟩ => (let ⟨_, _, _, _, _, _, _, _, _, q⟩ := w; q).elim, PassesOwn.never⟩
/-- the tests of a comprehension: none, one -/
def PDTs (X : Cx) (ifs : List Expr) (t : TTD) : Prop := ∀ H0 M0, PTs (X.tr [] fun _ _ => False) ifs (upT X.K H0 M0 noW t)
def tYesD : TTD := fun _ _ M Q => Q true M
theorem pdts_nil : PDTs X [] tYesD := fun H0 M0 => ⟨fun pins s σ H Q I ⟨τ, M, F, g0, sl, mu, h, k⟩ => pts_nil.run pins s σ H Q I (k true H M .refl mu h)⟩
theorem pdts_one {c : Expr} {t : TTD} (h : PDT X c t) : PDTs X [c] t := fun H0 M0 => pts_one (h [] _ H0 M0 noW at_no)
def tLcD (ti : TAD) (gd : TGD) (tt : TTD) (te : TED) (vs : List Nat) : TED := fun W τ M Q => ti W τ M fun xs M1 => ∀ p, M1 p = none → ∃ Iv : Nat → MH → Prop, Iv 0 (mput M1 p (.lst [])) ∧
  (∀ i x M2, xs[i]? = some x → Iv i M2 → gd x (wipeD τ vs) M2 fun τ2 M3 => tt noW τ2 M3 fun b M4 => (b = true → te noW τ2 M4 fun y M5 => match M5 p with | some (.lst acc) => acc.length < 16777216 ∧ Iv (i + 1) (mput M5 p (.lst (acc ++ [y]))) | _ => False) ∧ (b = false → Iv (i + 1) M4)) ∧
  (∀ M2, Iv xs.length M2 → match M2 p with | some (.lst acc) => Q (.lst acc) (mdel M2 p) | _ => False)
theorem pd_lc {elt tg iter : Expr} {ifs : List Expr} {scope : Scope} {own : List (Str × Nat)} {ti : TAD} {g : TG} {gd : TGD} {tt : TTD} {te : TED} (hc : X.calm = true) (hN : X.N.Nodup) (hi : PDI X tg iter ti) (ok : BlkOk X.N X.env.scope scope own)
    (hg : ∀ (s : Shared) (H : Hp) (C : Addr) (cl : List (Str × Addr)) (fp : List Addr), PG (X.blk s H scope (compEnvC scope cl C X.env) fp) tg g) (hgd : TgtOk X.K g gd (own.map (·.2)))
    (ht : ∀ (s : Shared) (H : Hp) (C : Addr) (cl : List (Str × Addr)) (fp : List Addr), PDTs (X.blk s H scope (compEnvC scope cl C X.env) fp) ifs tt)
    (he : ∀ (s : Shared) (H : Hp) (C : Addr) (cl : List (Str × Addr)) (fp : List Addr), PD (X.blk s H scope (compEnvC scope cl C X.env) fp) elt te) (hs : ∀ x, foldedSetIterable iter X.env x = pure x := by intro _; rfl) :
    PD X (.ListComp elt [⟨tg, iter, ifs, 0⟩] scope pos) (tLcD ti gd tt te (own.map (·.2))) := fun pn xe H0 M0 W at_ =>
  imE (pe_lc (X := X.tr pn xe) (te := upE X.K H0 M0 noW te) (tt := upT X.K H0 M0 noW tt) hc hN (hi pn xe H0 M0 W at_) ok hg (fun s H C cl fp => ht s H C cl fp H0 M0) (fun s H C cl fp => he s H C cl fp [] _ H0 M0 noW at_no) hs) fun σ H Q ⟨τ, M, F, g0, sl, mu, h, k⟩ => ⟨τ, M, _, g0, sl, mu, h, fun J H1 xs M1 g1 mu1 it q => by
    intro p hp
    obtain ⟨Iv, i0, step, done⟩ := q p (mut_none mu1 hp)
    refine ⟨fun i m H2 => m = xs.length - i ∧ i ≤ xs.length ∧ ∃ M2, Good H1 M1 H2 M2 ∧ Mut X.K H2 M2 ∧ Iv i M2, ⟨_, rfl, Nat.zero_le _, mput M1 p (.lst []), good_put hp, mut_put mu1 hp (.lst .nil), i0⟩, ?_⟩
    rintro i m H2 ⟨rfl, hi, M2, g2, mu2, iv⟩
    obtain ⟨go, stop⟩ := it H2 M2 g2 mu2
    by_cases hlt : i < xs.length
    · obtain ⟨go1, yl⟩ := go i xs[i] (by simp [hlt])
      refine .inr ⟨go1, fun H4 => ∃ M4, Good H1 M1 H4 M4 ∧ Mut X.K H4 M4 ∧ Iv (i + 1) M4, fun H' w => ⟨xs.length - (i + 1), by omega, rfl, hlt, w⟩, fun x H3 y => ?_⟩
      obtain ⟨g3, mu3, rx⟩ := yl x H3 y
      have gg := g1.trans (g2.trans g3)
      refine hgd _ _ _ _ H3 M2 _ _ rx (slots_wipe (sl.good gg) _) (step i xs[i] M2 (by simp [hlt]) iv) fun σ4 τ4 sl4 w4 n => ⟨w4.trans (wipe_sub fun _ h => h), τ4, M2, _, g0.trans gg, sl4, mu3, n, fun b H5 M5 g5 mu5 nb => ?_⟩
      cases b with
      | false =>
        rw [if_neg Bool.false_ne_true]
        exact ⟨M5, (g2.trans g3).trans g5, mu5, nb.2 rfl⟩
      | true =>
        rw [if_pos rfl]
        refine ⟨τ4, M5, _, (g0.trans gg).trans g5, sl4.good g5, mu5, nb.1 rfl, fun v H6 d M6 g6 mu6 r6 n6 => ?_⟩
        split at n6
        · rename_i acc ea
          obtain ⟨ho, e, rm⟩ := mu6 _ _ ea
          cases rm with
          | lst rs => exact ⟨_, e, by rw [rs.length, sizeLine_eq]; exact n6.1, mput M6 p (.lst (acc ++ [d])), (((g2.trans g3).trans g5).trans g6).trans (good_write ea), mut_write mu6 ea (.lst (rs.append (.cons r6 .nil))), n6.2⟩
        · exact n6.elim
    · have e : i = xs.length := by omega
      subst e
      have dn := done M2 iv
      split at dn
      · rename_i acc ea
        obtain ⟨ho, e, rm⟩ := mu2 _ _ ea
        cases rm with
        | lst rs => exact .inl ⟨stop, k _ H2 _ _ ((g1.trans g2).trans good_del) (mut_del mu2) (.lst (.inl ⟨mdel_same, .inl e⟩) (rs.good good_del)) dn⟩
      · exact dn.elim⟩
/-- where the item's value is told by its place, whatever stands elsewhere -/
theorem mdel_mput {M : MH} {p : Addr} {o : MO} (h : M p = none) : mdel (mput M p o) p = M := by
  funext b
  by_cases e : b = p
  · subst e; rw [mdel_same, h]
  · rw [mdel_ne e, mput_ne e]
theorem mput_mput {M : MH} {p : Addr} {o o' : MO} : mput (mput M p o) p o' = mput M p o' := by
  funext b
  by_cases e : b = p
  · subst e; rw [mput_same, mput_same]
  · rw [mput_ne e, mput_ne e, mput_ne e]
theorem lc_pure {ti : TAD} {gd : TGD} {tt : TTD} {te : TED} {vs : List Nat} {W : WD} {τ : EnvD} {M : MH} {Q : QD} (xs : List D) (f : D → D) (c : D → Bool) (hl : xs.length ≤ 16777216) (M1 : MH)
    (hx : ∀ x ∈ xs, ∀ M2 (R : EnvD → MH → Prop), (∀ τ2, (∀ R2 : Bool → MH → Prop, R2 (c x) M2 → tt noW τ2 M2 R2) → (c x = true → ∀ R3 : QD, R3 (f x) M2 → te noW τ2 M2 R3) → R τ2 M2) → gd x (wipeD τ vs) M2 R)
    (hq : Q (.lst ((xs.filter c).map f)) M1) (hi : ∀ R : List D → MH → Prop, R xs M1 → ti W τ M R) : tLcD ti gd tt te vs W τ M Q := by
  refine hi _ fun p hp => ⟨fun i M2 => M2 = mput M1 p (.lst (((xs.take i).filter c).map f)), rfl, ?_, ?_⟩
  · rintro i x M2 hx' rfl
    have hi' : i < xs.length := (List.getElem?_eq_some_iff.mp hx').1
    have htk : xs.take (i + 1) = xs.take i ++ [x] := by rw [List.take_add_one, hx']; rfl
    refine hx x (List.mem_of_getElem? hx') _ _ fun τ2 h1 h2 => h1 _ ⟨fun hb => h2 hb _ ?_, fun hb => ?_⟩
    · rw [mput_same]
      refine ⟨?_, ?_⟩
      · have : (((xs.take i).filter c).map f).length ≤ i := by
          rw [List.length_map]
          exact Nat.le_trans (List.length_filter_le _ _) (by rw [List.length_take]; omega)
        omega
      · rw [mput_mput]
        show mput M1 p (.lst (((xs.take i).filter c).map f ++ [f x])) = mput M1 p (.lst (((xs.take (i + 1)).filter c).map f))
        rw [htk, List.filter_append, List.map_append]
        simp [hb]
    · show mput M1 p (.lst (((xs.take i).filter c).map f)) = mput M1 p (.lst (((xs.take (i + 1)).filter c).map f))
      rw [htk, List.filter_append]
      simp [hb]
  · rintro M2 rfl
    rw [mput_same]
    show Q _ _
    rw [mdel_mput hp, List.take_length]
    exact hq
end
end Z

set_option Elab.async false
set_option linter.all false
set_option maxRecDepth 100000
set_option maxHeartbeats 4000000
namespace Z
open PySem L2

section
variable {X : Cx} {a b e : Expr} {es : List Expr} {ta tb te : TED} {ts : TAD} {pos p p2 : Pos}
/-! ### slices of lists -/
def tPartD (t : TED) : WD → EnvD → MH → (Option Int → MH → Prop) → Prop := fun W τ M Q => t W τ M fun d M1 => match d with | .int i => Q (some i) M1 | _ => False
def tNoPartD : WD → EnvD → MH → (Option Int → MH → Prop) → Prop := fun _ _ M Q => Q none M
def upO (K : PySem.W.Frag) (H0 : Hp) (M0 : MH) (W : WD) (t : WD → EnvD → MH → (Option Int → MH → Prop) → Prop) : L2.TO := fun σ H Q => ∃ τ M F, Good H0 M0 H M ∧ Slots K H M σ τ ∧ Mut K H M ∧ t W τ M F ∧ ∀ o H' M', Good H M H' M' → Mut K H' M' → F o M' → Q o H'
def PDO (X : Cx) (e : Option Expr) (t : WD → EnvD → MH → (Option Int → MH → Prop) → Prop) : Prop := ∀ pn xe H0 M0 W, At X pn xe H0 M0 W → PO (X.tr pn xe) e (upO X.K H0 M0 W t)
theorem imO {e : Option Expr} {t t' : L2.TO} (h : PO X e t) (i : ∀ σ H Q, t' σ H Q → t σ H Q) : PO X e t' := ⟨fun pins s σ H Q I q => h.run pins s σ H Q I (i σ H Q q)⟩
theorem pdo_none : PDO X none tNoPartD := fun pn xe H0 M0 W at_ => imO po_none fun σ H Q ⟨τ, M, F, g0, sl, mu, h, k⟩ => k none H M .refl mu h
theorem pdo_some (h : PD X e te) : PDO X (some e) (tPartD te) := fun pn xe H0 M0 W at_ => imO (po_some (h pn xe H0 M0 W at_)) fun σ H Q ⟨τ, M, F, g0, sl, mu, h, k⟩ => upE_fin g0 sl mu h fun v H1 d M1 g1 mu1 r1 q => by
  cases r1 with
  | int i => exact ⟨i, rfl, k (some i) H1 M1 g1 mu1 q⟩
  | _ => exact q.elim
def cutD (xs : List D) (lo hi : Option Int) : List D := (xs.drop (HT.sIx xs.length 0 lo)).take (HT.sIx xs.length xs.length hi - HT.sIx xs.length 0 lo)
theorem reps_cut {K : PySem.W.Frag} {H : Hp} {M : MH} {vs : List V} {xs : List D} (l u : Option Int) (rs : Reps K H M vs xs) : Reps K H M (cutV vs l u) (cutD xs l u) := by
  unfold cutV cutD
  rw [rs.length]
  exact (rs.drop _).take _
def tSlD (t : TED) (tl th : WD → EnvD → MH → (Option Int → MH → Prop) → Prop) : TED := fun W τ M Q => t W τ M fun d M1 => tl W τ M1 fun l M2 => th W τ M2 fun u M3 => match d with | .lst xs => Q (.lst (cutD xs l u)) M3 | _ => False
theorem pd_slice {lo hi : Option Expr} {tl th : WD → EnvD → MH → (Option Int → MH → Prop) → Prop} (he : PD X e te) (hl : PDO X lo tl) (hu : PDO X hi th) : PD X (.Subscript e (.Slice lo hi none p2) pos) (tSlD te tl th) := fun pn xe H0 M0 W at_ =>
  imE (pe_slice sl_list (he pn xe H0 M0 W at_) (hl pn xe H0 M0 W at_) (hu pn xe H0 M0 W at_)) fun σ H Q ⟨τ, M, F, g0, sl, mu, h, k⟩ => upE_fin g0 sl mu h fun v H1 d M1 g1 mu1 r1 q =>
    ⟨τ, M1, _, g0.trans g1, sl.good g1, mu1, q, fun l H2 M2 g2 mu2 q2 => ⟨τ, M2, _, (g0.trans g1).trans g2, (sl.good g1).good g2, mu2, q2, fun u H3 M3 g3 mu3 q3 => by
      cases r1 with
      | lst rr rs =>
        have g := g2.trans g3
        refine ⟨_, _, rfl, (rr.good g).sq, fun q hq => ?_⟩
        exact k _ _ _ M3 ((g1.trans g).trans (good_new hq)) (mut_new mu3 hq) (rep_lst mu3 hq (reps_cut l u (rs.good g))) q3
      | _ => exact q3.elim⟩⟩

/-! ### isinstance with built-in types -/
inductive Tag where | int | bool | str | list | tuple | dict
def tagStr : Tag → String | .int => "int" | .bool => "bool" | .str => "str" | .list => "list" | .tuple => "tuple" | .dict => "dict"
def isTag (T : Tag) (d : D) : Option Bool := match d with
  | .non => some false
  | .bl _ => some (match T with | .int => true | .bool => true | _ => false)
  | .int _ => some (match T with | .int => true | _ => false)
  | .str _ => some (match T with | .str => true | _ => false)
  | .flt _ => some false
  | .lst _ => some (match T with | .list => true | _ => false)
  | .tup _ => some (match T with | .tuple => true | _ => false)
  | .dct _ => some (match T with | .dict => true | _ => false)
  | _ => none
def tyName : D → String | .non => "NoneType" | .bl _ => "bool" | .int _ => "int" | .str _ => "str" | .flt _ => "float" | .lst _ => "list" | .tup _ => "tuple" | .dct _ => "dict" | _ => ""
theorem isTag_kit {T : Tag} {d : D} {b : Bool} (h : isTag T d = some b) : kitB (tyName d) (tagStr T) = some b := by
  cases d <;> cases T <;> cases h <;> (dsimp only [tyName, tagStr]; decide +kernel)
theorem rep_ty {K : PySem.W.Frag} {H : Hp} {M : MH} {v : V} {d : D} {T : Tag} {b : Bool} (r : Rep K H M v d) (h : isTag T d = some b) : TyX K H v (.type (tyName d)) := by
  cases r with
  | non => exact .base .non
  | bl b => exact .base (.bl b)
  | int i => exact .base (.int i)
  | str x => exact .base (.str x)
  | flt x => exact .base (.flt x)
  | lst rr rs =>
    rcases rr with ⟨_, rr | ⟨o, rr⟩⟩ | ⟨o, its, n, h1, h2, _⟩
    · exact .base (.lst rr)
    · exact .base (.frz rr)
    · exact .kList h1 h2
  | tup rr rs =>
    rcases rr with ⟨_, rr | ⟨o, rr⟩⟩ | ⟨o, its, n, h1, h2, _⟩
    · exact .base (.tup rr)
    · exact .fTuple rr
    · exact .kTuple h1 h2
  | dct m e rs => exact .base (.dK e)
  | _ => cases h
def tIs (f : D → Option Bool) (t : TED) : TED := fun W τ M Q => t W τ M fun d M1 => match f d with | some b => Q (.bl b) M1 | none => False
theorem pd_isA {c : Expr} {T : Tag} (hm : X.mg "isinstance" = none) (ha : PD X a ta) (hc : ∀ pn xe, PE (X.tr pn xe) c (tC (.ty (tagStr T)))) (hg : Gl X "isinstance" := by rfl) (he : starEach [a, c] X.env = (false, eval a X.env) :: starEach [c] X.env := by rfl) (he2 : starEach [c] X.env = [(false, eval c X.env)] := by rfl)
    (hpl : (backTo pos (starEach [c] X.env)).any (·.1) = false := by rfl) : PD X (.Call (.Name "isinstance" p) [a, c] [] pos) (tIs (isTag T) ta) := fun pn xe H0 M0 W at_ =>
  imE (pe_callB (X := X.tr pn xe) call_isi hg hm (by decide +kernel) (pa_cons (ha pn xe H0 M0 W at_) (pa_cons (hc pn xe) pa_nil he2) he) (by decide) (by decide) he hpl) fun σ H Q ⟨τ, M, F, g0, sl, mu, h, k⟩ => upE_fin g0 sl mu h fun v H1 d M1 g1 mu1 r1 q => by
    cases e : isTag T d with
    | none => rw [e] at q; exact q.elim
    | some r =>
      rw [e] at q
      exact ⟨_, _, _, _, r, rfl, .ty _, rep_ty r1 e, kit_ty (isTag_kit e), k _ _ _ _ g1 mu1 (.bl _) q⟩
theorem pe_tag {x : Str} {n : String} (hm : X.mg x = none) (hv : bootBuiltins x = some (.type n) := by decide +kernel) (hg : Gl X x := by rfl) (hn : x ≠ "__name__" := by decide) (hd : (x == ("__debug__" : Str)) = false := by decide) : ∀ pn xe, PE (X.tr pn xe) (.Name x p) (tC (.ty n)) :=
  fun pn xe => pe_bltn (X := X.tr pn xe) (v := .ty n) hg hm hv rfl hn hd
/-- isinstance(x, (list, tuple)) and its like -/
def isTag2 (T T' : Tag) (d : D) : Option Bool := match isTag T d, isTag T' d with | some b, some c => some (b || c) | _, _ => none
theorem pd_isA2 {c c' : Expr} {T T' : Tag} {x1} {p3 : Pos} (hm : X.mg "isinstance" = none) (ha : PD X a ta) (hc : ∀ pn xe, PE (X.tr pn xe) c (tC (.ty (tagStr T)))) (hc' : ∀ pn xe, PE (X.tr pn xe) c' (tC (.ty (tagStr T')))) (hg : Gl X "isinstance" := by rfl)
    (he : starEach [a, .Tuple [c, c'] x1 p3] X.env = (false, eval a X.env) :: starEach [.Tuple [c, c'] x1 p3] X.env := by rfl) (he2 : starEach [.Tuple [c, c'] x1 p3] X.env = [(false, eval (.Tuple [c, c'] x1 p3) X.env)] := by rfl) (he3 : starEach [c, c'] X.env = (false, eval c X.env) :: starEach [c'] X.env := by rfl) (he4 : starEach [c'] X.env = [(false, eval c' X.env)] := by rfl)
    (hpl : (backTo pos (starEach [.Tuple [c, c'] x1 p3] X.env)).any (·.1) = false := by rfl) : PD X (.Call (.Name "isinstance" p) [a, .Tuple [c, c'] x1 p3] [] pos) (tIs (isTag2 T T') ta) := fun pn xe H0 M0 W at_ =>
  imE (pe_callB (X := X.tr pn xe) call_isiT hg hm (by decide +kernel) (pa_cons (ha pn xe H0 M0 W at_) (pa_cons (pe_tup (pa_cons (hc pn xe) (pa_cons (hc' pn xe) pa_nil he4) he3)) pa_nil he2) he) (by decide) (by decide) he hpl) fun σ H Q ⟨τ, M, F, g0, sl, mu, h, k⟩ => upE_fin g0 sl mu h fun v H1 d M1 g1 mu1 r1 q => by
    refine ⟨by show 2 ≤ sizeLine; decide, fun t ht => ?_⟩
    unfold isTag2 at q
    cases e : isTag T d with
    | none => rw [e] at q; exact q.elim
    | some r =>
      cases e' : isTag T' d with
      | none => rw [e, e'] at q; exact q.elim
      | some r' =>
        rw [e, e'] at q
        have r2 := r1.good (good_new (o := .tup [.ty (tagStr T), .ty (tagStr T')]) ht)
        refine ⟨_, t, _, _, _, (r || r'), rfl, upd_same, .cons (.ty _) (.cons (.ty _) .nil), rep_ty r2 e, ?_, k _ _ _ _ (g1.trans (good_new ht)) (mut_new mu1 ht) (.bl _) q⟩
        exact kitAny_cons (kit_ty (isTag_kit e)) (fun h0 => kitAny_cons (kit_ty (isTag_kit e')) (fun h1 => by rw [h0, h1]; exact kitAny_nil) (fun h1 => by rw [h1, Bool.or_true])) (fun h0 => by rw [h0, Bool.true_or])

/-! ### tuple(x) -/
def tTupOf (t : TED) : TED := fun W τ M Q => t W τ M fun d M1 => match seqD d with | some xs => Q (.tup xs) M1 | none => False
theorem pd_tupOf (hm : X.mg "tuple" = none) (ha : PD X a ta) (hg : Gl X "tuple" := by rfl) (na : starEach [a] X.env = (false, eval a X.env) :: starEach [] X.env := by rfl) : PD X (.Call (.Name "tuple" p) [a] [] pos) (tTupOf ta) := fun pn xe H0 M0 W at_ =>
  imE (pe_tupleOf (X := X.tr pn xe) hg hm (ha pn xe H0 M0 W at_) na) fun σ H Q ⟨τ, M, F, g0, sl, mu, h, k⟩ => upE_fin g0 sl mu h fun v H1 d M1 g1 mu1 r1 q => by
    cases r1 with
    | lst rr rs => exact .inl ⟨_, _, rfl, rr.sq, fun w hw => k _ _ _ M1 (g1.trans (good_new hw)) (mut_new mu1 hw) (rep_tup mu1 hw rs) q⟩
    | tup rr rs => exact .inr ⟨_, _, rfl, rr.sq, k _ _ _ M1 g1 mu1 (.tup rr rs) q⟩
    | _ => exact q.elim

/-! ### a, b = x, y; while; name op= e -/
def tParD (i j : Nat) (t : TAD) : TSD := fun W F τ M => t W τ M fun ds M1 => match ds with | [d, e] => F.nx (setN (setN τ i (some d)) j (some e)) M1 | _ => False
theorem pds_par {i j : Nat} {x y : Str} {px py pt : Pos} {kt k2 pt2} (hc : X.calm = true) (hN : X.N.Nodup) (ha : PDA X [a, b] ts) (hi : X.N[i]? = some x := by rfl) (hj : X.N[j]? = some y := by rfl) (hij : i ≠ j := by decide)
    (hx : X.env.scope.names.lookup x = some .local := by rfl) (hy : X.env.scope.names.lookup y = some .local := by rfl)
    (hw : swappedStores [.Tuple [.Name x px, .Name y py] kt pt] (.Tuple [a, b] k2 pt2) X.env = pure (some [x, y]) := by rfl)
    (hs : swapsWithSole [.Tuple [.Name x px, .Name y py] kt pt] (.Tuple [a, b] k2 pt2) pos.line X.env = pure false := by rfl) :
    PDS X (.Assign [.Tuple [.Name x px, .Name y py] kt pt] (.Tuple [a, b] k2 pt2) pos) (tParD i j ts) := fun pn xe H0 M0 W at_ =>
  imS (ps_par (X := X.tr pn xe) hc hN hi hj hij hx hy (ha pn xe H0 M0 W at_) hw hs) fun D σ H ⟨τ, M, F, g0, sl, mu, h, k1, k2, k3, k4⟩ => ⟨τ, M, _, g0, sl, mu, h, fun vs H1 ds M1 g1 mu1 r q => by
    split at q
    · cases r with
      | cons r rs => cases rs with
        | cons r' rs' => cases rs'; exact ⟨_, _, rfl, k1 _ _ ⟨_, M1, g1, by rw [setN_eq, setN_eq]; exact ((sl.good g1).set r).set r', mu1, q⟩⟩
    · exact q.elim⟩
/-- while, by an invariant with its measure -/
def tWhileD (c : TTD) (body : TSD) : TSD := fun W F τ M => ∃ (Iv : EnvD → MH → Prop) (m : EnvD → MH → Nat), Iv τ M ∧ ∀ τ' M', Iv τ' M' → c W τ' M' fun b M1 =>
  (b = true → body W { F with nx := fun τ2 M2 => Iv τ2 M2 ∧ m τ2 M2 < m τ' M', ct := fun τ2 M2 => Iv τ2 M2 ∧ m τ2 M2 < m τ' M', bk := F.nx } τ' M1) ∧ (b = false → F.nx τ' M1)
theorem pds_while {c : Expr} {body : List Stmt} {tc : TTD} {tb : TSD} (hc : PDT X c tc) (hb : PDB X body tb) : PDS X (.While c body [] pos) (tWhileD tc tb) := fun pn xe H0 M0 W at_ =>
  imS (ps_while (X := X.tr pn xe) at_.po (hc pn xe H0 M0 W at_) (hb pn xe H0 M0 W at_)) fun D σ H ⟨τ, M, F, g0, sl, mu, ⟨Iv, m, i0, step⟩, k1, k2, k3, k4⟩ => by
    refine ⟨fun n σ2 H2 => ∃ τ2 M2, n = m τ2 M2 ∧ Good H M H2 M2 ∧ Slots X.K H2 M2 σ2 τ2 ∧ Mut X.K H2 M2 ∧ Iv τ2 M2, ⟨_, τ, M, rfl, .refl, sl, mu, i0⟩, ?_⟩
    rintro n σ2 H2 ⟨τ2, M2, rfl, g2, sl2, mu2, iv⟩
    refine ⟨τ2, M2, _, g0.trans g2, sl2, mu2, step τ2 M2 iv, fun b H3 M3 g3 mu3 q => ?_⟩
    cases b with
    | true =>
      rw [if_pos rfl]
      refine ⟨fun σ4 H4 => ∃ τ4 M4, m τ4 M4 < m τ2 M2 ∧ Good H M H4 M4 ∧ Slots X.K H4 M4 σ4 τ4 ∧ Mut X.K H4 M4 ∧ Iv τ4 M4, fun σ4 H4 ⟨τ4, M4, l, w⟩ => ⟨_, l, τ4, M4, rfl, w⟩, ?_⟩
      refine ⟨τ2, M3, _, (g0.trans g2).trans g3, sl2.good g3, mu3, q.1 rfl, ?_, fun v H' z => k2 v H' ((z.tr g3).tr g2), fun σ' H' z => k1 σ' H' ((z.tr g3).tr g2), ?_⟩
      all_goals
        rintro σ5 H5 ⟨τ5, M5, g5, sl5, mu5, iv5, l5⟩
        exact ⟨τ5, M5, l5, (g2.trans g3).trans g5, sl5, mu5, iv5⟩
    | false =>
      rw [if_neg Bool.false_ne_true]
      exact k1 _ _ ⟨τ2, M3, g2.trans g3, sl2.good g3, mu3, q.2 rfl⟩
end

/-! ### repr of data -/
theorem toPy_noDict : (∀ d p, toPy d = some p → p.hasDict = false) := by
  intro d
  refine D.rec (motive_1 := fun d => ∀ p, toPy d = some p → p.hasDict = false) (motive_2 := fun ds => ∀ ps, toPys ds = some ps → PyData.hasDictAll ps = false) (motive_3 := fun _ => True) (motive_4 := fun _ => True) (motive_5 := fun _ => True) (motive_6 := fun _ => True) ?_ ?_ ?_ ?_ ?_ ?_ ?_ ?_ ?_ ?_ ?_ ?_ ?_ ?_ ?_ ?_ ?_ ?_ ?_ ?_ d
  all_goals (try (intros; trivial))
  all_goals (try (intros; rename_i h; simp only [toPy, toPys] at h; cases h; simp [PyData.hasDict, PyData.hasDictAll]; done))
  · intro xs ih p h
    simp only [toPy] at h
    cases e : toPys xs with
    | none => rw [e] at h; cases h
    | some ps => rw [e] at h; cases h; simpa [PyData.hasDict] using ih ps e
  · intro xs ih p h
    simp only [toPy] at h
    cases e : toPys xs with
    | none => rw [e] at h; cases h
    | some ps => rw [e] at h; cases h; simpa [PyData.hasDict] using ih ps e
  · intro x xs ih1 ih2 ps h
    simp only [toPys] at h
    cases e1 : toPy x with
    | none => rw [e1] at h; cases h
    | some q =>
      cases e2 : toPys xs with
      | none => rw [e1, e2] at h; cases h
      | some qs => rw [e1, e2] at h; cases h; simp [PyData.hasDictAll, ih1 q e1, ih2 qs e2]
/-- what repr asks of data, and what it gives -/
def okRepr (p : PyData) : Prop := p.showable = true ∧ p.shown.length ≤ 16777216 ∧ p.depth ≤ 64
def tReprD (t : TED) : TED := fun W τ M Q => t W τ M fun d M1 => match toPy d with | some p => okRepr p ∧ Q (.str p.shown) M1 | none => False
section
variable {X : Cx}
theorem repr_val {pins : List (Addr × Obj)} {σ : L2.St} {H : Hp} {s : Shared} {v : V} {u : Value} {d : D} {p : PyData} {M : MH} {Q : VK} (I : Inv X pins σ H s) (hgd : X.A.guards = some []) (hu : X.A.units + 66 < cLine) (r : RelV v u) (rp : Rep X.K H M v d) (e : toPy d = some p) (ok : okRepr p) (q : Q (.str p.shown) H) :
    wpAny (model X.prog X.w) X.A (call (.builtin "repr") [u]) (EP X pins σ Q) X.xe s := by
  obtain ⟨h1, h2, h3⟩ := ok
  have h2' : p.shown.length ≤ sizeLine := by rw [sizeLine_eq]; exact h2
  obtain ⟨as, rd⟩ := Dp.reads I p v u (toPy_dp rp e) r
  have done : ∀ t, EP X pins σ Q (.str p.shown t) { s with toks := s.toks + 1 } := fun t => ⟨.str p.shown, H, I.tok _, ⟨t, rfl⟩, q⟩
  cases rp with
  | non =>
    simp only [toPy] at e; cases e; cases r
    exact PySem.P.repr_of_none (done _)
  | bl b =>
    simp only [toPy] at e; cases e; cases r
    exact PySem.P.repr_of_bool (done _)
  | int i =>
    simp only [toPy] at e; cases e
    obtain ⟨t, rfl⟩ := r
    exact PySem.P.repr_of_int (by simpa [PyData.showable] using h1) (done _)
  | str x =>
    simp only [toPy] at e; cases e
    obtain ⟨t, rfl⟩ := r
    exact PySem.P.repr_of_str (done _) h2'
  | lst _ _ =>
    cases r
    have nd : p.hasDict = true → sysModules ∉ as := fun z => by rw [toPy_noDict _ _ e] at z; cases z
    exact repr_of_reads' rd h1 nd hgd (by omega) (fun _ _ z => z) (fun h' u tk hk => ⟨.str p.shown, H, I.kept hk, ⟨u, rfl⟩, q⟩) h2'
  | tup _ _ =>
    cases r
    have nd : p.hasDict = true → sysModules ∉ as := fun z => by rw [toPy_noDict _ _ e] at z; cases z
    exact repr_of_reads' rd h1 nd hgd (by omega) (fun _ _ z => z) (fun h' u tk hk => ⟨.str p.shown, H, I.kept hk, ⟨u, rfl⟩, q⟩) h2'
  | _ => simp [toPy] at e
theorem pd_repr {a : Expr} {ta : TED} {pos p : Pos} (hgd : X.A.guards = some []) (hu : X.A.units + 66 < cLine) (hm : X.mg "repr" = none) (ha : PD X a ta) (hg : Gl X "repr" := by rfl) (he : starEach [a] X.env = (false, eval a X.env) :: starEach [] X.env := by rfl) (hpl : (backTo pos (starEach [] X.env)).any (·.1) = false := by rfl) :
    PD X (.Call (.Name "repr" p) [a] [] pos) (tReprD ta) := fun pn xe H0 M0 W at_ => by
  refine ⟨fun pins s σ H Q I ⟨τ, M, F, g0, sl, mu, h, k⟩ => ?_⟩
  refine wpAny_Call_Name_kw (ld_blt I hg hm (show bootBuiltins "repr" = some (.builtin "repr") by decide +kernel) ?_ (by decide) (by decide))
  refine PyProof.Rows.callWith_builtin1 (thn ((pa_cons (X := X.tr pn xe) (ha pn xe H0 M0 W at_) pa_nil he).run pos pins s σ H (fun vs H1 => ∃ v d M1 p, vs = [v] ∧ Good H M H1 M1 ∧ Mut X.K H1 M1 ∧ Rep X.K H1 M1 v d ∧ toPy d = some p ∧ okRepr p ∧ F (.str p.shown) M1) I ?_) fun us s1 ⟨vs, H1, I1, r1, v, d, M1, p, ev, g1, mu1, rp, e, ok, q⟩ => ?_) he hpl
  · exact upE_fin g0 sl mu h fun v H1 d M1 g1 mu1 r1 q => by
      cases e : toPy d with
      | none => rw [e] at q; exact q.elim
      | some p => rw [e] at q; exact ⟨v, d, M1, p, rfl, g1, mu1, r1, e, q.1, q.2⟩
  · subst ev
    cases r1 with
    | cons r rs =>
      cases rs
      exact repr_val (X := X.tr pn xe) I1 hgd hu r rp e ok (k _ H1 _ M1 g1 mu1 (.str _) q)
end

/-! ### defs that show data: they ask that no repr is under way -/
structure FnZ (P : Program) (w : World) (K : PySem.W.Frag) (mg : Str → Option Value) (base : Heap) (k : Nat) (f : Addr) (fd : FuncData) (ps : List Str) (sp : SpD) : Prop where
  len : ∀ ds M F E, sp ds M F E → ds.length = ps.length
  run : ∀ (A : Around) (outer : List Env) (s : Shared) (H : Hp) (args : Args) (us : List Value) (vs : List V) (Q : VK) (E : XK), Room k A → A.guards = some [] → Env0 P w K mg base A outer s H → BindsTo s fd args (ps.zip us) → Vals vs us → spOf K sp vs H Q E →
    codeAny (model P w) A (.call (.ref f) args) (CR (L2.CX P w) outer P w H s Q E) s
section
open PyProof.Rows PySem.Spec
variable {P : Program} {w : World} {K : PySem.W.Frag} {mg : Str → Option Value} {base : Heap}
theorem fnZ {x qual : Str} {st : Stmt} {f : Addr} {fd : FuncData} {N ps : List Str} {k : Nat} {sp : SpD} {t : TSD} (F : Fun K x qual st f fd) (S : FnScope N ps (defScope st)) (len : ∀ ds M F E, sp ds M F E → ds.length = ps.length)
    (hb : ∀ (cdv : Value) (A : Around) (outer : List Env) (s : Shared) (H : Hp) (E : XK), Room k (A.deeper (envOfC qual (defScope st) s.heap.objs.size f cdv)) → A.guards = some [] → PDB (cxOf (L2.CX P w) P w K mg base N qual (defScope st) f cdv A outer s H E) (defBody st) t)
    (wp : ∀ ds M F FE, sp ds M F FE → t (fun C fs _ M => FE C fs M) { nx := fun _ M => F .non M, rt := F } (startD N ds) M) : FnZ P w K mg base (k + 1) f fd ps sp := by
  obtain ⟨oc, od, kV, doc, pm, an, cdv, ct, osl, rfl, lk, hcd⟩ := F.ex
  refine ⟨len, fun A outer s H args us vs Q E hr hgd e0 hbd r hsp => ?_⟩
  obtain ⟨ds, M, G, FE, rr, mu, h, kq, ke⟩ := hsp
  have hl : vs.length = ps.length := by rw [rr.length]; exact len _ _ _ _ h
  have old : ∀ b o, base.get? b = some o → s.heap.get? b = some o := fun b o e => (e0.bs b o e).1
  have KX := e0.mod.kin.keeps old
  have lim := e0.mod.nolimit.keeps old
  refine codeAny_call_function hr.depth (KX _ _ lk) rfl S.co S.gen rfl (PySem.W.codeRec_of KX hcd) (hbd _ _ _ _ ?_)
  refine wpAny_newFunctionEnv_cells S.kind (fun y hy => ?_) fun env he s1 x => ?_
  · obtain ⟨n, v⟩ := y
    exact (S.par n (List.of_mem_zip hy).1).imp id fun q => ⟨q, PySem.W.cellsFrom_some _ _ _ (.inl q)⟩
  subst he
  refine ⟨lim.keeps x.toInCall.keep, codeAny_func ?_⟩
  have I := inv_start (CX := L2.CX P w) (w := w) (cd := cdv) (E := E) S hr.hd e0 hl r x
  have at_ : At (cxOf (L2.CX P w) P w K mg base N qual (defScope st) f cdv A outer s H E) (cxOf (L2.CX P w) P w K mg base N qual (defScope st) f cdv A outer s H E).pn (cxOf (L2.CX P w) P w K mg base N qual (defScope st) f cdv A outer s H E).xe H M (fun C fs _ M => FE C fs M) := by
    refine ⟨Takes.imp (takes_of rfl rfl rfl rfl) fun c d σ H' ⟨C, ds', τ, M', e, ex, g, sl, mu', q⟩ => ?_, passes_of rfl⟩
    subst e
    exact ke C ds' d H' M' g mu' ex q
  have body := hb cdv A outer s H E (hr.deeper _) hgd _ _ H M _ at_
  refine wpAny_mono (body.run [] s1 _ H { nx := fun _ H' => Q .non H', rt := Q } I ⟨startD N ds, M, _, .refl, slots_start rr, mu, wp ds M G FE h, ?_, ?_, ?_, ?_⟩) (fun fl s' hs => ?_) fun e s' hs => hs
  · rintro σ' H' ⟨τ, M', g, sl, mu', q⟩
    exact kq _ _ _ _ g mu' .non q
  · rintro v H' ⟨d, M', g, mu', r', q⟩
    exact kq _ _ _ _ g mu' r' q
  · rintro σ' H' ⟨τ, M', g, sl, mu', q⟩
    exact q.elim
  · rintro σ' H' ⟨τ, M', g, sl, mu', q⟩
    exact q.elim
  · have fin : ∀ {σ' : L2.St} {H' : Hp} {v : V} {u : Value}, Inv (cxOf (L2.CX P w) P w K mg base N qual (defScope st) f cdv A outer s H E) [] σ' H' s' → RelV v u → Q v H' → CE outer P w H s Q u s' :=
      fun {σ' H' v u} J rv q => ⟨v, H', J.os, J.bare, J.base, J.hok, rv, q⟩
    cases fl with
    | ret u => obtain ⟨v, σ', H', J, rv, q⟩ := hs; exact fin J rv q
    | next => obtain ⟨σ', H', J, q⟩ := hs; exact fin (v := V.non) (u := Value.none) J rfl q
    | brk => obtain ⟨_, _, _, q⟩ := hs; exact q.elim
    | cont => obtain ⟨_, _, _, q⟩ := hs; exact q.elim
end
theorem FnZ.of {P : Program} {w : World} {K : PySem.W.Frag} {mg : Str → Option Value} {base : Heap} {k : Nat} {f : Addr} {fd : FuncData} {ps : List Str} {sp : SpD} (len : ∀ ds M F E, sp ds M F E → ds.length = ps.length) (h : FnOk P w K mg base (L2.CX P w) k f fd ps (spOf K sp)) : FnZ P w K mg base k f fd ps sp :=
  ⟨len, fun A outer s H args us vs Q E hr _ e0 hb r q => h.run A outer s H args us vs Q E hr e0 hb r q⟩
section
variable {X : Cx} {k : Nat} {f : Addr} {fd : FuncData} {ps : List Str} {sp : SpD} {x : Str} {e : Expr} {es : List Expr} {ta : TAD} {pos p : Pos}
theorem pd_callZ (F : FnZ X.prog X.w X.K X.mg X.base k f fd ps sp) (hr : Room k X.A) (hgd : X.A.guards = some []) (hm : X.mg x = some (.ref f)) (hk : PySem.W.keepIn X.K (.ref f) = true) (hb : Binds X.K fd ps [])
    (ha : PDA X (e :: es) ta) (hg : Gl X x := by rfl) (hdb : (x == ("__debug__" : Str)) = false := by decide) (he : starEach (e :: es) X.env = (false, eval e X.env) :: starEach es X.env := by rfl) (hpl : (backTo pos (starEach es X.env)).any (·.1) = false := by rfl) :
    PD X (.Call (.Name x p) (e :: es) [] pos) (tCallD sp ta) := fun pn xe H0 M0 W at_ => by
  refine ⟨fun pins s σ H Q I ⟨τ, M, G, g0, sl, mu, h, k⟩ => ?_⟩
  refine wpAny_Call_Name_kw (ld_glob I hg hm ?_ hdb)
  refine PySem.W.callWith_K (h₀ := X.base) I.ok.mod.kin hk (thn ((ha pn xe H0 M0 W at_).run pos pins s σ H (fun vs H1 => vs.length = ps.length ∧ spOf X.K sp vs H1 Q (WE (liftW X.K H0 M0 W) σ)) I ?_) fun us s1 ⟨vs, H1, I1, r, hl, q⟩ => ⟨I1.kIn, ?_⟩) he hpl
  · exact ⟨τ, M, _, g0, sl, mu, h, fun vs H1 ds M1 g1 mu1 r1 h1 => ⟨by rw [r1.length]; exact F.len _ _ _ _ h1, sp_of_call (X := X) g0 sl k g1 mu1 r1 h1⟩⟩
  · have hx := passAt at_.tk σ
    have hbd := hb s1 us I1.kIn (by rw [List.append_nil, ← r.length]; exact hl)
    rw [List.append_nil] at hbd
    refine wpAny_call (codeAny_mono (F.run X.A X.stack s1 H1 ⟨us, []⟩ us vs Q (WE (liftW X.K H0 M0 W) σ) hr hgd I1.env0 hbd r q) fun r s' hq => ?_)
    cases r with
    | error e => exact hx pins H1 s1 e s' I1 hq
    | ok fl =>
      cases fl with
      | ret u => exact I1.after hq
      | next => exact hq.elim
      | brk => exact hq.elim
      | cont => exact hq.elim
end
end Z

set_option Elab.async false
set_option linter.all false
set_option maxRecDepth 100000
set_option maxHeartbeats 4000000
namespace Z
open PySem L2 PySem.Spec PyProof.Rows

/-- what a law promises: of the script's ints, at most 63, it gives True -/
def spLaw : SpD := fun ds M F _ => ∃ ns : List Int, ds = [.lst (ns.map D.int)] ∧ ns.length ≤ 63 ∧ M = (fun _ => none) ∧ ∀ M', F (.bl true) M'
theorem reps_ints {K : PySem.W.Frag} {H : Hp} {M : MH} : ∀ ns : List Int, Reps K H M (ns.map V.int) (ns.map D.int)
  | [] => .nil
  | n :: ns => .cons (.int n) (reps_ints ns)
/-- the law's call from an abstract heap in which at most the script stands -/
theorem law_from {P : Program} {w : World} {K : PySem.W.Frag} {mg mb : Str → Option Value} {k : Nat} {fa a : Addr} {fd : FuncData} {x : Str} {s1 : Shared} {vs : List Value} {ns : List Int} {H : Hp} (KX : K.In s1.heap) (hns : s1.heap.Ns mainGlobals mg)
    (hb : s1.heap.Ns builtinsNs mb) (hbb : ∀ y : Str, y ≠ "__name__" → mb y = bootBuiltins y) (hlim : s1.heap.NoLimit) (hg : s1.gens = #[]) (ha : s1.heap.get? a = some { cls := .type "list", data := .seq vs.toArray }) (hl : ns.length ≤ 63) (hr : Room k callerA)
    (F : ∀ base : Heap, K.In base → base.Ns mainGlobals mg → FnZ P w K mg base k fa fd [x] spLaw) (hbind : ∀ (s : Shared) (u : Value), BindsTo s fd ⟨[u], []⟩ [(x, u)])
    (hO : Only H) (hS : SqL K H a (ns.map V.int)) (hok : HOk P w H s1.heap) (hA : ∀ b, H b ≠ none → b = a) (hK : H a ≠ none → K.lookup a = none) :
    codeAny (model P w) callerA (.call (.ref fa) ⟨[.ref a], []⟩) (fun r s' => r = .ok (.ret (.bool true)) ∧ OldK s1.heap s'.heap ∧ s'.os = s1.os ∧ AllBare s'.gens) s1 := by
  have at_a : ∀ {b : Addr} {u : HO}, H b = some u → b = a := fun e => hA _ (by rw [e]; exact fun z => by cases z)
  have noDict : ∀ {b : Addr} {o : Obj} {es : Array DictEntry} {ep : Nat}, s1.heap.get? b = some o → o.data = .dict es ep → H b = none := by
    intro b o es ep e d
    match q : H b with
    | none => rfl
    | some u =>
      rw [at_a q, ha] at e
      cases e
      cases (show Data.seq vs.toArray _ = Data.dict es ep from d)
  have ns_keep : ∀ {b : Addr} {m : Str → Option Value}, s1.heap.Ns b m → (hidT s1.heap H).Ns b m := by
    rintro b m ⟨o, es, ep, e, d, r⟩
    exact ⟨o, es, ep, hidT_get e (noDict e d), d, r⟩
  have K_keep : K.In (hidT s1.heap H) := by
    intro b o e
    refine hidT_get (KX b o e) ?_
    match q : H b with
    | none => rfl
    | some u =>
      have eb := at_a q
      rw [eb] at e q
      rw [hK (by rw [q]; exact fun z => by cases z)] at e
      cases e
  have hM : Mod K mg (hidT s1.heap H) := ⟨K_keep, ns_keep hns, ⟨mb, ns_keep hb, hbb⟩, by obtain ⟨mc, z1, z2⟩ := hlim; exact ⟨mc, ns_keep z1, z2⟩⟩
  have e0 : Env0 P w K mg (hidT s1.heap H) callerA [] s1 H := ⟨rfl, hM, fun b o e => of_hidT e, Nat.le_of_eq (hidT_size _ _), trivial, (fun b z => absurd (show b ∈ ([] : List Addr) from z) (by simp)), hok, .of_eq hg⟩
  have rl : ReL K H (fun _ => none) a (ns.map V.int) := hS.elim (fun z => .inl ⟨rfl, z⟩) .inr
  have sp0 : spOf K spLaw [.ref a] H (fun v _ => v = .bl true) fun _ _ _ => False := by
    refine ⟨[.lst (ns.map D.int)], fun _ => none, fun d _ => d = .bl true, fun _ _ _ => False, .cons (.lst rl (reps_ints ns)) .nil, (fun b mo z => by cases z), ⟨ns, rfl, hl, rfl, fun _ => rfl⟩, ?_, fun _ _ _ _ _ _ _ _ z => z⟩
    rintro v H' d M' _ _ r rfl
    cases r
    rfl
  refine codeAny_mono ((F _ K_keep (ns_keep hns)).run callerA [] s1 H ⟨[.ref a], []⟩ [.ref a] [.ref a] _ _ hr rfl e0 (hbind s1 (.ref a)) (.cons rfl .nil) sp0) ?_
  intro r s' h
  match r, h with
  | .error e, h => obtain ⟨_, _, _, _, _, _, _, _, _, _, _, _, z⟩ := h; exact z.elim
  | .ok .next, h => exact False.elim h
  | .ok .brk, h => exact False.elim h
  | .ok .cont, h => exact False.elim h
  | .ok (.ret u), h =>
    obtain ⟨v, H', os, bare, un, hok', r', q⟩ := h
    cases (show v = .bl true from q)
    cases r'
    refine ⟨rfl, OldK.of_keep fun b o e => ?_, os, bare⟩
    match q : H b with
    | none => exact un.keep b o e q (fun z => nomatch z) (fun z => nomatch z)
    | some u =>
      obtain ⟨ob, xs, z⟩ := (hO b).resolve_left (by rw [q]; exact fun z => by cases z)
      have t1 := (hok b _ z).1
      have t2 := (hok' b _ (un.frzs b ob _ z)).1
      rw [e] at t1
      cases t1
      exact t2
theorem walkZ {l : PySem.W.OpenLaw} {k : Nat} {q : Program} {loose : List Str} {XP : (Str → Option Value) → Heap → Prop} {YP : World → Heap → Prop} {d : DefRec} {K : Params → PySem.W.Frag} {x : Str} (hn : l.most = some 63) (hdf : d.params.defaults = []) (hr : Room k callerA)
    (hY : ∀ (w : World) (h : Heap), YP w h → (K w.params).In h)
    (F : ∀ (w : World) (mg : Str → Option Value) (fa : Addr) (h : Heap), (K w.params).In h → h.Ns mainGlobals mg → mg d.name = some (.ref fa) →
      ∃ fd : FuncData, (∀ (s : Shared) (u : Value), BindsTo s fd ⟨[u], []⟩ [(x, u)]) ∧ ∀ base : Heap, (K w.params).In base → base.Ns mainGlobals mg → FnZ l.prog w (K w.params) mg base k fa fd [x] spLaw) :
    PySem.W.WalkO q loose XP YP l.row.toRowW d [] (fun f vs => PySem.call f vs) := by
  refine Att.attach_call hn hdf fun w s₀ s1 mg mb fa o pm cd doc a vs ns G Y ho hd hcd hmg hobj hints hlen hg => ?_
  have KX := hY w _ Y
  obtain ⟨fd, hb, hF⟩ := F w mg fa _ KX G.T.g hmg
  have rv := vals_ints hints
  have lenV := hints.length
  have run := fun H => law_from (H := H) (ns := ns) KX G.T.g G.T.b G.T.builtins G.T.nolimit hg hobj hlen hr hF hb
  cases hk : (K w.params).lookup a with
  | some ob =>
    have e := KX a ob hk
    rw [hobj] at e
    cases e
    refine run (fun _ => none) (fun _ => .inl rfl) (.inr ⟨_, vs.toArray, _, hk, rfl, rfl, rfl, ?_, by simpa using rv⟩) (fun b u z => by cases (show (none : Option HO) = some u from z)) (fun b z => absurd rfl z) (fun z => absurd rfl z)
    rw [List.size_toArray, lenV, sizeLine_eq]
    omega
  | none =>
    have self : ∀ b, b = a → (if b = a then some (HO.frz { cls := .type "list", data := .seq vs.toArray } (.lst (ns.map V.int))) else none) = some (.frz { cls := .type "list", data := .seq vs.toArray } (.lst (ns.map V.int))) := fun b e => if_pos e
    have other : ∀ b, b ≠ a → (if b = a then some (HO.frz { cls := .type "list", data := .seq vs.toArray } (.lst (ns.map V.int))) else none) = none := fun b e => if_neg e
    refine run (fun b => if b = a then some (.frz { cls := .type "list", data := .seq vs.toArray } (.lst (ns.map V.int))) else none) (fun b => ?_) (.inl (.inr ⟨_, self a rfl⟩)) (fun b u z => ?_) (fun b z => ?_) (fun _ => hk)
    · by_cases e : b = a
      · exact .inr ⟨_, _, self b e⟩
      · exact .inl (other b e)
    · by_cases e : b = a
      · have z' := (self b e).symm.trans z
        cases z'
        subst e
        refine ⟨hobj, ?_, vs, _, rv, hobj⟩
        rw [List.length_map, sizeLine_eq]
        omega
      · have z' := (other b e).symm.trans z
        cases z'
    · by_cases e : b = a
      · exact e
      · exact absurd (other b e) z
end Z

set_option Elab.async false
set_option linter.all false
set_option maxRecDepth 100000
set_option maxHeartbeats 4000000
namespace Z
open PySem L2 PySem.Spec PyProof.Rows

theorem hrU {k : Nat} {A : Around} (r : Room k A) : A.units + 64 < cLine := by have := r.un; omega
theorem hrV {k : Nat} {A : Around} (r : Room k A) : A.units + 66 < cLine := by have := r.un; omega

/-! ### + and * -/
def rdAdd : R2D := fun d e M F => match d, e with
  | .int i, .int j => F (.int (i + j)) M
  | .str x, .str y => decide (x.length + y.length ≤ 16777216) = true ∧ F (.str (x ++ y)) M
  | _, _ => False
theorem simAdd {K : PySem.W.Frag} : SimOp K (fun x y H Q => rI0 (fun i j => .int (i + j)) x y H Q ∨ (∃ i j, x = .str i ∧ y = .str j ∧ i.length + j.length ≤ sizeLine ∧ Q (.str (i ++ j)) H)) rdAdd := fun x y d e H M F Q rx ry mu h k => by
  unfold rdAdd at h
  split at h
  · cases rx; cases ry
    exact .inl ⟨_, _, rfl, rfl, k _ _ _ _ .refl mu (.int _) h⟩
  · cases rx; cases ry
    exact .inr ⟨_, _, rfl, rfl, szl h.1, k _ _ _ _ .refl mu (.str _) h.2⟩
  · exact h.elim
def rdMul : R2D := fun d e M F => match d, e with
  | .int i, .int j => MulOk i j ∧ F (.int (i * j)) M
  | _, _ => False
theorem simMul {K : PySem.W.Frag} : SimOp K (rI MulOk fun i j => .int (i * j)) rdMul := fun x y d e H M F Q rx ry mu h k => by
  unfold rdMul at h
  split at h
  · cases rx; cases ry
    exact ⟨_, _, rfl, rfl, h.1, k _ _ _ _ .refl mu (.int _) h.2⟩
  · exact h.elim
section
variable {X : Cx} {a b e : Expr} {es : List Expr} {ta tb te : TED} {ts : TAD} {pos p p2 : Pos}
theorem pd_addA (ha : PD X a ta) (hb : PD X b tb) : PD X (.BinOp a .Add b pos) (tOpD rdAdd ta tb) := pd_op (fun _ _ => OpR.or op_add op_add_str) simAdd ha hb
theorem pd_mulA (ha : PD X a ta) (hb : PD X b tb) : PD X (.BinOp a .Mult b pos) (tOpD rdMul ta tb) := pd_op (fun _ _ => op_mulZ) simMul ha hb
theorem mulOk_l {i j : Int} (h : -18446744073709551616 < i ∧ i < 18446744073709551616) : MulOk i j := .inl (.inl h)
theorem mulOk_r {i j : Int} (h : -18446744073709551616 < j ∧ j < 18446744073709551616) : MulOk i j := .inl (.inr h)

/-! ### arguments whose number is known -/
def upAn (K : PySem.W.Frag) (n : Nat) (H0 : Hp) (M0 : MH) (W : WD) (t : TAD) : TA := fun σ H Q => ∃ τ M F, Good H0 M0 H M ∧ Slots K H M σ τ ∧ Mut K H M ∧ t W τ M F ∧
  ∀ vs H' ds M', Good H M H' M' → Mut K H' M' → Reps K H' M' vs ds → ds.length = n → F ds M' → Q vs H'
def PDN (X : Cx) (es : List Expr) (t : TAD) : Prop := ∀ pn xe H0 M0 W, At X pn xe H0 M0 W → PA (X.tr pn xe) es (upAn X.K es.length H0 M0 W t)
theorem pdn_nil : PDN X [] tNilD := fun pn xe H0 M0 W at_ => imA pa_nil fun σ H Q ⟨τ, M, F, g0, sl, mu, h, k⟩ => k [] H [] M .refl mu .nil rfl h
theorem pdn_cons (ha : PD X e te) (hr : PDN X es ts) (hs : starEach (e :: es) X.env = (false, eval e X.env) :: starEach es X.env := by rfl) : PDN X (e :: es) (tConsD te ts) := fun pn xe H0 M0 W at_ =>
  imA (pa_cons (X := X.tr pn xe) (ha pn xe H0 M0 W at_) (hr pn xe H0 M0 W at_) hs) fun σ H Q ⟨τ, M, F, g0, sl, mu, h, k⟩ =>
    upE_fin g0 sl mu h fun x H1 d M1 g1 mu1 r1 h1 => ⟨τ, M1, _, g0.trans g1, sl.good g1, mu1, h1, fun xs H2 ds M2 g2 mu2 r2 l2 h2 => k (x :: xs) H2 (d :: ds) M2 (g1.trans g2) mu2 (.cons (r1.good g2) r2) (by simp [l2]) h2⟩
theorem pdi_rng1 {tg : Expr} {ta : TAD} (hm : X.mg "range" = none) (ha : PDN X [a] ta) (hg : Gl X "range" := by rfl) (hs : starEach [a] X.env = [(false, eval a X.env)] := by rfl) : PDI X tg (.Call (.Name "range" p) [a] [] pos) (iRngD ta) := fun pn xe H0 M0 W at_ =>
  imI (pi_range1 (X := X.tr pn xe) hg hm (ha pn xe H0 M0 W at_) hs) fun σ H R ⟨τ, M, F, g0, sl, mu, h, k⟩ => ⟨τ, M, _, g0, sl, mu, h, fun vs H1 ds M1 g1 mu1 r l q => by
    cases r with
    | nil => cases l
    | cons r rs =>
      cases rs with
      | cons _ _ => simp at l
      | nil =>
        split at q
        · rename_i n e
          cases e
          cases r
          exact ⟨n, rfl, by omega, by omega, k _ H1 _ M1 g1 mu1 itr_rel q.2⟩
        · rename_i e; cases e
        · exact q.elim⟩
theorem pdi_rng2 {tg : Expr} {ta : TAD} (hm : X.mg "range" = none) (ha : PDN X [a, b] ta) (hg : Gl X "range" := by rfl) (hs : starEach [a, b] X.env = [(false, eval a X.env), (false, eval b X.env)] := by rfl) (hs2 : starEach [b] X.env = [(false, eval b X.env)] := by rfl) : PDI X tg (.Call (.Name "range" p) [a, b] [] pos) (iRngD ta) := fun pn xe H0 M0 W at_ =>
  imI (pi_range2 (X := X.tr pn xe) hg hm (ha pn xe H0 M0 W at_) hs hs2) fun σ H R ⟨τ, M, F, g0, sl, mu, h, k⟩ => ⟨τ, M, _, g0, sl, mu, h, fun vs H1 ds M1 g1 mu1 r l q => by
    split at q
    · simp at l
    · cases r with
      | cons r rs =>
        cases rs with
        | cons r' rs' =>
          cases rs'
          cases r
          cases r'
          exact ⟨_, _, rfl, ⟨by omega, by omega, by omega, by omega⟩, k _ H1 _ M1 g1 mu1 itr_rel q.2⟩
    · exact q.elim⟩

/-! ### calls by keywords, calls without arguments, of defs that ask that no repr is under way -/
def PDKn (X : Cx) (es : List Keyword) (t : TAD) : Prop := ∀ pn xe H0 M0 W, At X pn xe H0 M0 W → PK (X.tr pn xe) es (upAn X.K es.length H0 M0 W t)
theorem pdkn_nil : PDKn X [] tNilD := fun pn xe H0 M0 W at_ => imK pk_nil fun σ H Q ⟨τ, M, F, g0, sl, mu, h, k⟩ => k [] H [] M .refl mu .nil rfl h
theorem pdkn_cons {kws : List Keyword} {nm : Option Str} {kpos : Pos} (ha : PD X e te) (hr : PDKn X kws ts) : PDKn X (⟨nm, e, kpos⟩ :: kws) (tConsD te ts) := fun pn xe H0 M0 W at_ =>
  imK (pk_cons (ha pn xe H0 M0 W at_) (hr pn xe H0 M0 W at_)) fun σ H Q ⟨τ, M, F, g0, sl, mu, h, k⟩ =>
    upE_fin g0 sl mu h fun x H1 d M1 g1 mu1 r1 h1 => ⟨τ, M1, _, g0.trans g1, sl.good g1, mu1, h1, fun xs H2 ds M2 g2 mu2 r2 l2 h2 => k (x :: xs) H2 (d :: ds) M2 (g1.trans g2) mu2 (.cons (r1.good g2) r2) (by simp [l2]) h2⟩
variable {k : Nat} {f : Addr} {fd : FuncData} {ps ks : List Str} {sp : SpD} {x : Str} {kws : List Keyword} {ta' : TAD} {ix : List Nat}
theorem pd_callKZ (F : FnZ X.prog X.w X.K X.mg X.base k f fd ps sp) (hr : Room k X.A) (hgd : X.A.guards = some []) (hm : X.mg x = some (.ref f)) (hk : PySem.W.keepIn X.K (.ref f) = true) (hb : KwB X.K fd ps ks ix)
    (ha : PDKn X kws ta') (hl : kws.length = ks.length) (hg : Gl X x := by rfl) (hdb : (x == ("__debug__" : Str)) = false := by decide) (hall : (backToKw pos (keywordEach kws X.env)).all (·.1.isSome) = true := by rfl)
    (hks : (backToKw pos (keywordEach kws X.env)).filterMap (·.1) = ks := by rfl) (hpl : ((backTo pos (starEach [] X.env)).any (·.1) || (backToKw pos (keywordEach kws X.env)).any (·.1.isNone)) = false := by rfl) :
    PD X (.Call (.Name x p) [] kws pos) (tCallKD sp ix ta') := fun pn xe H0 M0 W at_ => by
  refine ⟨fun pins s σ H Q I ⟨τ, M, G, g0, sl, mu, h, k⟩ => ?_⟩
  refine wpAny_Call_Name_kw (ld_glob I hg hm ?_ hdb)
  refine PySem.W.callWith_KW0 (h₀ := X.base) I.ok.mod.kin hk hall (thn ((ha pn xe H0 M0 W at_).run pos pins s σ H (fun zs H1 => zs.length = kws.length ∧ spOf X.K sp (permL ix zs) H1 Q (WE (liftW X.K H0 M0 W) σ)) I ?_) fun ws s1 ⟨zs, H1, I1, r, hzl, q⟩ => ⟨I1.kIn, ?_⟩) hpl
  · exact ⟨τ, M, _, g0, sl, mu, h, fun vs H1 ds M1 g1 mu1 r1 h2 h1 => ⟨by rw [r1.length, h2], sp_of_call (X := X) g0 sl k g1 mu1 (r1.perm ix) h1⟩⟩
  · rw [hks]
    have hx := passAt at_.tk σ
    refine wpAny_call (codeAny_mono (F.run X.A X.stack s1 H1 ⟨[], ks.zip ws⟩ (permL ix ws) (permL ix zs) Q (WE (liftW X.K H0 M0 W) σ) hr hgd I1.env0 (BindsTo.of_eq (hb ws (by rw [← r.length, hzl, hl]))) (vals_perm r ix) q) fun r s' hq => ?_)
    cases r with
    | error e => exact hx pins H1 s1 e s' I1 hq
    | ok fl =>
      cases fl with
      | ret u => exact I1.after hq
      | next => exact False.elim hq
      | brk => exact False.elim hq
      | cont => exact False.elim hq
end

/-! ### dict displays -/
section
variable {X : Cx} {e : Expr} {te : TED} {pos p : Pos}
theorem good_newT {H : Hp} {M : MH} {p : Addr} {o : HO} (hp : H p = none) : Good H M (upd H p o) M := good_new hp
theorem pd_dict0 : PD X (.Dict [] [] pos) (tCD (.dct [])) := fun pn xe H0 M0 W at_ =>
  imE pe_dnewK fun σ H Q ⟨τ, M, F, g0, sl, mu, h, k⟩ p hp => k _ _ _ M (good_new hp) (mut_new mu hp) (.dct (mut_none mu hp) upd_same .nil) h
abbrev TPD := WD → EnvD → MH → (List (Key × D) → MH → Prop) → Prop
def tNilP : TPD := fun _ _ M Q => Q [] M
def tConsP (k : Key) (t : TED) (tr : TPD) : TPD := fun W τ M Q => t W τ M fun d M1 => tr W τ M1 fun ps M2 => Q ((k, d) :: ps) M2
/-- the pairs of a display: keys are constants -/
def PDP (X : Cx) (pos : Pos) (keys : List (Option Expr)) (values : List Expr) (t : TPD) : Prop := ∀ pn xe H0 M0 W, At X pn xe H0 M0 W → ∃ trs, PPs (X.tr pn xe) pos keys values trs ∧
  ∀ σ H Q, (∃ τ M F, Good H0 M0 H M ∧ Slots X.K H M σ τ ∧ Mut X.K H M ∧ t W τ M F ∧ ∀ ps H' ds M', Good H M H' M' → Mut X.K H' M' → RepK X.K H' M' ps ds → ds.length = keys.length → F ds M' → Q (ps.map fun kv => (kV kv.1, kv.2)) H') → tPairs trs σ H Q
theorem pdps_nil : PDP X pos [] [] tNilP := fun pn xe H0 M0 W at_ => ⟨[], pps_nil, fun σ H Q ⟨τ, M, F, g0, sl, mu, h, k⟩ => k [] H [] M .refl mu .nil rfl h⟩
theorem pdps_cons {k : Key} {ke : Expr} {ks : List (Option Expr)} {es : List Expr} {tr : TPD} (hk : ∀ pn xe, PE (X.tr pn xe) ke (tC (kV k))) (he : PD X e te) (hr : PDP X pos ks es tr) : PDP X pos (some ke :: ks) (e :: es) (tConsP k te tr) := fun pn xe H0 M0 W at_ => by
  obtain ⟨trs, h1, h2⟩ := hr pn xe H0 M0 W at_
  refine ⟨_, pps_cons (hk pn xe) (he pn xe H0 M0 W at_) h1, fun σ H Q ⟨τ, M, F, g0, sl, mu, h, k⟩ => ?_⟩
  refine upE_fin g0 sl mu h fun x H1 d M1 g1 mu1 r1 q1 => h2 σ H1 _ ⟨τ, M1, _, g0.trans g1, sl.good g1, mu1, q1, fun ps H2 ds M2 g2 mu2 r2 l2 q2 => ?_⟩
  exact k ((_, x) :: ps) H2 ((_, d) :: ds) M2 (g1.trans g2) mu2 (.cons (r1.good g2) r2) (by simp [l2]) q2
def putKD (kvs : List (Key × D)) (k : Key) (d : D) : List (Key × D) :=
  if (kvs.any fun kv => decide (kv.1 = k)) = true then kvs.map (fun kv => if kv.1 = k then (kv.1, d) else kv) else kvs ++ [(k, d)]
def mergeKD (kvs more : List (Key × D)) : List (Key × D) := more.foldl (fun acc kv => putKD acc kv.1 kv.2) kvs
theorem RepK.length {K : PySem.W.Frag} {H : Hp} {M : MH} : ∀ {vs : List (Key × V)} {ds : List (Key × D)}, RepK K H M vs ds → vs.length = ds.length
  | _, _, .nil => rfl
  | _, _, .cons _ t => by simp [RepK.length t]
theorem repK_any {K : PySem.W.Frag} {H : Hp} {M : MH} {k : Key} : ∀ {vs : List (Key × V)} {ds : List (Key × D)}, RepK K H M vs ds → (vs.any fun kv => decide (kv.1 = k)) = (ds.any fun kv => decide (kv.1 = k))
  | _, _, .nil => rfl
  | _, _, .cons r t => by rw [List.any_cons, List.any_cons, repK_any t]
theorem repK_app {K : PySem.W.Frag} {H : Hp} {M : MH} {es : List (Key × V)} {fs : List (Key × D)} (q : RepK K H M es fs) : ∀ {vs : List (Key × V)} {ds : List (Key × D)}, RepK K H M vs ds → RepK K H M (vs ++ es) (ds ++ fs)
  | _, _, .nil => q
  | _, _, .cons r t => .cons r (repK_app q t)
theorem repK_map {K : PySem.W.Frag} {H : Hp} {M : MH} {k : Key} {v : V} {d : D} (r : Rep K H M v d) : ∀ {vs : List (Key × V)} {ds : List (Key × D)}, RepK K H M vs ds → RepK K H M (vs.map (fun kv => if kv.1 = k then (kv.1, v) else kv)) (ds.map (fun kv => if kv.1 = k then (kv.1, d) else kv))
  | _, _, .nil => .nil
  | _, _, .cons (k := k') r' t => by
    rw [List.map_cons, List.map_cons]
    dsimp only
    split
    · exact .cons r (repK_map r t)
    · exact .cons r' (repK_map r t)
theorem repK_put {K : PySem.W.Frag} {H : Hp} {M : MH} {k : Key} {v : V} {d : D} (r : Rep K H M v d) {vs : List (Key × V)} {ds : List (Key × D)} (q : RepK K H M vs ds) : RepK K H M (putK vs k v) (putKD ds k d) := by
  unfold putK putKD
  rw [repK_any q]
  split
  · exact repK_map r q
  · exact repK_app (.cons r .nil) q
theorem repK_merge {K : PySem.W.Frag} {H : Hp} {M : MH} : ∀ {more : List (Key × V)} {md : List (Key × D)}, RepK K H M more md → ∀ {vs : List (Key × V)} {ds : List (Key × D)}, RepK K H M vs ds → RepK K H M (mergeK vs more) (mergeKD ds md)
  | _, _, .nil, _, _, q => q
  | _, _, .cons r t, vs, ds, q => by
    show RepK K H M (mergeK (putK vs _ _) _) (mergeKD (putKD ds _ _) _)
    exact repK_merge t (repK_put r q)
def tDictD (t : TPD) : TED := fun W τ M Q => ∀ p, M p = none → t W τ (mput M p (.dct [])) fun ds M1 => M1 p = some (.dct []) ∧ Q (.dct (mergeKD [] ds)) (mdel M1 p)
theorem pd_dict {keys : List (Option Expr)} {values : List Expr} {t : TPD} (h : PDP X pos keys values t) (hall : keys.all (·.isSome) = true := by rfl) (hl : keys.length = values.length := by rfl) (h0 : keys ≠ [] := by simp) (h15 : keys.length ≤ 15 := by decide) : PD X (.Dict keys values pos) (tDictD t) := fun pn xe H0 M0 W at_ => by
  obtain ⟨trs, h1, h2⟩ := h pn xe H0 M0 W at_
  refine imE (pe_disp h1 hall hl h0 h15) fun σ H Q ⟨τ, M, F, g0, sl, mu, hh, k⟩ p hp => h2 σ _ _ ?_
  refine ⟨τ, mput M p (.dct []), _, g0.trans (good_put hp), sl.good (good_put hp), mut_put mu hp (.dct .nil), hh p (mut_none mu hp), fun ps H2 ds M2 g2 mu2 r2 l2 ⟨q1, q2⟩ => ?_⟩
  obtain ⟨ho, e, rm⟩ := mu2 _ _ q1
  cases rm with
  | dct rk =>
    cases rk
    refine ⟨e, ps, rfl, by rw [r2.length, l2]; exact h15, ?_⟩
    have gw : Good H2 M2 (upd H2 p (.dK (mergeK [] ps))) (mdel M2 p) := fun a u he hm => by
      have n : a ≠ p := fun z => by rw [z, q1] at hm; cases hm
      exact ⟨by rw [upd_ne n]; exact he, by rw [mdel_ne n]; exact hm⟩
    have mw : Mut X.K (upd H2 p (.dK (mergeK [] ps))) (mdel M2 p) := fun a mo ea => by
      by_cases n : a = p
      · subst n; rw [mdel_same] at ea; cases ea
      · rw [mdel_ne n] at ea
        obtain ⟨ho, e1, r⟩ := mu2 a mo ea
        exact ⟨ho, by rw [upd_ne n]; exact e1, r.good gw⟩
    exact k _ _ _ _ (((good_put hp).trans g2).trans gw) mw (.dct mdel_same upd_same (repK_merge (r2.good gw) .nil)) q2

/-! ### comprehensions: targets of names alone; given to a name -/
def gTupT (n : Nat) (t : TGsD) : TGD := fun d τ M N => match d with | .tup xs => xs.length = n ∧ t xs τ M N | _ => False
theorem tgt_tupT {K : PySem.W.Frag} {vs : List Nat} {gs : TGs} {gds : TGsD} {n : Nat} (h1 : TgtsOk K gs gds vs) : TgtOk K (gTup K n gs) (gTupT n gds) vs := tgt_tup h1
theorem lc_sim {X : Cx} {iter : Expr} {pn : List (Addr × Obj)} {xe : Value → Shared → Prop} {H0 : Hp} {M0 : MH} {W : WD} {own : List (Str × Nat)} {ti : TAD} {g : TG} {gd : TGD} {tt : TTD} {te : TED} (hgd : TgtOk X.K g gd (own.map (·.2)))
    {σ : L2.St} {H : Hp} {Q : VK} (h : upE X.K H0 M0 W (tLcD ti gd tt te (own.map (·.2))) σ H Q) : tLc (upI X.K H0 M0 W ti) g (upT X.K H0 M0 noW tt) (upE X.K H0 M0 noW te) (own.map (·.2)) σ H Q := by
  obtain ⟨τ, M, F, g0, sl, mu, h, k⟩ := h
  exact ⟨τ, M, _, g0, sl, mu, h, fun J H1 xs M1 g1 mu1 it q => by
    intro p hp
    obtain ⟨Iv, i0, step, done⟩ := q p (mut_none mu1 hp)
    refine ⟨fun i m H2 => m = xs.length - i ∧ i ≤ xs.length ∧ ∃ M2, Good H1 M1 H2 M2 ∧ Mut X.K H2 M2 ∧ Iv i M2, ⟨_, rfl, Nat.zero_le _, mput M1 p (.lst []), good_put hp, mut_put mu1 hp (.lst .nil), i0⟩, ?_⟩
    rintro i m H2 ⟨rfl, hi, M2, g2, mu2, iv⟩
    obtain ⟨go, stop⟩ := it H2 M2 g2 mu2
    by_cases hlt : i < xs.length
    · obtain ⟨go1, yl⟩ := go i xs[i] (by simp [hlt])
      refine .inr ⟨go1, fun H4 => ∃ M4, Good H1 M1 H4 M4 ∧ Mut X.K H4 M4 ∧ Iv (i + 1) M4, fun H' w => ⟨xs.length - (i + 1), by omega, rfl, hlt, w⟩, fun x H3 y => ?_⟩
      obtain ⟨g3, mu3, rx⟩ := yl x H3 y
      have gg := g1.trans (g2.trans g3)
      refine hgd _ _ _ _ H3 M2 _ _ rx (slots_wipe (sl.good gg) _) (step i xs[i] M2 (by simp [hlt]) iv) fun σ4 τ4 sl4 w4 n => ⟨w4.trans (wipe_sub fun _ h => h), τ4, M2, _, g0.trans gg, sl4, mu3, n, fun b H5 M5 g5 mu5 nb => ?_⟩
      cases b with
      | false =>
        rw [if_neg Bool.false_ne_true]
        exact ⟨M5, (g2.trans g3).trans g5, mu5, nb.2 rfl⟩
      | true =>
        rw [if_pos rfl]
        refine ⟨τ4, M5, _, (g0.trans gg).trans g5, sl4.good g5, mu5, nb.1 rfl, fun v H6 d M6 g6 mu6 r6 n6 => ?_⟩
        split at n6
        · rename_i acc ea
          obtain ⟨ho, e, rm⟩ := mu6 _ _ ea
          cases rm with
          | lst rs => exact ⟨_, e, by rw [rs.length, sizeLine_eq]; exact n6.1, mput M6 p (.lst (acc ++ [d])), (((g2.trans g3).trans g5).trans g6).trans (good_write ea), mut_write mu6 ea (.lst (rs.append (.cons r6 .nil))), n6.2⟩
        · exact n6.elim
    · have e : i = xs.length := by omega
      subst e
      have dn := done M2 iv
      split at dn
      · rename_i acc ea
        obtain ⟨ho, e, rm⟩ := mu2 _ _ ea
        cases rm with
        | lst rs => exact .inl ⟨stop, k _ H2 _ _ ((g1.trans g2).trans good_del) (mut_del mu2) (.lst (.inl ⟨mdel_same, .inl e⟩) (rs.good good_del)) dn⟩
      · exact dn.elim⟩
theorem pds_setLc {i : Nat} {y : Str} {py spos : Pos} {elt tg iter : Expr} {ifs : List Expr} {scope : Scope} {own : List (Str × Nat)} {ti : TAD} {g : TG} {gd : TGD} {tt : TTD} {te : TED} (hN : X.N.Nodup) (hy : X.N[i]? = some y) (hyl : X.env.scope.names.lookup y = some .local) (hc : X.calm = true)
    (hsw : swapsWith (.ListComp elt [⟨tg, iter, ifs, 0⟩] scope pos) (some (.Name y py)) spos.line X.env = pure true) (hi : PDI X tg iter ti) (ok : BlkOk X.N X.env.scope scope own)
    (hg : ∀ (s : Shared) (H : Hp) (C : Addr) (cl : List (Str × Addr)) (fp : List Addr), PG (X.blk s H scope (compEnvC scope cl C X.env) fp) tg g) (hgd : TgtOk X.K g gd (own.map (·.2)))
    (ht : ∀ (s : Shared) (H : Hp) (C : Addr) (cl : List (Str × Addr)) (fp : List Addr), PDTs (X.blk s H scope (compEnvC scope cl C X.env) fp) ifs tt)
    (he : ∀ (s : Shared) (H : Hp) (C : Addr) (cl : List (Str × Addr)) (fp : List Addr), PD (X.blk s H scope (compEnvC scope cl C X.env) fp) elt te) (hs : ∀ x, foldedSetIterable iter X.env x = pure x := by intro _; rfl) :
    PDS X (.Assign [.Name y py] (.ListComp elt [⟨tg, iter, ifs, 0⟩] scope pos) spos) (tSetD i (tLcD ti gd tt te (own.map (·.2)))) := fun pn xe H0 M0 W at_ =>
  imS (ps_setLc (X := X.tr pn xe) (te := upE X.K H0 M0 noW te) (tt := upT X.K H0 M0 noW tt) (i := i) hc hN hy hyl hsw (hi pn xe H0 M0 W at_) ok hg (fun s H C cl fp => ht s H C cl fp H0 M0) (fun s H C cl fp => he s H C cl fp [] _ H0 M0 noW at_no) hs) fun D σ H ⟨τ, M, F, g0, sl, mu, h, k1, k2, k3, k4⟩ =>
    lc_sim (X := X) (iter := iter) (pn := pn) (xe := xe) hgd (upE_fin g0 sl mu h fun v H1 d M1 g1 mu1 r1 q => k1 _ H1 ⟨setN τ i (some d), M1, g1, by rw [setN_eq]; exact (sl.good g1).set r1, mu1, q⟩)
end
end Z

set_option Elab.async false
set_option linter.all false
set_option maxRecDepth 100000
set_option maxHeartbeats 4000000
namespace Z
open PySem L2

/-! ### one step of a reading -/
section
variable {W : WD} {τ : EnvD} {M M1 : MH} {Q : QD} {QT : Bool → MH → Prop} {QA : List D → MH → Prop} {N : EnvD → MH → Prop} {F : EndsD} {t u : TSD} {c c' : TTD} {te ta tb : TED} {tr : TAD} {i j : Int} {n : Nat} {d e : D} {b : Bool}
theorem w_seq (h : t W { F with nx := fun τ' M' => u W F τ' M' } τ M) : tSeqD t u W F τ M := h
theorem w_next (h : F.nx τ M) : tNextD W F τ M := h
theorem w_drop (h : te W τ M fun _ M1 => F.nx τ M1) : tDropD te W F τ M := h
theorem w_ret (h : te W τ M F.rt) : tRetD te W F τ M := h
theorem w_retN (h : F.rt .non M) : tRetN W F τ M := h
theorem w_if (h : c W τ M fun b M1 => (b = true → t W F τ M1) ∧ (b = false → u W F τ M1)) : tIfD c t u W F τ M := h
theorem w_set (h : te W τ M fun d M1 => F.nx (setN τ n (some d)) M1) : tSetD n te W F τ M := h
theorem w_cont (h : F.ct τ M) : tContD W F τ M := h
theorem w_brk (h : F.bk τ M) : tBrkD W F τ M := h
theorem w_var (h : getN τ n = some d) (q : Q d M) : tVarD n W τ M Q := by unfold tVarD; rw [h]; exact q
theorem w_c (q : Q d M) : tCD d W τ M Q := q
theorem w_op {r : R2D} (h : ta W τ M fun x M1 => tb W τ M1 fun y M2 => r x y M2 Q) : tOpD r ta tb W τ M Q := h
theorem w_un {r : D → MH → QD → Prop} (h : ta W τ M fun x M1 => r x M1 Q) : tUnD r ta W τ M Q := h
theorem w_nil (h : QA [] M) : tNilD W τ M QA := h
theorem w_cons (h : ta W τ M fun x M1 => tr W τ M1 fun xs M2 => QA (x :: xs) M2) : tConsD ta tr W τ M QA := h
theorem w_cb {r : RCD} (h : tr W τ M fun ds M1 => r ds M1 Q) : tCBD r tr W τ M Q := h
theorem w_tup (h : tr W τ M fun ds M1 => decide (ds.length ≤ 16777216) = true ∧ Q (.tup ds) M1) : tTupD tr W τ M Q := h
theorem w_lst (h : tr W τ M fun ds M1 => decide (ds.length ≤ 16777216) = true ∧ Q (.lst ds) M1) : tLstD tr W τ M Q := h
theorem w_lstM (h : tr W τ M fun ds M1 => decide (ds.length ≤ 16777216) = true ∧ ∀ p, M1 p = none → Q (.ref p) (mput M1 p (.lst ds))) : tLstM tr W τ M Q := h
theorem w_small {ds : List D} {P : Prop} (h1 : ds.length ≤ 16777216) (h : P) : decide (ds.length ≤ 16777216) = true ∧ P := ⟨decide_eq_true h1, h⟩
theorem w_testB (h : te W τ M fun d M1 => match d with | .bl b => QT b M1 | _ => False) : tTestB te W τ M QT := h
theorem w_andD (h : c W τ M fun b M1 => (b = true → c' W τ M1 QT) ∧ (b = false → QT false M1)) : tAndD c c' W τ M QT := h
theorem w_orD (h : c W τ M fun b M1 => (b = true → QT true M1) ∧ (b = false → c' W τ M1 QT)) : tOrD c c' W τ M QT := h
theorem w_notD (h : c W τ M fun b M1 => QT (!b) M1) : tNotD c W τ M QT := h
theorem w_andE (h : ta W τ M fun d M1 => match d with | .bl b => (b = true → tb W τ M1 Q) ∧ (b = false → Q (.bl false) M1) | _ => False) : tAndE ta tb W τ M Q := h
theorem w_orE (h : ta W τ M fun d M1 => match d with | .bl b => (b = true → Q (.bl true) M1) ∧ (b = false → tb W τ M1 Q) | _ => False) : tOrE ta tb W τ M Q := h
theorem w_notE (h : ta W τ M fun d M1 => match d with | .bl b => Q (.bl (!b)) M1 | _ => False) : tNotE ta W τ M Q := h
theorem w_ifE (h : c W τ M fun b M1 => (b = true → ta W τ M1 Q) ∧ (b = false → tb W τ M1 Q)) : tIfE c ta tb W τ M Q := h
theorem w_tru (h : te W τ M fun d M1 => match truthD d M1 with | some b => QT b M1 | none => False) : tTruD te W τ M QT := h
theorem w_truth (h1 : truthD d M = some b) (h : QT b M) : (match (generalizing := false) truthD d M with | some b => QT b M | none => False) := by rw [h1]; exact h
theorem w_call {sp : SpD} (h : tr W τ M fun ds M1 => sp ds M1 Q (fun C fs M' => W C fs τ M')) : tCallD sp tr W τ M Q := h
theorem w_callK {sp : SpD} {ix : List Nat} (h : tr W τ M fun ds M1 => sp (permL ix ds) M1 Q (fun C fs M' => W C fs τ M')) : tCallKD sp ix tr W τ M Q := h
theorem w_rdI {g : Int → Int → Int} (h : Q (.int (g i j)) M) : rdI g (.int i) (.int j) M Q := h
theorem w_rdIC {C : Int → Int → Prop} {g : Int → Int → Int} (hc : C i j) (h : Q (.int (g i j)) M) : rdIC C g (.int i) (.int j) M Q := ⟨hc, h⟩
theorem w_rdB {g : Int → Int → Bool} (h : Q (.bl (g i j)) M) : rdB g (.int i) (.int j) M Q := h
theorem w_rdAdd (h : Q (.int (i + j)) M) : rdAdd (.int i) (.int j) M Q := h
theorem w_rdMul (hc : MulOk i j) (h : Q (.int (i * j)) M) : rdMul (.int i) (.int j) M Q := ⟨hc, h⟩
theorem w_neg (h : Q (.int (-i)) M) : rdNeg (.int i) M Q := h
theorem w_isN (h : te W τ M fun d M1 => Q (.bl (isNonD d)) M1) : tIsND te W τ M Q := h
theorem w_notN (h : te W τ M fun d M1 => Q (.bl (!isNonD d)) M1) : tNotND te W τ M Q := h
theorem w_eq (h1 : eqD d e = some b) (h : Q (.bl b) M) : rdEq d e M Q := by unfold rdEq; rw [h1]; exact h
theorem w_ne (h1 : eqD d e = some b) (h : Q (.bl (!b)) M) : rdNe d e M Q := by unfold rdNe; rw [h1]; exact h
theorem w_ixR {a : Addr} {xs : List D} {x : D} (h1 : M a = some (.lst xs)) (h2 : atI xs i = some x) (h : Q x M) : rdIx (.ref a) (.int i) M Q := by unfold rdIx; simp only [h1, h2]; exact h
theorem w_ixL {xs : List D} {x : D} (h2 : atI xs i = some x) (h : Q x M) : rdIx (.lst xs) (.int i) M Q := by unfold rdIx; simp only [h2]; exact h
theorem w_ixT {xs : List D} {x : D} (h2 : atI xs i = some x) (h : Q x M) : rdIx (.tup xs) (.int i) M Q := by unfold rdIx; simp only [h2]; exact h
theorem w_lenL {xs : List D} (h : Q (.int xs.length) M) : rdLen [.lst xs] M Q := h
theorem w_lenT {xs : List D} (h : Q (.int xs.length) M) : rdLen [.tup xs] M Q := h
theorem w_abs (h : Q (.int (if i < 0 then -i else i)) M) : rdAbs [.int i] M Q := h
theorem w_int (h : Q (.int i) M) : rdInt [.int i] M Q := h
theorem w_intB (h : Q (.int (if b then 1 else 0)) M) : rdInt [.bl b] M Q := h
theorem w_gcd (h : Q (.int ((Nat.gcd i.natAbs j.natAbs : Nat) : Int)) M) : rdGcd [.int i, .int j] M Q := h
theorem w_asg {g : TGD} (h : te W τ M fun d M1 => g d τ M1 F.nx) : tAsgD te g W F τ M := h
theorem w_gname (h : N (setN τ n (some d)) M) : gNameD n d τ M N := h
theorem w_gtup {m : Nat} {g : TGsD} {xs : List D} (h1 : seqD d = some xs) (h2 : xs.length = m) (h : g xs τ M N) : gTupD m g d τ M N := by unfold gTupD; rw [h1]; exact ⟨h2, h⟩
theorem w_gtupT {m : Nat} {g : TGsD} {xs : List D} (h2 : xs.length = m) (h : g xs τ M N) : gTupT m g (.tup xs) τ M N := ⟨h2, h⟩
theorem w_gnil (h : N τ M) : gNilD [] τ M N := h
theorem w_gcons {g : TGD} {gs : TGsD} {ds : List D} (h : g d τ M fun τ' M' => gs ds τ' M' N) : gConsD g gs (d :: ds) τ M N := h
theorem w_setIx {to ti : TED} (h : te W τ M fun d M1 => to W τ M1 fun o M2 => ti W τ M2 fun i M3 => match o, i with
  | .ref a, .int k => (match M3 a with | some (.lst xs) => (match ixN xs.length k with | some j => F.nx τ (mput M3 a (.lst (xs.set j d))) | none => False) | _ => False)
  | _, _ => False) : tSetIx te to ti W F τ M := h
theorem w_setIx2 {a : Addr} {xs : List D} {m : Nat} (h1 : M a = some (.lst xs)) (h2 : ixN xs.length i = some m) (h : N τ (mput M a (.lst (xs.set m d)))) : (match (generalizing := false) M a with | some (.lst xs) => (match ixN xs.length i with | some j => N τ (mput M a (.lst (xs.set j d))) | none => False) | _ => False) := by
  simp only [h1, h2]; exact h
theorem w_is {f : D → Option Bool} (h : te W τ M fun d M1 => match f d with | some b => Q (.bl b) M1 | none => False) : tIs f te W τ M Q := h
theorem w_opt {α : Type} {o : Option α} {x : α} {P : α → Prop} (h1 : o = some x) (h : P x) : (match (generalizing := false) o with | some b => P b | none => False) := by rw [h1]; exact h
theorem w_tupOf (h : te W τ M fun d M1 => match seqD d with | some xs => Q (.tup xs) M1 | none => False) : tTupOf te W τ M Q := h
theorem w_par {m k : Nat} (h : tr W τ M fun ds M1 => match ds with | [d, e] => F.nx (setN (setN τ m (some d)) k (some e)) M1 | _ => False) : tParD m k tr W F τ M := h
theorem w_repr (h0 : te W τ M fun d M1 => match toPy d with | some p => okRepr p ∧ Q (.str p.shown) M1 | none => False) : tReprD te W τ M Q := h0
theorem w_sl {tl th : WD → EnvD → MH → (Option Int → MH → Prop) → Prop} (h : te W τ M fun d M1 => tl W τ M1 fun l M2 => th W τ M2 fun u M3 => match d with | .lst xs => Q (.lst (cutD xs l u)) M3 | _ => False) : tSlD te tl th W τ M Q := h
theorem w_part {QO : Option Int → MH → Prop} (h : te W τ M fun d M1 => match d with | .int i => QO (some i) M1 | _ => False) : tPartD te W τ M QO := h
theorem w_noPart {QO : Option Int → MH → Prop} (h : QO none M) : tNoPartD W τ M QO := h
theorem w_dec {p : Prop} [Decidable p] {A B : Prop} (h1 : p → A) (h2 : ¬ p → B) : (decide p = true → A) ∧ (decide p = false → B) := ⟨fun h => h1 (of_decide_eq_true h), fun h => h2 (of_decide_eq_false h)⟩
theorem w_ndec {p : Prop} [Decidable p] {A B : Prop} (h1 : ¬ p → A) (h2 : p → B) : ((!decide p) = true → A) ∧ ((!decide p) = false → B) :=
  ⟨fun h => h1 (by simpa using h), fun h => h2 (by simpa using h)⟩
theorem w_true {A B : Prop} (h : A) : (true = true → A) ∧ (true = false → B) := ⟨fun _ => h, fun h => nomatch h⟩
theorem w_false {A B : Prop} (h : B) : (false = true → A) ∧ (false = false → B) := ⟨fun h => (nomatch h), fun _ => h⟩
theorem w_bool {b : Bool} {A B : Prop} (h1 : b = true → A) (h2 : b = false → B) : (b = true → A) ∧ (b = false → B) := ⟨h1, h2⟩
theorem w_seqI (h : te W τ M fun d M1 => match seqD d with | some xs => QA xs M1 | none => False) : iSeqD te W τ M QA := h
theorem w_rng1 (h : -4611686018427387904 ≤ i ∧ i < 4611686018427387904) (q : QA (upFrom 0 i.toNat) M) : (match ([D.int i] : List D) with
  | [.int n] => (-4611686018427387904 ≤ n ∧ n < 4611686018427387904) ∧ QA (upFrom 0 n.toNat) M
  | [.int a, .int b] => ((-4611686018427387904 ≤ a ∧ a < 4611686018427387904) ∧ -4611686018427387904 ≤ b ∧ b < 4611686018427387904) ∧ QA (upFrom a (b - a).toNat) M
  | _ => False) := ⟨h, q⟩
end
section
variable {W : WD} {τ : EnvD} {M M1 : MH} {Q : QD} {te : TED} {tr : TPD} {QP : List (Key × D) → MH → Prop}
theorem w_nilP (h : QP [] M) : tNilP W τ M QP := h
theorem w_consP {k : Key} (h : te W τ M fun d M1 => tr W τ M1 fun ps M2 => QP ((k, d) :: ps) M2) : tConsP k te tr W τ M QP := h
theorem w_dict (h : ∀ p, M p = none → tr W τ (mput M p (.dct [])) fun ds M1 => M1 p = some (.dct []) ∧ Q (.dct (mergeKD [] ds)) (mdel M1 p)) : tDictD tr W τ M Q := h
theorem w_dictE {p : Addr} {ds : List (Key × D)} (hp : M p = none) (h : Q (.dct (mergeKD [] ds)) M) : mput M p (.dct []) p = some (.dct []) ∧ Q (.dct (mergeKD [] ds)) (mdel (mput M p (.dct [])) p) := ⟨mput_same, by rw [mdel_mput hp]; exact h⟩
theorem w_rng {ta : TAD} {QA : List D → MH → Prop} (h : ta W τ M fun ds M1 => match ds with
  | [.int n] => (-4611686018427387904 ≤ n ∧ n < 4611686018427387904) ∧ QA (upFrom 0 n.toNat) M1
  | [.int a, .int b] => ((-4611686018427387904 ≤ a ∧ a < 4611686018427387904) ∧ -4611686018427387904 ≤ b ∧ b < 4611686018427387904) ∧ QA (upFrom a (b - a).toNat) M1
  | _ => False) : iRngD ta W τ M QA := h
theorem w_for {ti : TAD} {g : TGD} {body : TSD} {F : EndsD} (h : ti W τ M fun xs M1 => ∃ Iv : Nat → EnvD → MH → Prop, Iv 0 τ M1 ∧ (∀ i x τ' M', xs[i]? = some x → Iv i τ' M' → g x τ' M' fun τ2 M2 => body W { F with nx := Iv (i + 1), ct := Iv (i + 1), bk := F.nx } τ2 M2) ∧ (∀ τ' M', Iv xs.length τ' M' → F.nx τ' M')) : tForD ti g body W F τ M := h
theorem w_lc {ti : TAD} {gd : TGD} {tt : TTD} {vs : List Nat} (h : ti W τ M fun xs M1 => tLcD (fun _ _ _ R => R xs M1) gd tt te vs W τ M1 Q) : tLcD ti gd tt te vs W τ M Q := h
end
theorem upFrom_len {lo : Int} {n : Nat} : (upFrom lo n).length = n := by simp [upFrom]
theorem upFrom_mem {lo : Int} {n : Nat} {d : D} (h : d ∈ upFrom lo n) : ∃ i : Nat, i < n ∧ d = .int (lo + i) := by
  obtain ⟨i, hi⟩ := List.getElem?_of_mem h
  exact ⟨i, upFrom_get hi⟩
/-- what is known of 0, 1, .. in lists -/
local macro_rules | `(tactic| walk_at "z at") => `(tactic| first | rfl | (simp only [atI, ixN, List.length_cons, List.length_nil, List.length_map]; rfl) | assumption)
local macro_rules | `(tactic| walk_at "z1") => `(tactic| first
  | with_reducible refine w_seq ?_ | with_reducible refine w_set ?_ | with_reducible refine w_ret ?_ | with_reducible refine w_if ?_ | with_reducible refine w_asg ?_ | with_reducible refine w_next ?_ | with_reducible refine w_setIx ?_ | with_reducible refine w_par ?_
  | ((with_reducible refine' w_var ?h ?_); (case h => exact rfl))
  | with_reducible refine w_c ?_ | with_reducible refine w_op ?_ | with_reducible refine w_un ?_ | with_reducible refine w_cons ?_ | with_reducible refine w_nil ?_ | with_reducible refine w_cb ?_
  | with_reducible refine w_call ?_ | with_reducible refine w_callK ?_ | with_reducible refine w_testB ?_ | with_reducible refine w_tru ?_ | with_reducible refine w_andD ?_ | with_reducible refine w_orD ?_ | with_reducible refine w_notD ?_
  | with_reducible refine w_andE ?_ | with_reducible refine w_orE ?_ | with_reducible refine w_notE ?_ | with_reducible refine w_ifE ?_ | with_reducible refine w_is ?_ | with_reducible refine w_isN ?_ | with_reducible refine w_notN ?_ | with_reducible refine w_tupOf ?_
  | with_reducible refine w_tup ?_ | with_reducible refine w_lst ?_ | with_reducible refine w_lstM ?_ | with_reducible refine w_sl ?_ | with_reducible refine w_part ?_ | with_reducible refine w_noPart ?_ | with_reducible refine w_repr ?_ | with_reducible refine w_seqI ?_
  | with_reducible refine w_rdI ?_ | with_reducible refine w_rdB ?_ | with_reducible refine w_rdAdd ?_ | with_reducible refine w_neg ?_ | with_reducible refine w_lenL ?_ | with_reducible refine w_lenT ?_ | with_reducible refine w_abs ?_ | with_reducible refine w_int ?_ | with_reducible refine w_intB ?_ | with_reducible refine w_gcd ?_
  | with_reducible refine w_gname ?_ | with_reducible refine w_gnil ?_ | with_reducible refine w_gcons ?_
  | with_reducible refine w_true ?_ | with_reducible refine w_false ?_
  | dsimp only [truthD, seqD, isNonD, permL, List.filterMap] | with_reducible refine w_drop ?_ | with_reducible refine w_retN ?_ | with_reducible refine w_nilP ?_ | with_reducible refine w_consP ?_ | with_reducible refine w_rng ?_ | with_reducible refine w_cont ?_ | with_reducible refine w_brk ?_)
local macro_rules | `(tactic| walk_at "z") => `(tactic| repeat walk_at "z1")
end Z

set_option Elab.async false
set_option linter.all false
set_option maxRecDepth 100000
set_option maxHeartbeats 4000000
namespace Z
local macro_rules | `(tactic| walk_at "z at") => `(tactic| first | rfl | (simp only [atI, ixN, List.length_cons, List.length_nil, List.length_map]; rfl) | assumption)
local macro_rules | `(tactic| walk_at "z1") => `(tactic| first
  | with_reducible refine w_seq ?_ | with_reducible refine w_set ?_ | with_reducible refine w_ret ?_ | with_reducible refine w_if ?_ | with_reducible refine w_asg ?_ | with_reducible refine w_next ?_ | with_reducible refine w_setIx ?_ | with_reducible refine w_par ?_
  | ((with_reducible refine' w_var ?h ?_); (case h => exact rfl))
  | with_reducible refine w_c ?_ | with_reducible refine w_op ?_ | with_reducible refine w_un ?_ | with_reducible refine w_cons ?_ | with_reducible refine w_nil ?_ | with_reducible refine w_cb ?_
  | with_reducible refine w_call ?_ | with_reducible refine w_callK ?_ | with_reducible refine w_testB ?_ | with_reducible refine w_tru ?_ | with_reducible refine w_andD ?_ | with_reducible refine w_orD ?_ | with_reducible refine w_notD ?_
  | with_reducible refine w_andE ?_ | with_reducible refine w_orE ?_ | with_reducible refine w_notE ?_ | with_reducible refine w_ifE ?_ | with_reducible refine w_is ?_ | with_reducible refine w_isN ?_ | with_reducible refine w_notN ?_ | with_reducible refine w_tupOf ?_
  | with_reducible refine w_tup ?_ | with_reducible refine w_lst ?_ | with_reducible refine w_lstM ?_ | with_reducible refine w_sl ?_ | with_reducible refine w_part ?_ | with_reducible refine w_noPart ?_ | with_reducible refine w_repr ?_ | with_reducible refine w_seqI ?_
  | with_reducible refine w_rdI ?_ | with_reducible refine w_rdB ?_ | with_reducible refine w_rdAdd ?_ | with_reducible refine w_neg ?_ | with_reducible refine w_lenL ?_ | with_reducible refine w_lenT ?_ | with_reducible refine w_abs ?_ | with_reducible refine w_int ?_ | with_reducible refine w_intB ?_ | with_reducible refine w_gcd ?_
  | with_reducible refine w_gname ?_ | with_reducible refine w_gnil ?_ | with_reducible refine w_gcons ?_
  | with_reducible refine w_true ?_ | with_reducible refine w_false ?_
  | dsimp only [truthD, seqD, isNonD, permL, List.filterMap] | with_reducible refine w_drop ?_ | with_reducible refine w_retN ?_ | with_reducible refine w_nilP ?_ | with_reducible refine w_consP ?_ | with_reducible refine w_rng ?_ | with_reducible refine w_cont ?_ | with_reducible refine w_brk ?_)
local macro_rules | `(tactic| walk_at "z") => `(tactic| repeat walk_at "z1")
open PySem L2

/-! ### how a law draws: the cells, how many were begun, what is left of a great one -/
def nutL (cells : List Int) (turn left : Int) : List D := [.lst (cells.map D.int), .int turn, .int left]
def NutAt (M : MH) (a : Addr) (t : Int) : Prop := ∃ cells turn left, M a = some (.lst (nutL cells turn left)) ∧ 0 ≤ turn ∧ turn ≤ t ∧ 0 ≤ left ∧ cells.length ≤ 63
def Upd1 (M : MH) (a : Addr) (M' : MH) : Prop := ∀ b, b ≠ a → M' b = M b
theorem Upd1.refl {M : MH} {a : Addr} : Upd1 M a M := fun _ _ => rfl
theorem Upd1.trans {M M1 M2 : MH} {a : Addr} (h : Upd1 M a M1) (g : Upd1 M1 a M2) : Upd1 M a M2 := fun b n => (g b n).trans (h b n)
theorem Upd1.put {M : MH} {a : Addr} {o : MO} : Upd1 M a (mput M a o) := fun b n => mput_ne n
theorem NutAt.mono {M : MH} {a : Addr} {t t' : Int} (h : NutAt M a t) (l : t ≤ t') : NutAt M a t' := let ⟨c, u, f, e, h1, h2, h3⟩ := h; ⟨c, u, f, e, h1, by omega, h3⟩
/-- a def that draws c times at most -/
def spDraw (c : Int) (pre : List D → Prop) (post : List D → D → Prop) : SpD := fun ds M F _ => ∃ a t rest, ds = .ref a :: rest ∧ pre rest ∧ NutAt M a t ∧ t + c ≤ 8000000 ∧
  ∀ d M', NutAt M' a (t + c) → Upd1 M a M' → post rest d → F d M'
theorem draw_do {c : Int} {pre : List D → Prop} {post : List D → D → Prop} {a : Addr} {t : Int} {rest : List D} {M : MH} {F : QD} {E : ED} (hN : NutAt M a t) (ht : t + c ≤ 8000000) (hp : pre rest)
    (k : ∀ d M', NutAt M' a (t + c) → Upd1 M a M' → post rest d → F d M') : spDraw c pre post (.ref a :: rest) M F E := ⟨a, t, rest, rfl, hp, hN, ht, k⟩
def spSieve : SpD := spDraw 1 (fun r => ∃ m : Int, r = [.int m] ∧ 0 < m ∧ m.natAbs.log2 < 9000) (fun r d => ∃ m n : Int, r = [.int m] ∧ d = .int n ∧ 0 ≤ n ∧ n < m)
def spPick : SpD := spDraw 1 (fun r => ∃ xs : List D, r = [.lst xs] ∧ 0 < xs.length ∧ xs.length ≤ 1000) (fun r d => ∃ xs : List D, r = [.lst xs] ∧ d ∈ xs)
theorem sieve_do {m : Int} {a : Addr} {t : Int} {M : MH} {F : QD} {E : ED} (hN : NutAt M a t) (ht : t + 1 ≤ 8000000) (h0 : 0 < m) (hl : m.natAbs.log2 < 9000)
    (k : ∀ n M', 0 ≤ n → n < m → NutAt M' a (t + 1) → Upd1 M a M' → F (.int n) M') : spSieve [.ref a, .int m] M F E :=
  draw_do hN ht ⟨m, rfl, h0, hl⟩ fun d M' n' u' ⟨m', n, e, ed, h1, h2⟩ => by cases e; subst ed; exact k n M' h1 h2 n' u'
theorem pick_do {xs : List D} {a : Addr} {t : Int} {M : MH} {F : QD} {E : ED} (hN : NutAt M a t) (ht : t + 1 ≤ 8000000) (h0 : 0 < xs.length) (hl : xs.length ≤ 1000)
    (k : ∀ d M', d ∈ xs → NutAt M' a (t + 1) → Upd1 M a M' → F d M') : spPick [.ref a, .lst xs] M F E :=
  draw_do hN ht ⟨xs, rfl, h0, hl⟩ fun d M' n' u' ⟨xs', e, hd⟩ => by cases e; exact k d M' hd n' u'
def tSieveC (c1 c2 m1 c3 m2 m3 dv : Int) : TSD :=
  (tSeqD (tSetD 5 (tOpD (rdIC (fun _ j => 0 < j) fun i j => i % j) (tCBD rdInt (tConsD (tOpD (rdIC CPow fun i j => i ^ j.toNat) (tOpD rdAdd (tOpD rdAdd (tOpD (rdIC (fun _ j => 0 < j) fun i j => i % j) (tCBD rdInt (tConsD (tVarD 4) tNilD)) (tCD (.int m1))) (tOpD rdMul (tCD (.int c3)) (tVarD 3))) (tCD (.int c2))) (tCD (.int 5))) tNilD)) (tCD (.int m2))))
  (tSeqD (tSetD 5 (tOpD (rdIC (fun _ j => 0 < j) fun i j => i % j) (tCBD rdInt (tConsD (tOpD (rdIC CPow fun i j => i ^ j.toNat) (tOpD rdAdd (tOpD rdAdd (tOpD rdMul (tVarD 5) (tOpD rdAdd (tOpD rdMul (tCD (.int 2)) (tVarD 3)) (tCD (.int c2)))) (tOpD rdMul (tOpD rdMul (tCD (.int c1)) (tVarD 3)) (tVarD 3))) (tCD (.int c3))) (tCD (.int 3))) tNilD)) (tCD (.int m3))))
  (tRetD (tOpD (rdIC (fun _ j => 0 < j) fun i j => i % j) (tCBD rdInt (tConsD (tOpD (rdIC DivOk fun i j => i.fdiv j) (tVarD 5) (tCD (.int dv))) tNilD)) (tVarD 1)))))
def tSieveB (c1 c2 m1 c3 m2 m3 dv : Int) : TSD :=
  (tSeqD (tIfD (tAndD (tTestB (tOpD (rdB fun i j => decide (i < j)) (tVarD 3) (tCBD rdLen (tConsD (tOpD rdIx (tVarD 0) (tCD (.int 0))) tNilD)))) (tTestB (tOpD (rdB fun i j => decide (j ≤ i)) (tCBD rdAbs (tConsD (tVarD 4) tNilD)) (tOpD (rdIC CPow fun i j => i ^ j.toNat) (tCD (.int 10)) (tCD (.int 18))))))
    (tSeqD (tSetD 2 (tOpD rdAdd (tOpD rdMul (tCD (.int 2)) (tOpD (rdI fun i j => i - j) (tCBD rdAbs (tConsD (tCBD rdInt (tConsD (tVarD 4) tNilD)) tNilD)) (tOpD (rdIC CPow fun i j => i ^ j.toNat) (tCD (.int 10)) (tCD (.int 18))))) (tCBD rdInt (tConsD (tOpD (rdB fun i j => decide (i < j)) (tVarD 4) (tCD (.int 0))) tNilD))))
  (tSeqD (tSetIx (tOpD (rdIC DivOk fun i j => i.fdiv j) (tVarD 2) (tVarD 1)) (tVarD 0) (tCD (.int 2)))
  (tRetD (tOpD (rdIC (fun _ j => 0 < j) fun i j => i % j) (tCBD rdInt (tConsD (tVarD 2) tNilD)) (tVarD 1)))))
    tNextD)
  (tSieveC c1 c2 m1 c3 m2 m3 dv))
def tSieve (c1 c2 m1 c3 m2 m3 dv : Int) : TSD := (tSeqD (tIfD (tTestB (tOpD (rdB fun i j => decide (j < i)) (tOpD rdIx (tVarD 0) (tCD (.int 2))) (tCD (.int 0))))
    (tSeqD (tSetD 2 (tCBD rdInt (tConsD (tOpD rdIx (tVarD 0) (tCD (.int 2))) tNilD)))
  (tSeqD (tSetIx (tOpD (rdIC DivOk fun i j => i.fdiv j) (tVarD 2) (tVarD 1)) (tVarD 0) (tCD (.int 2)))
  (tRetD (tOpD (rdIC (fun _ j => 0 < j) fun i j => i % j) (tCBD rdInt (tConsD (tVarD 2) tNilD)) (tVarD 1)))))
    tNextD)
  (tSeqD (tSetD 3 (tOpD rdIx (tVarD 0) (tCD (.int 1))))
  (tSeqD (tSetIx (tOpD rdAdd (tVarD 3) (tCD (.int 1))) (tVarD 0) (tCD (.int 1)))
  (tSeqD (tSetD 4 (tOpD rdAdd (tOpD rdMul (tCD (.int c1)) (tVarD 3)) (tCD (.int c2))))
  (tSeqD (tIfD (tTestB (tOpD rdNe (tOpD rdIx (tVarD 0) (tCD (.int 0))) (tLstD tNilD)))
    (tSetD 4 (tOpD rdIx (tOpD rdIx (tVarD 0) (tCD (.int 0))) (tOpD (rdIC (fun _ j => 0 < j) fun i j => i % j) (tCBD rdInt (tConsD (tVarD 3) tNilD)) (tCBD rdLen (tConsD (tOpD rdIx (tVarD 0) (tCD (.int 0))) tNilD)))))
    tNextD)
  (tSieveB c1 c2 m1 c3 m2 m3 dv))))))
/-- the numbers that mix are of a size that the model takes -/
def mixOk (c1 c2 m1 c3 m2 m3 : Int) : Bool := decide (0 ≤ c1 ∧ c1 ≤ 130000 ∧ 0 ≤ c2 ∧ c2 ≤ 100000 ∧ 0 < m1 ∧ m1 ≤ 2147483647 ∧ 0 ≤ c3 ∧ c3 ≤ 130000 ∧ 0 < m2 ∧ m2 ≤ 2147483647 ∧ 0 < m3 ∧ m3 ≤ 2147483647)
theorem mul_bd {a b x y : Int} (h0 : 0 ≤ a) (h1 : a ≤ x) (h2 : 0 ≤ b) (h3 : b ≤ y) : 0 ≤ a * b ∧ a * b ≤ x * y :=
  ⟨Int.mul_nonneg h0 h2, Int.mul_le_mul h1 h3 h2 (by omega)⟩
theorem toPys_ints : ∀ cs : List Int, toPys (cs.map D.int) = some (cs.map PyData.int)
  | [] => rfl
  | c :: cs => by simp only [List.map_cons, toPys, toPy, toPys_ints cs]
theorem canLay_ints : ∀ cs : List Int, PyData.canLayAll0 (cs.map PyData.int) = true
  | [] => rfl
  | c :: cs => by simp only [List.map_cons, PyData.canLayAll0, PyData.canLay0, canLay_ints cs, Bool.and_true]
theorem depth_ints : ∀ cs : List Int, PyData.depthAll (cs.map PyData.int) = 0
  | [] => rfl
  | c :: cs => by simp only [List.map_cons, PyData.depthAll, PyData.depth, depth_ints cs, Nat.max_self]
theorem eq_ints_nil (cells : List Int) : eqD (.lst (cells.map D.int)) (.lst []) = some cells.isEmpty := by
  have s1 : SeqAt.shaped (.list (cells.map PyData.int)) = true := by
    unfold SeqAt.shaped
    simp only [PyData.canLay0, canLay_ints, PyData.depth, depth_ints]
    rfl
  have s2 : SeqAt.shaped (.list []) = true := by decide
  unfold eqD
  simp only [toPy, toPys_ints, toPys, Option.map, s1, s2, Bool.and_self, if_true]
  cases cells <;> simp [PyData.eqv, PyData.eqvAll]
theorem sieveC {c1 c2 m1 c3 m2 m3 dv : Int} (hdv : 0 < dv ∧ dv ≤ 1000) (ok : mixOk c1 c2 m1 c3 m2 m3 = true) {W : WD} {a : Addr} {m turn cell : Int} {M : MH} {F : QD} {R : EnvD → MH → Prop} (hm : 0 < m) (h0 : 0 ≤ turn) (ht : turn ≤ 8000000)
    (k' : ∀ x : Int, F (.int (x % m)) M) :
    tSieveC c1 c2 m1 c3 m2 m3 dv W { nx := R, rt := F } [some (.ref a), some (.int m), none, some (.int turn), some (.int cell), none] M := by
  obtain ⟨o1, o2, o3, o4, o5, o6, o7, o8, o9, o10, o11, o12⟩ := of_decide_eq_true ok
  have b0 := Int.emod_nonneg cell (show m1 ≠ 0 by omega)
  have b1 := Int.emod_lt_of_pos cell o5
  have q1 := mul_bd o7 o8 h0 ht
  have q2 := mul_bd o1 o2 h0 ht
  have q3 := mul_bd q2.1 q2.2 h0 ht
  unfold tSieveC
  walk_at "z"
  refine w_rdIC o5 ?_
  walk_at "z"
  refine w_rdMul (mulOk_l ⟨by omega, by omega⟩) ?_
  walk_at "z"
  refine w_rdIC (by show CPow _ 5; unfold CPow; omega) ?_
  walk_at "z"
  refine w_rdIC o9 ?_
  generalize hx : (cell % m1 + c3 * turn + c2) ^ Int.toNat 5 = x
  have b2 := Int.emod_nonneg x (show m2 ≠ 0 by omega)
  have b3 := Int.emod_lt_of_pos x o9
  generalize x % m2 = y at b2 b3
  have q4 := mul_bd (x := 2147483647) (y := 16200000) b2 (by omega) (show 0 ≤ 2 * turn + c2 by omega) (by omega)
  walk_at "z"
  refine w_rdMul (mulOk_l ⟨by omega, by omega⟩) ?_
  walk_at "z"
  refine w_rdMul (mulOk_l ⟨by omega, by omega⟩) ?_
  walk_at "z"
  refine w_rdMul (mulOk_l ⟨by omega, by omega⟩) ?_
  walk_at "z"
  refine w_rdMul (mulOk_l ⟨by omega, by omega⟩) ?_
  walk_at "z"
  refine w_rdIC (by show CPow _ 3; unfold CPow; omega) ?_
  walk_at "z"
  refine w_rdIC o11 ?_
  walk_at "z"
  refine w_rdIC ⟨by omega, Nat.lt_of_le_of_lt (Nat.log2_le_self _) (by omega)⟩ ?_
  walk_at "z"
  refine w_rdIC hm ?_
  exact k' _
theorem sieveB {c1 c2 m1 c3 m2 m3 dv : Int} (hdv : 0 < dv ∧ dv ≤ 1000) (ok : mixOk c1 c2 m1 c3 m2 m3 = true) {W : WD} {a : Addr} {m turn left cell : Int} {cells : List Int} {M : MH} {F : QD} {R : EnvD → MH → Prop} (hm : 0 < m) (hlog : m.natAbs.log2 < 9000) (h0 : 0 ≤ turn) (ht : turn ≤ 8000000) (hl : 0 ≤ left)
    (k' : ∀ x left' : Int, 0 ≤ left' → F (.int (x % m)) (mput M a (.lst (nutL cells (turn + 1) left')))) :
    tSieveB c1 c2 m1 c3 m2 m3 dv W { nx := R, rt := F } [some (.ref a), some (.int m), none, some (.int turn), some (.int cell), none] (mput M a (.lst (nutL cells (turn + 1) left))) := by
  have mdv : ∀ x, DivOk x m := fun x => ⟨by omega, hlog⟩
  have fd : ∀ x : Int, 0 ≤ x → 0 ≤ x.fdiv m := fun x hx => by rw [Int.fdiv_eq_ediv_of_nonneg _ (by omega)]; exact Int.ediv_nonneg hx (by omega)
  have e : (mput M a (.lst (nutL cells (turn + 1) left))) a = some (.lst (nutL cells (turn + 1) left)) := mput_same
  have p18 : (10 : Int) ^ (18 : Int).toNat = 1000000000000000000 := by decide
  unfold tSieveB
  walk_at "z"
  refine w_ixR e rfl ?_
  walk_at "z"
  refine w_dec (fun c => ?_) (fun c => ?_)
  · walk_at "z"
    refine w_rdIC (by show CPow 10 18; unfold CPow; omega) ?_
    walk_at "z"
    rw [p18]
    refine w_dec (fun c2 => ?_) (fun c2 => ?_)
    · walk_at "z"
      refine w_rdIC (by show CPow 10 18; unfold CPow; omega) ?_
      walk_at "z"
      rw [p18]
      refine w_rdMul (mulOk_l ⟨by omega, by omega⟩) ?_
      walk_at "z"
      refine w_rdIC (mdv _) ?_
      walk_at "z"
      refine w_setIx2 e rfl ?_
      walk_at "z"
      refine w_rdIC hm ?_
      show F _ (mput (mput M a _) a (.lst (nutL cells (turn + 1) _)))
      rw [mput_mput]
      refine k' _ _ (fd _ ?_)
      split <;> omega
    · walk_at "z"
      exact sieveC hdv ok hm h0 ht fun x => k' x left hl
  · walk_at "z"
    exact sieveC hdv ok hm h0 ht fun x => k' x left hl
theorem wp_sieve {c1 c2 m1 c3 m2 m3 dv : Int} (hdv : 0 < dv ∧ dv ≤ 1000) {N : List Str} (hN6 : N.length = 6) (ok : mixOk c1 c2 m1 c3 m2 m3 = true) (W : WD) (ds : List D) (M : MH) (F : QD) (E : ED) (h : spSieve ds M F E) :
    tSieve c1 c2 m1 c3 m2 m3 dv W { nx := fun _ M => F .non M, rt := F } (startD N ds) M := by
  obtain ⟨a, t, rest, rfl, ⟨m, rfl, hm, hlog⟩, ⟨cells, turn, left, e, h0, ht, hl, hc⟩, htt, k⟩ := h
  have ok' := of_decide_eq_true ok
  obtain ⟨o1, o2, o3, o4, o5, o6, o7, o8, o9, o10, o11, o12⟩ := ok'
  have mdv : ∀ x, DivOk x m := fun x => ⟨by omega, hlog⟩
  have k' : ∀ x turn' left' : Int, turn ≤ turn' → turn' ≤ turn + 1 → 0 ≤ left' → F (.int (x % m)) (mput M a (.lst (nutL cells turn' left'))) := fun x turn' left' b1 b2 b3 =>
    k _ _ ⟨cells, turn', left', mput_same, by omega, by omega, b3, hc⟩ .put ⟨m, _, rfl, rfl, Int.emod_nonneg _ (by omega), Int.emod_lt_of_pos _ hm⟩
  have fd : ∀ x : Int, 0 ≤ x → 0 ≤ x.fdiv m := fun x hx => by rw [Int.fdiv_eq_ediv_of_nonneg _ (by omega)]; exact Int.ediv_nonneg hx (by omega)
  have e2 : (mput M a (.lst (nutL cells (turn + 1) left))) a = some (.lst (nutL cells (turn + 1) left)) := mput_same
  rw [show startD N [.ref a, .int m] = [some (.ref a), some (.int m), none, none, none, none] by unfold startD; rw [hN6]; rfl]
  unfold tSieve
  walk_at "z"
  refine w_ixR e rfl ?_
  walk_at "z"
  refine w_dec (fun c => ?_) (fun c => ?_)
  · walk_at "z"
    refine w_ixR e rfl ?_
    walk_at "z"
    refine w_rdIC (mdv _) ?_
    walk_at "z"
    refine w_setIx2 e rfl ?_
    walk_at "z"
    refine w_rdIC hm ?_
    exact k' left turn (left.fdiv m) (Int.le_refl _) (by omega) (fd _ (by omega))
  · walk_at "z"
    refine w_ixR e rfl ?_
    walk_at "z"
    refine w_setIx2 e rfl ?_
    walk_at "z"
    refine w_rdMul (mulOk_l ⟨by omega, by omega⟩) ?_
    walk_at "z"
    refine w_ixR e2 rfl ?_
    walk_at "z"
    refine w_small (Nat.zero_le _) ?_
    walk_at "z"
    refine w_ne (eq_ints_nil _) ?_
    refine w_bool (fun c2 => ?_) (fun c2 => ?_)
    · have hne : 0 < cells.length := by cases cells with | nil => simp at c2 | cons _ _ => simp
      walk_at "z"
      refine w_ixR e2 rfl ?_
      walk_at "z"
      refine w_ixR e2 rfl ?_
      walk_at "z"
      have hpos : (0 : Int) < ((cells.map D.int).length : Int) := by rw [List.length_map]; omega
      refine w_rdIC hpos ?_
      have h1 := Int.emod_nonneg turn (show ((cells.map D.int).length : Int) ≠ 0 by omega)
      have h2 := Int.emod_lt_of_pos turn hpos
      obtain ⟨j, hj⟩ : ∃ j : Nat, turn % ((cells.map D.int).length : Int) = (j : Int) := ⟨_, (Int.toNat_of_nonneg h1).symm⟩
      have hj' : j < cells.length := by rw [List.length_map] at hj h2; omega
      rw [hj]
      refine w_ixL (x := .int cells[j]) (atI_nat (by simp [hj'])) ?_
      exact sieveB hdv ok hm hlog h0 (by omega) hl fun x left' hl' => k' x (turn + 1) left' (by omega) (Int.le_refl _) hl'
    · walk_at "z"
      exact sieveB hdv ok hm hlog h0 (by omega) hl fun x left' hl' => k' x (turn + 1) left' (by omega) (Int.le_refl _) hl'
end Z

set_option Elab.async false
set_option linter.all false
set_option maxRecDepth 100000
set_option maxHeartbeats 4000000
namespace Z
local macro_rules | `(tactic| walk_at "z at") => `(tactic| first | rfl | (simp only [atI, ixN, List.length_cons, List.length_nil, List.length_map]; rfl) | assumption)
local macro_rules | `(tactic| walk_at "z1") => `(tactic| first
  | with_reducible refine w_seq ?_ | with_reducible refine w_set ?_ | with_reducible refine w_ret ?_ | with_reducible refine w_if ?_ | with_reducible refine w_asg ?_ | with_reducible refine w_next ?_ | with_reducible refine w_setIx ?_ | with_reducible refine w_par ?_
  | ((with_reducible refine' w_var ?h ?_); (case h => exact rfl))
  | with_reducible refine w_c ?_ | with_reducible refine w_op ?_ | with_reducible refine w_un ?_ | with_reducible refine w_cons ?_ | with_reducible refine w_nil ?_ | with_reducible refine w_cb ?_
  | with_reducible refine w_call ?_ | with_reducible refine w_callK ?_ | with_reducible refine w_testB ?_ | with_reducible refine w_tru ?_ | with_reducible refine w_andD ?_ | with_reducible refine w_orD ?_ | with_reducible refine w_notD ?_
  | with_reducible refine w_andE ?_ | with_reducible refine w_orE ?_ | with_reducible refine w_notE ?_ | with_reducible refine w_ifE ?_ | with_reducible refine w_is ?_ | with_reducible refine w_isN ?_ | with_reducible refine w_notN ?_ | with_reducible refine w_tupOf ?_
  | with_reducible refine w_tup ?_ | with_reducible refine w_lst ?_ | with_reducible refine w_lstM ?_ | with_reducible refine w_sl ?_ | with_reducible refine w_part ?_ | with_reducible refine w_noPart ?_ | with_reducible refine w_repr ?_ | with_reducible refine w_seqI ?_
  | with_reducible refine w_rdI ?_ | with_reducible refine w_rdB ?_ | with_reducible refine w_rdAdd ?_ | with_reducible refine w_neg ?_ | with_reducible refine w_lenL ?_ | with_reducible refine w_lenT ?_ | with_reducible refine w_abs ?_ | with_reducible refine w_int ?_ | with_reducible refine w_intB ?_ | with_reducible refine w_gcd ?_
  | with_reducible refine w_gname ?_ | with_reducible refine w_gnil ?_ | with_reducible refine w_gcons ?_
  | with_reducible refine w_true ?_ | with_reducible refine w_false ?_
  | dsimp only [truthD, seqD, isNonD, permL, List.filterMap] | with_reducible refine w_drop ?_ | with_reducible refine w_retN ?_ | with_reducible refine w_nilP ?_ | with_reducible refine w_consP ?_ | with_reducible refine w_rng ?_ | with_reducible refine w_cont ?_ | with_reducible refine w_brk ?_)
local macro_rules | `(tactic| walk_at "z") => `(tactic| repeat walk_at "z1")
open PySem L2

def tPick : TSD := (tRetD (tOpD rdIx (tVarD 1) (tCallD spSieve (tConsD (tVarD 0) (tConsD (tCBD rdLen (tConsD (tVarD 1) tNilD)) tNilD)))))
theorem log2_small {n : Nat} (h : n ≤ 1000000) : n.log2 < 9000 := by
  have : n.log2 ≤ n := Nat.log2_le_self n
  by_cases h0 : n = 0
  · subst h0; decide
  · have h2 : n.log2 < 20 := (Nat.log2_lt h0).mpr (Nat.lt_of_le_of_lt h (by decide))
    omega
theorem wp_pick {N : List Str} (hN2 : N.length = 2) (W : WD) (ds : List D) (M : MH) (F : QD) (E : ED) (h : spPick ds M F E) :
    tPick W { nx := fun _ M => F .non M, rt := F } (startD N ds) M := by
  obtain ⟨a, t, rest, rfl, ⟨xs, rfl, h0, hl⟩, hN, ht, k⟩ := h
  rw [show startD N [.ref a, .lst xs] = [some (.ref a), some (.lst xs)] by unfold startD; rw [hN2]; rfl]
  unfold tPick
  walk_at "z"
  refine sieve_do hN ht (by omega) (log2_small (by omega)) fun n M' n0 n1 N' U' => ?_
  obtain ⟨j, rfl⟩ : ∃ j : Nat, n = (j : Int) := ⟨_, (Int.toNat_of_nonneg n0).symm⟩
  have hj : j < xs.length := by omega
  refine w_ixL (x := xs[j]) (atI_nat (by simp [hj])) ?_
  exact k _ _ N' U' ⟨xs, rfl, List.getElem_mem hj⟩
/-- what draws, made of a script -/
def spGrit : SpD := fun ds M F _ => ∃ ns : List Int, ds = [.lst (ns.map D.int)] ∧ ns.length ≤ 63 ∧ ∀ p M', M p = none → NutAt M' p 0 → Upd1 M p M' → F (.ref p) M'
def tGrit (n : Int) : TSD := (tRetD (tLstM (tConsD (tLcD (iSeqD (tSlD (tVarD 0) tNoPartD (tPartD (tCD (.int n))))) (gNameD 1) tYesD (tCBD rdInt (tConsD (tVarD 1) tNilD)) [1]) (tConsD (tCD (.int 0)) (tConsD (tCD (.int 0)) tNilD)))))
theorem wp_grit {n : Int} {N : List Str} (hN2 : N.length = 2) (W : WD) (ds : List D) (M : MH) (F : QD) (E : ED) (h : spGrit ds M F E) :
    tGrit n W { nx := fun _ M => F .non M, rt := F } (startD N ds) M := by
  obtain ⟨ns, rfl, hl, k⟩ := h
  obtain ⟨cells, hc, hcl⟩ : ∃ cells : List Int, cutD (ns.map D.int) none (some n) = cells.map D.int ∧ cells.length ≤ 63 :=
    ⟨(ns.drop _).take _, by unfold cutD; rw [← List.map_drop, ← List.map_take], by rw [List.length_take, List.length_drop]; omega⟩
  rw [show startD N [.lst (ns.map D.int)] = [some (.lst (ns.map D.int)), none] by unfold startD; rw [hN2]; rfl]
  unfold tGrit
  walk_at "z"
  refine lc_pure (cells.map D.int) id (fun _ => true) (by rw [List.length_map]; omega) M ?_ ?_ ?_
  · intro x hx M2 R r
    obtain ⟨c, _, rfl⟩ := List.mem_map.mp hx
    walk_at "z"
    refine r _ (fun R2 h => h) fun _ R3 h => ?_
    walk_at "z"
    exact h
  · rw [List.map_id, List.filter_eq_self.mpr (fun _ _ => rfl)]
    walk_at "z"
    refine w_small (by show 3 ≤ 16777216; decide) fun p hp => ?_
    exact k p _ hp ⟨cells, 0, 0, mput_same, by omega, by omega, by omega, hcl⟩ .put
  · intro R r
    walk_at "z"
    rw [← hc] at r
    exact r
end Z

set_option Elab.async false
set_option linter.all false
set_option maxRecDepth 100000
set_option maxHeartbeats 4000000
namespace Z
local macro_rules | `(tactic| walk_at "z at") => `(tactic| first | rfl | (simp only [atI, ixN, List.length_cons, List.length_nil, List.length_map]; rfl) | assumption)
local macro_rules | `(tactic| walk_at "z1") => `(tactic| first
  | with_reducible refine w_seq ?_ | with_reducible refine w_set ?_ | with_reducible refine w_ret ?_ | with_reducible refine w_if ?_ | with_reducible refine w_asg ?_ | with_reducible refine w_next ?_ | with_reducible refine w_setIx ?_ | with_reducible refine w_par ?_
  | ((with_reducible refine' w_var ?h ?_); (case h => exact rfl))
  | with_reducible refine w_c ?_ | with_reducible refine w_op ?_ | with_reducible refine w_un ?_ | with_reducible refine w_cons ?_ | with_reducible refine w_nil ?_ | with_reducible refine w_cb ?_
  | with_reducible refine w_call ?_ | with_reducible refine w_callK ?_ | with_reducible refine w_testB ?_ | with_reducible refine w_tru ?_ | with_reducible refine w_andD ?_ | with_reducible refine w_orD ?_ | with_reducible refine w_notD ?_
  | with_reducible refine w_andE ?_ | with_reducible refine w_orE ?_ | with_reducible refine w_notE ?_ | with_reducible refine w_ifE ?_ | with_reducible refine w_is ?_ | with_reducible refine w_isN ?_ | with_reducible refine w_notN ?_ | with_reducible refine w_tupOf ?_
  | with_reducible refine w_tup ?_ | with_reducible refine w_lst ?_ | with_reducible refine w_lstM ?_ | with_reducible refine w_sl ?_ | with_reducible refine w_part ?_ | with_reducible refine w_noPart ?_ | with_reducible refine w_repr ?_ | with_reducible refine w_seqI ?_
  | with_reducible refine w_rdI ?_ | with_reducible refine w_rdB ?_ | with_reducible refine w_rdAdd ?_ | with_reducible refine w_neg ?_ | with_reducible refine w_lenL ?_ | with_reducible refine w_lenT ?_ | with_reducible refine w_abs ?_ | with_reducible refine w_int ?_ | with_reducible refine w_intB ?_ | with_reducible refine w_gcd ?_
  | with_reducible refine w_gname ?_ | with_reducible refine w_gnil ?_ | with_reducible refine w_gcons ?_
  | with_reducible refine w_true ?_ | with_reducible refine w_false ?_
  | dsimp only [truthD, seqD, isNonD, permL, List.filterMap] | with_reducible refine w_drop ?_ | with_reducible refine w_retN ?_ | with_reducible refine w_nilP ?_ | with_reducible refine w_consP ?_ | with_reducible refine w_rng ?_ | with_reducible refine w_cont ?_ | with_reducible refine w_brk ?_)
local macro_rules | `(tactic| walk_at "z") => `(tactic| repeat walk_at "z1")
open PySem L2

/-! ### data: no instances, no classes, no addresses, all the way in -/
mutual
def plainD : D → Bool
  | .non | .bl _ | .int _ | .str _ | .flt _ | .dct _ => true
  | .lst xs | .tup xs => plainDs xs
  | _ => false
def plainDs : List D → Bool
  | [] => true
  | x :: xs => plainD x && plainDs xs
end
theorem plainDs_iff : ∀ {xs : List D}, plainDs xs = true ↔ ∀ x ∈ xs, plainD x = true
  | [] => by simp [plainDs]
  | x :: xs => by simp [plainDs, plainDs_iff (xs := xs)]
theorem plain_at {xs : List D} {i : Int} {x : D} (h : plainDs xs = true) (e : atI xs i = some x) : plainD x = true := by
  unfold atI at e
  cases q : ixN xs.length i with
  | none => rw [q] at e; cases e
  | some j => rw [q] at e; exact plainDs_iff.mp h x (List.mem_of_getElem? e)
def isIntB : D → Bool | .int _ => true | _ => false
theorem tag_int {d : D} (h : plainD d = true) : isTag .int d = some (match d with | .int _ => true | .bl _ => true | _ => false) := by cases d <;> first | rfl | (simp [plainD] at h)
theorem tag_bool {d : D} (h : plainD d = true) : isTag .bool d = some (match d with | .bl _ => true | _ => false) := by cases d <;> first | rfl | (simp [plainD] at h)
theorem tag_str {d : D} (h : plainD d = true) : isTag .str d = some (match d with | .str _ => true | _ => false) := by cases d <;> first | rfl | (simp [plainD] at h)
theorem tag_lt {d : D} (h : plainD d = true) : isTag2 .list .tuple d = some (seqD d).isSome := by cases d <;> first | rfl | (simp [plainD] at h)
theorem seq_plain {d : D} {xs : List D} (h : plainD d = true) (e : seqD d = some xs) : plainDs xs = true := by
  cases d <;> simp [seqD] at e <;> subst e <;> simpa [plainD] using h
/-- a question about one value -/
def spF1 (g : D → Bool) : SpD := fun ds M F _ => ∃ d, ds = [d] ∧ plainD d = true ∧ F (.bl (g d)) M
theorem f1_do {g : D → Bool} {d : D} {M : MH} {F : QD} {E : ED} (h : plainD d = true) (k : F (.bl (g d)) M) : spF1 g [d] M F E := ⟨d, rfl, h, k⟩
/-- a list comprehension whose element draws -/
theorem lc_draw {ti : TAD} {te : TED} {v : Nat} {W : WD} {τ : EnvD} {M : MH} {Q : QD} (xs : List D) (M1 : MH) {a : Addr} {t c : Int} {P : D → Prop} (hN : NutAt M1 a t) (hc : 0 ≤ c) (hl : xs.length ≤ 16777216)
    (step : ∀ x ∈ xs, ∀ t' M2 (R : QD), NutAt M2 a t' → t ≤ t' → t' + c ≤ t + xs.length * c → (∀ d M3, NutAt M3 a (t' + c) → Upd1 M2 a M3 → P d → R d M3) → te noW (setN (wipeD τ [v]) v (some x)) M2 R)
    (hq : ∀ ds M3, NutAt M3 a (t + xs.length * c) → Upd1 M1 a M3 → ds.length = xs.length → (∀ d ∈ ds, P d) → Q (.lst ds) M3) (hi : ∀ R : List D → MH → Prop, R xs M1 → ti W τ M R) : tLcD ti (gNameD v) tYesD te [v] W τ M Q := by
  refine hi _ fun p hp => ⟨fun i M2 => ∃ acc, M2 p = some (.lst acc) ∧ NutAt M2 a (t + i * c) ∧ (∀ b, b ≠ a → b ≠ p → M2 b = M1 b) ∧ acc.length = i ∧ ∀ d ∈ acc, P d, ?_, ?_, ?_⟩
  · have n : a ≠ p := fun e => by obtain ⟨_, _, _, h, _⟩ := hN; rw [e, hp] at h; cases h
    refine ⟨[], mput_same, ?_, fun b _ h2 => mput_ne h2, rfl, fun d h => by cases h⟩
    obtain ⟨cs, u, f, h, r⟩ := hN
    exact ⟨cs, u, f, by rw [mput_ne n]; exact h, by simpa using r⟩
  · rintro i x M2 hx ⟨acc, h1, h2, h3, h4, h5⟩
    have n : a ≠ p := fun e => by obtain ⟨_, _, _, h, _⟩ := hN; rw [e, hp] at h; cases h
    have hi' : i < xs.length := (List.getElem?_eq_some_iff.mp hx).1
    have e1 : ((i : Int) + 1) * c ≤ xs.length * c := Int.mul_le_mul_of_nonneg_right (by omega) hc
    have e0 : 0 ≤ (i : Int) * c := Int.mul_nonneg (by omega) hc
    have e2 : ((i : Int) + 1) * c = i * c + c := by rw [Int.add_mul, Int.one_mul]
    refine w_gname ?_
    show (true = true → _) ∧ (true = false → _)
    refine w_true ?_
    refine step x (List.mem_of_getElem? hx) (t + i * c) M2 _ h2 (by omega) (by omega) fun d M3 n3 u3 pd => ?_
    rw [u3 p (Ne.symm n), h1]
    refine ⟨by omega, acc ++ [d], mput_same, ?_, fun b b1 b2 => by rw [mput_ne b2, u3 b b1]; exact h3 b b1 b2, by simp [h4], fun e he => ?_⟩
    · obtain ⟨cs, u, f, h, r1, r2, r3⟩ := n3
      refine ⟨cs, u, f, by rw [mput_ne n]; exact h, r1, ?_, r3⟩
      have e3 : ((i + 1 : Nat) : Int) * c = i * c + c := by rw [← e2]; rfl
      omega
    · rcases List.mem_append.mp he with he | he
      · exact h5 e he
      · rw [List.mem_singleton] at he; rw [he]; exact pd
  · rintro M2 ⟨acc, h1, h2, h3, h4, h5⟩
    have n : a ≠ p := fun e => by obtain ⟨_, _, _, h, _⟩ := hN; rw [e, hp] at h; cases h
    show match M2 p with | some (.lst acc) => _ | _ => False
    rw [h1]
    refine hq acc _ ?_ (fun b hb => ?_) h4 h5
    · obtain ⟨cs, u, f, h, r⟩ := h2
      exact ⟨cs, u, f, by rw [mdel_ne n]; exact h, r⟩
    · by_cases e : b = p
      · subst e; rw [mdel_same, hp]
      · rw [mdel_ne e]; exact h3 b hb e
end Z

set_option Elab.async false
set_option linter.all false
set_option maxRecDepth 100000
set_option maxHeartbeats 4000000
namespace Z
local macro_rules | `(tactic| walk_at "z at") => `(tactic| first | rfl | (simp only [atI, ixN, List.length_cons, List.length_nil, List.length_map]; rfl) | assumption)
local macro_rules | `(tactic| walk_at "z1") => `(tactic| first
  | with_reducible refine w_seq ?_ | with_reducible refine w_set ?_ | with_reducible refine w_ret ?_ | with_reducible refine w_if ?_ | with_reducible refine w_asg ?_ | with_reducible refine w_next ?_ | with_reducible refine w_setIx ?_ | with_reducible refine w_par ?_
  | ((with_reducible refine' w_var ?h ?_); (case h => exact rfl))
  | with_reducible refine w_c ?_ | with_reducible refine w_op ?_ | with_reducible refine w_un ?_ | with_reducible refine w_cons ?_ | with_reducible refine w_nil ?_ | with_reducible refine w_cb ?_
  | with_reducible refine w_call ?_ | with_reducible refine w_callK ?_ | with_reducible refine w_testB ?_ | with_reducible refine w_tru ?_ | with_reducible refine w_andD ?_ | with_reducible refine w_orD ?_ | with_reducible refine w_notD ?_
  | with_reducible refine w_andE ?_ | with_reducible refine w_orE ?_ | with_reducible refine w_notE ?_ | with_reducible refine w_ifE ?_ | with_reducible refine w_is ?_ | with_reducible refine w_isN ?_ | with_reducible refine w_notN ?_ | with_reducible refine w_tupOf ?_
  | with_reducible refine w_tup ?_ | with_reducible refine w_lst ?_ | with_reducible refine w_lstM ?_ | with_reducible refine w_sl ?_ | with_reducible refine w_part ?_ | with_reducible refine w_noPart ?_ | with_reducible refine w_repr ?_ | with_reducible refine w_seqI ?_
  | with_reducible refine w_rdI ?_ | with_reducible refine w_rdB ?_ | with_reducible refine w_rdAdd ?_ | with_reducible refine w_neg ?_ | with_reducible refine w_lenL ?_ | with_reducible refine w_lenT ?_ | with_reducible refine w_abs ?_ | with_reducible refine w_int ?_ | with_reducible refine w_intB ?_ | with_reducible refine w_gcd ?_
  | with_reducible refine w_gname ?_ | with_reducible refine w_gnil ?_ | with_reducible refine w_gcons ?_
  | with_reducible refine w_true ?_ | with_reducible refine w_false ?_
  | dsimp only [truthD, seqD, isNonD, permL, List.filterMap] | with_reducible refine w_drop ?_ | with_reducible refine w_retN ?_ | with_reducible refine w_nilP ?_ | with_reducible refine w_consP ?_ | with_reducible refine w_rng ?_ | with_reducible refine w_cont ?_ | with_reducible refine w_brk ?_)
local macro_rules | `(tactic| walk_at "z") => `(tactic| repeat walk_at "z1")
open PySem L2 PySem.Spec PyProof.Rows

/-! ### own exceptions: what the written part says of such a class -/
structure ExK (K : PySem.W.Frag) (C : Addr) : Prop where
  o : OexC K C
  ga : PySem.W.findIn K (.ref C) "__getattribute__" = some (some (.builtin "BaseException.__getattribute__"))
  gg : PySem.W.findIn K (.ref C) "__getattr__" = some none
  hd : PySem.W.hasDictIn K C = true
  ca : PySem.W.findIn K (.ref C) "__class__" = some (some (.builtin "object.__class__"))
  om : PySem.W.mroIn K C (.type "object") = some true
  ic : PySem.W.isClsIn K C = true
  sg : PySem.W.specialIn K (.builtin "object.__class__") "__get__" = some (some (.builtin "getset_descriptor.__get__"))
  tg : PySem.W.takesIn K (.builtin "object.__class__") = some true

/-! ### an exception that a clause has caught, and a name keeps: laid open in the heap -/
theorem exc_ext {P : Program} {w : World} {H : Hp} {h : Heap} {a C : Addr} {dx : Option Addr} {oe : Obj} {vs : Array Value} (e : h.get? a = some oe) (z : Zc (.ref C) dx oe) (hv : oe.data = .fields vs) : ObjOk P w H h a (.ext (ExcAt a C dx)) :=
  ⟨⟨oe, vs, e, z.1, z.2, hv⟩, ⟨oe, e⟩, fun _ _ ⟨o1, w1, q1, q2, q3, q4⟩ kk => ⟨o1, w1, kk _ q1, q2, q3, q4⟩⟩
theorem lay_exc {X : Cx} {pins : List (Addr × Obj)} {σ : L2.St} {H : Hp} {s : Shared} {a C : Addr} {dx : Option Addr} {oe : Obj} {vs : Array Value} (I : Inv X pins σ H s) (e : s.heap.get? a = some oe) (z : Zc (.ref C) dx oe) (hv : oe.data = .fields vs)
    (na : H a = none) (nL : a ≠ X.env.locals) (np : ∀ p ∈ X.pn ++ pins, p.1 ≠ a) (n0 : X.s_0.heap.get? a = none) : Inv X pins σ (upd H a (.ext (ExcAt a C dx))) s := by
  have un : ∀ {b : Addr} {u : HO}, H b = some u → b ≠ a := fun q w => by rw [w, na] at q; cases q
  have ub : ∀ {b : Addr} {ob : Obj}, X.s_0.heap.get? b = some ob → b ≠ a := fun q w => by rw [w, n0] at q; cases q
  refine { ok := I.ok, os := I.os, bare := I.bare, loc := I.loc, cell := I.cell, len := I.len, base := ?_, free := ?_, freeC := ?_, pin := ?_, hok := ?_ }
  · exact { keep := I.base.keep, slot := I.base.slot, there := I.base.there
            free := fun b ob q1 q2 q3 => (upd_ne (ub q1)).trans (I.base.free b ob q1 q2 q3)
            tups := fun b xs q => (upd_ne (un (I.base.tups b xs q))).trans (I.base.tups b xs q)
            frzs := fun b ob v q => (upd_ne (un (I.base.frzs b ob v q))).trans (I.base.frzs b ob v q)
            tbls := fun b ps q => let ⟨m, q'⟩ := I.base.tbls b ps q; ⟨m, (upd_ne (un q')).trans q'⟩ }
  · exact (upd_ne (Ne.symm nL)).trans I.free
  · intro x c q
    refine (upd_ne fun w => ?_).trans (I.freeC x c q)
    obtain ⟨v, hc⟩ := I.cell x c q
    obtain ⟨ob, q1, q2⟩ := hc
    rw [w, e] at q1
    cases q1
    rw [hv] at q2
    cases q2
  · intro p hp
    obtain ⟨q1, q2, q3⟩ := I.pin p hp
    exact ⟨q1, (upd_ne (np p hp)).trans q2, q3⟩
  · intro b ob q
    by_cases hb : b = a
    · subst hb
      rw [upd_same] at q
      cases q
      exact exc_ext e z hv
    · rw [upd_ne hb] at q
      exact (I.hok b ob q).stay (fun _ _ _ w => w) (fun c w => (upd_ne (un w)).trans w) fun c xs w => (upd_ne (un w)).trans w
end Z

set_option Elab.async false
set_option linter.all false
set_option maxRecDepth 100000
set_option maxHeartbeats 4000000
namespace Z
local macro_rules | `(tactic| walk_at "z at") => `(tactic| first | rfl | (simp only [atI, ixN, List.length_cons, List.length_nil, List.length_map]; rfl) | assumption)
local macro_rules | `(tactic| walk_at "z1") => `(tactic| first
  | with_reducible refine w_seq ?_ | with_reducible refine w_set ?_ | with_reducible refine w_ret ?_ | with_reducible refine w_if ?_ | with_reducible refine w_asg ?_ | with_reducible refine w_next ?_ | with_reducible refine w_setIx ?_ | with_reducible refine w_par ?_
  | ((with_reducible refine' w_var ?h ?_); (case h => exact rfl))
  | with_reducible refine w_c ?_ | with_reducible refine w_op ?_ | with_reducible refine w_un ?_ | with_reducible refine w_cons ?_ | with_reducible refine w_nil ?_ | with_reducible refine w_cb ?_
  | with_reducible refine w_call ?_ | with_reducible refine w_callK ?_ | with_reducible refine w_testB ?_ | with_reducible refine w_tru ?_ | with_reducible refine w_andD ?_ | with_reducible refine w_orD ?_ | with_reducible refine w_notD ?_
  | with_reducible refine w_andE ?_ | with_reducible refine w_orE ?_ | with_reducible refine w_notE ?_ | with_reducible refine w_ifE ?_ | with_reducible refine w_is ?_ | with_reducible refine w_isN ?_ | with_reducible refine w_notN ?_ | with_reducible refine w_tupOf ?_
  | with_reducible refine w_tup ?_ | with_reducible refine w_lst ?_ | with_reducible refine w_lstM ?_ | with_reducible refine w_sl ?_ | with_reducible refine w_part ?_ | with_reducible refine w_noPart ?_ | with_reducible refine w_repr ?_ | with_reducible refine w_seqI ?_
  | with_reducible refine w_rdI ?_ | with_reducible refine w_rdB ?_ | with_reducible refine w_rdAdd ?_ | with_reducible refine w_neg ?_ | with_reducible refine w_lenL ?_ | with_reducible refine w_lenT ?_ | with_reducible refine w_abs ?_ | with_reducible refine w_int ?_ | with_reducible refine w_intB ?_ | with_reducible refine w_gcd ?_
  | with_reducible refine w_gname ?_ | with_reducible refine w_gnil ?_ | with_reducible refine w_gcons ?_
  | with_reducible refine w_true ?_ | with_reducible refine w_false ?_
  | dsimp only [truthD, seqD, isNonD, permL, List.filterMap] | with_reducible refine w_drop ?_ | with_reducible refine w_retN ?_ | with_reducible refine w_nilP ?_ | with_reducible refine w_consP ?_ | with_reducible refine w_rng ?_ | with_reducible refine w_cont ?_ | with_reducible refine w_brk ?_)
local macro_rules | `(tactic| walk_at "z") => `(tactic| repeat walk_at "z1")
open PySem L2 PySem.Spec PyProof.Rows

/-- what a clause that keeps its exception wishes: slot i is its name's -/
def wKeep (K : PySem.W.Frag) (c : Value) (i : Nat) (ts : Addr → TS) (Wout : WX) (D : Ends) : WX := fun cls d σ H =>
  ∃ b, PySem.W.exmOne K cls c = some b ∧
    (b = true → ∀ a, H a = none → ∃ C, cls = .ref C ∧ ts a { nx := fun σ' H' => D.nx (σ'.set i none) (upd H' a (.ext (ExcAt a C d))), rt := fun _ _ => False } (σ.set i (some (.ref a))) H) ∧ (b = false → Wout cls d σ H)
section
variable {X : Cx} {x n : Str} {c : Value} {i : Nat} {body suite : List Stmt} {st0 : Stmt} {p1 p2 p3 : Pos} {tb : WX → TS} {ts : Addr → TS} {Wout : WX}
/-- what stands at a caught exception's address at the end of its suite -/
theorem keep_end {pins : List (Addr × Obj)} {σ σ6 : L2.St} {H6 : Hp} {s6 : Shared} {a C : Addr} {d : Option Addr} {oe : Obj} {vs : Array Value} {D : Ends} (ok : X.Ok) (hN : X.N.Nodup) (hi : X.N[i]? = some n) (hln : X.env.kindOf n = some .local) (z : Zc (.ref C) d oe) (hv : oe.data = .fields vs)
    (n0 : X.s_0.heap.get? a = none) (np : ∀ p ∈ X.pn ++ pins, p.1 ≠ a) (S : Inv (X.suite a ((a, oe) :: (X.pn ++ pins))) [] σ6 H6 s6) (q : D.nx (σ6.set i none) (upd H6 a (.ext (ExcAt a C d)))) {A : Around} {E : Value → Shared → Prop} :
    wpAny (model X.prog X.w) A (do bindName X.env n .none; unbindBehindTheSuite X.env n p3) (fun _ s7 => SP X pins D .next s7) E s6 := by
  have here := S.pin (a, oe) (by simp)
  exact gone_ok (lay_exc (S.unsuite ok) here.1 z hv here.2.1 here.2.2.1 np n0) hN hi hln fun s7 J7 => ⟨_, _, J7, q⟩
theorem ps_try_keep (hs : X.stack = X.env :: X.outer) (hf : X.env.frame = some X.env.locals) (hex : X.ex = []) (hN : X.N.Nodup) (hi : X.N[i]? = some n) (hln : X.env.kindOf n = some .local) (hc : Names X x c) (tk : Takes X Wout)
    (hb : ∀ (W : WX) (pn : List (Addr × Obj)) (xe : Value → Shared → Prop), Takes (X.tr pn xe) W → PassesOwn (model X.prog X.w) X.A X.env xe → PSs (X.tr pn xe) body (tb W))
    (hsu : ∀ (a : Addr) (oe : Obj) (pn : List (Addr × Obj)), PSs (X.suite a ((a, oe) :: pn)) (st0 :: suite) (ts a)) :
    PS X (.Try body [.ExceptHandler (some (.Name x p1)) (some n) (st0 :: suite) p3] [] [] p2) (fun D σ H => tb (wKeep X.K c i ts Wout D) D σ H) := by
  constructor
  intro pins s σ H D I h
  have ok := I.ok
  have stk : X.A.frames = some (X.env :: X.outer) := ok.frames.trans (congrArg some hs)
  refine wpAny_Try_except (wpAny_mono ((hb (wKeep X.K c i ts Wout D) (X.pn ++ pins) _ (fun u s' air => ?_) PassesOwn.looking).run [] s σ H D (I.toTry _) h) ?_ fun _ _ z => z)
  · revert air
    rintro ⟨a, B, sI, _, σ', H', cls, d, rfl, J', nb, up, sky, na, os, ag, b, hb1, hyes, hno⟩
    have J : Inv X pins σ' H' sI := J'.ofTry ok
    rw [show (X.tr (X.pn ++ pins) _).stack = X.env :: X.outer from hs] at sky
    refine (?_ : wpAny (model X.prog X.w) X.A (noteFrame (.ref a) X.env) _ _ _)
    refine Sky.land Zc.steady stk hf sky fun h3 fl3 up3 => ?_
    have up13 := up.trans up3
    have J3 : Inv X pins σ' H' { s' with heap := h3 } := J.landed nb fl3.1 up13 os ag
    obtain ⟨oe3, _, he3, hz3, hd3⟩ := fl3.there
    have nfr : a ∉ frs (X.env :: X.outer) := fun hm => by
      obtain ⟨_, _, e', hnf⟩ := fl3.2.2.1.mem hm
      cases he3.symm.trans e'
      exact hnf _ hd3
    have nL : a ≠ X.env.locals := fun z => nfr (List.mem_filterMap.mpr ⟨_, List.mem_cons_self, z ▸ hf⟩)
    have nF : a ∉ X.fs := fun hm => let ⟨e, m, q⟩ := List.mem_filterMap.mp hm; nfr (List.mem_filterMap.mpr ⟨e, List.mem_cons_of_mem _ m, q⟩)
    have nI : sI.heap.get? a = none := by
      cases q : sI.heap.get? a with
      | none => rfl
      | some ob =>
        have w := nb a ob q (by rw [show (X.tr (X.pn ++ pins) _).stack = X.env :: X.outer from hs]; exact nfr)
        rw [fl3.2.1] at w
        cases w
    have n0 : X.s_0.heap.get? a = none := by
      cases q : X.s_0.heap.get? a with
      | none => rfl
      | some ob =>
        obtain ⟨_, w⟩ := J.base.there a ob q (by rw [hex]; exact List.not_mem_nil)
        rw [nI] at w
        cases w
    have np : ∀ p ∈ X.pn ++ pins, p.1 ≠ a := fun p hp w => by
      have q := (J.pin p hp).1
      rw [w, nI] at q
      cases q
    have S3 := J3.suite he3 hd3 na nL nF
    refine wpAny_handleBy_cons (codeAny_handlers_test ?_) (fun q => nomatch q)
    have LM := PySem.W.exm_one (M := model X.prog X.w) J3.kIn (fun A Q E s k q => wpAny_typeOf_ref (k _ _ he3) (hz3.1.symm ▸ q)) hb1
    have test : ∀ {Q : Value → Shared → Prop} {E : Value → Shared → Prop}, Q c { s' with heap := h3 } → wpAny (model X.prog X.w) (X.A.mark (some (.ref a))) (eval (.Name x p1) X.env) Q E { s' with heap := h3 } := fun q =>
      let ⟨hg, hdb, w⟩ := hc
      w.elim (fun hm => ld_glob (X := X.suite a ((a, oe3) :: (X.pn ++ pins))) S3 hg hm q hdb) fun ⟨hm, hv, hnn⟩ => ld_blt (X := X.suite a ((a, oe3) :: (X.pn ++ pins))) S3 hg hm hv q hnn hdb
    refine test (LM.here ?_)
    cases b with
    | true =>
      obtain ⟨C, rfl, q⟩ := hyes rfl a na
      refine codeAny_handlers_suite_as (HandSPX.lands_againZ fl3 fun h4 fl4 up4 => ?_)
      obtain ⟨oe4, _, he4, hz4, hd4⟩ := fl4.there
      have S4 := (J.landed (s' := { s' with heap := h4 }) nb fl4.1 (up13.trans up4) os ag).suite he4 hd4 na nL nF
      refine store_ok (X := X.suite a ((a, oe4) :: (X.pn ++ pins))) (v := .ref a) S4 hN hi (.inl hln) rfl (fun s5 S5 => ?_) (.inr hln)
      refine wpAny_mono ((hsu a oe4 (X.pn ++ pins)).run [] s5 _ H' _ S5 q) (fun f s6 r => ?_) (fun _ _ z => z.elim)
      cases f with
      | next =>
        obtain ⟨σ6, H6, S6, q6⟩ := r
        exact keep_end (σ := σ6) ok hN hi hln hz4 hd4 n0 np S6 q6
      | brk => obtain ⟨_, _, _, w⟩ := r; exact w.elim
      | cont => obtain ⟨_, _, _, w⟩ := r; exact w.elim
      | ret u => obtain ⟨_, _, _, _, _, w⟩ := r; exact w.elim
    | false =>
      refine (?_ : wpAny _ X.A (handleBy (.ref a) X.env []) _ _ _)
      refine wpAny_handleBy_nil ?_
      obtain ⟨_, _, _, oe, vs, T, _, _, he, _, hd, h1, _⟩ := id fl3
      unfold PySem.passOn
      refine wpAny_bind (wpAny_field he hd h1 ?_)
      rw [if_neg (show ¬ (Value.ref T == Value.none) = true by simp)]
      have fin : wpAny (model X.prog X.w) X.A (setFlight (.ref a) X.env.frame) (fun _ s4 => wpAny (model X.prog X.w) X.A (throw (.ref a) : Sem Flow) (SP X pins D) X.xe s4) X.xe { s' with heap := h3 } :=
        hf ▸ HandSPX.setFlight_upZ fl3 fun h4 hh4 up4 => wpAny_throw (tk _ _ ⟨a, B, sI, pins, σ', H', cls, d, rfl, J, nb, up13.trans up4, .inr (.inr (hs ▸ hh4)), na, os, ag, hno rfl⟩)
      first
        | exact wpAny_bind fin
        | exact wpAny_bind (wpAny_pure (wpAny_bind fin))
  · intro f s1 r
    cases f with
    | next => obtain ⟨_, _, J, q⟩ := r; exact wpAny_execs_nil ⟨_, _, J.ofTry ok, q⟩
    | brk => obtain ⟨_, _, J, q⟩ := r; exact ⟨_, _, J.ofTry ok, q⟩
    | cont => obtain ⟨_, _, J, q⟩ := r; exact ⟨_, _, J.ofTry ok, q⟩
    | ret u => obtain ⟨_, _, _, J, rr, q⟩ := r; exact ⟨_, _, _, J.ofTry ok, rr, q⟩
end
end Z

set_option Elab.async false
set_option linter.all false
set_option maxRecDepth 100000
set_option maxHeartbeats 4000000
namespace Z
local macro_rules | `(tactic| walk_at "z at") => `(tactic| first | rfl | (simp only [atI, ixN, List.length_cons, List.length_nil, List.length_map]; rfl) | assumption)
local macro_rules | `(tactic| walk_at "z1") => `(tactic| first
  | with_reducible refine w_seq ?_ | with_reducible refine w_set ?_ | with_reducible refine w_ret ?_ | with_reducible refine w_if ?_ | with_reducible refine w_asg ?_ | with_reducible refine w_next ?_ | with_reducible refine w_setIx ?_ | with_reducible refine w_par ?_
  | ((with_reducible refine' w_var ?h ?_); (case h => exact rfl))
  | with_reducible refine w_c ?_ | with_reducible refine w_op ?_ | with_reducible refine w_un ?_ | with_reducible refine w_cons ?_ | with_reducible refine w_nil ?_ | with_reducible refine w_cb ?_
  | with_reducible refine w_call ?_ | with_reducible refine w_callK ?_ | with_reducible refine w_testB ?_ | with_reducible refine w_tru ?_ | with_reducible refine w_andD ?_ | with_reducible refine w_orD ?_ | with_reducible refine w_notD ?_
  | with_reducible refine w_andE ?_ | with_reducible refine w_orE ?_ | with_reducible refine w_notE ?_ | with_reducible refine w_ifE ?_ | with_reducible refine w_is ?_ | with_reducible refine w_isN ?_ | with_reducible refine w_notN ?_ | with_reducible refine w_tupOf ?_
  | with_reducible refine w_tup ?_ | with_reducible refine w_lst ?_ | with_reducible refine w_lstM ?_ | with_reducible refine w_sl ?_ | with_reducible refine w_part ?_ | with_reducible refine w_noPart ?_ | with_reducible refine w_repr ?_ | with_reducible refine w_seqI ?_
  | with_reducible refine w_rdI ?_ | with_reducible refine w_rdB ?_ | with_reducible refine w_rdAdd ?_ | with_reducible refine w_neg ?_ | with_reducible refine w_lenL ?_ | with_reducible refine w_lenT ?_ | with_reducible refine w_abs ?_ | with_reducible refine w_int ?_ | with_reducible refine w_intB ?_ | with_reducible refine w_gcd ?_
  | with_reducible refine w_gname ?_ | with_reducible refine w_gnil ?_ | with_reducible refine w_gcons ?_
  | with_reducible refine w_true ?_ | with_reducible refine w_false ?_
  | dsimp only [truthD, seqD, isNonD, permL, List.filterMap] | with_reducible refine w_drop ?_ | with_reducible refine w_retN ?_ | with_reducible refine w_nilP ?_ | with_reducible refine w_consP ?_ | with_reducible refine w_rng ?_ | with_reducible refine w_cont ?_ | with_reducible refine w_brk ?_)
local macro_rules | `(tactic| walk_at "z") => `(tactic| repeat walk_at "z1")
open PySem L2 PySem.Spec PyProof.Rows

section
variable {X : Cx} {x n : Str} {i j : Nat} {body : List Stmt} {e o : Expr} {es : List Expr} {te ta : TED} {ts : TAD} {pos p p1 p2 p3 p4 p5 p6 : Pos}
/-! ### try: .. except C as n: y = n -/
def tTryK (ex : Addr → Option Bool) (i j : Nat) (tb : TSD) : TSD := fun W F τ M => tb (fun C fs τ' M' => ∃ b, ex C = some b ∧ (b = true → i < τ'.length ∧ F.nx (setN (setN τ' j (some (.exn C fs))) i none) M') ∧ (b = false → W C fs τ' M')) F τ M
theorem exn_rep {K : PySem.W.Frag} {H : Hp} {M : MH} {a C : Addr} {d : Option Addr} {fs : List (Str × D)} (mu : Mut K H M) (na : H a = none) (ex : ExD K H M d fs) : Rep K (upd H a (.ext (ExcAt a C d))) M (.ref a) (.exn C fs) := by
  have ma := mut_none mu na
  rcases ex with ⟨dx, ws, rfl, m, e, r⟩ | ⟨rfl, rfl⟩
  · exact .exn ma m upd_same ((upd_ne (ne_of_none e na)).trans e) (r.good (good_new na))
  · exact .exn0 ma upd_same
theorem slots_keep {K : PySem.W.Frag} {H : Hp} {M : MH} {σ : L2.St} {τ : EnvD} {a C : Addr} {d : Option Addr} {fs : List (Str × D)} (sl : Slots K H M σ τ) (mu : Mut K H M) (na : H a = none) (ex : ExD K H M d fs) (hij : i ≠ j) :
    Slots K (upd H a (.ext (ExcAt a C d))) M (((σ.set i (some (.ref a))).set j (some (.ref a))).set i none) (setN (setN τ j (some (.exn C fs))) i none) := by
  have s1 := ((sl.good (good_new (o := .ext (ExcAt a C d)) na)).set (i := j) (exn_rep mu na ex)).unset (i := i)
  rw [setN_eq, setN_eq]
  have e : ((σ.set i (some (V.ref a))).set j (some (.ref a))).set i none = (σ.set j (some (.ref a))).set i none := by
    rw [List.set_comm _ _ hij, List.set_set]
  rw [e]
  exact s1
theorem pds_try_keep {c : Value} {ex : Addr → Option Bool} {tb : TSD} {y : Str} (hs : X.stack = X.env :: X.outer) (hf : X.env.frame = some X.env.locals) (hex : X.ex = []) (hN : X.N.Nodup) (hi : X.N[i]? = some n) (hln : X.env.kindOf n = some .local)
    (hj : X.N[j]? = some y) (hlj : X.env.scope.names.lookup y = some .local) (hij : i ≠ j) (hc : Names X x c) (he : ∀ C b, ex C = some b → PySem.W.exmOne X.K (.ref C) c = some b) (hb : PDB X body tb)
    (hnv : (n == ("__debug__" : Str)) = false) (hncd : (n == ("__classdict__" : Str)) = false) (hsw : swapsWith (.Name n p4) (some (.Name y p5)) p6.line X.env = pure false) :
    PDS X (.Try body [.ExceptHandler (some (.Name x p1)) (some n) [.Assign [.Name y p5] (.Name n p4) p6] p3] [] [] p2) (tTryK ex i j tb) := fun pn xe H0 M0 W at_ => by
  have R := ps_try_keep (X := X.tr pn xe) (x := x) (n := n) (c := c) (i := i) (body := body) (suite := []) (st0 := .Assign [.Name y p5] (.Name n p4) p6) (p1 := p1) (p2 := p2) (p3 := p3)
    (tb := fun Wx D σ H => ∃ Wd M1, (∀ cls d σ' H', liftW X.K H M1 Wd cls d σ' H' → Wx cls d σ' H') ∧ upS X.K H M1 Wd tb D σ H) (ts := fun a => tAsg (tVar i) (gName j)) (Wout := liftW X.K H0 M0 W) hs hf hex hN hi hln hc at_.tk
    (fun Wx pn' xe' tk po => ⟨fun pins s σ H D I ⟨Wd, M1, imp, q⟩ => (hb pn' xe' H M1 Wd ⟨Takes.imp tk imp, po⟩).run pins s σ H D I q⟩)
    (fun a oe pn' => pss_one (ps_set (X := (X.tr pn xe).suite a ((a, oe) :: pn')) hN hj (.inl hlj) (pe_var (i := i) hi (.inl hln) hnv hncd) hsw (.inr hlj)))
  refine imS R ?_
  rintro D σ H ⟨τ, M, F, g0, sl, mu, h, k1, k2, k3, k4⟩
  refine ⟨_, M, fun cls d σ' H' w => ?_, τ, M, F, .refl, sl, mu, h, k1, k2, k3, k4⟩
  obtain ⟨C, fs, τ', M', rfl, exd, g', sl', mu', b, hb1, hy, hn⟩ := w
  refine ⟨b, he C b hb1, fun bt a na => ⟨C, rfl, ?_⟩, fun bf => ⟨C, fs, τ', M', rfl, exd, g0.trans g', sl', mu', hn bf⟩⟩
  have il : i < σ'.length := by rw [sl'.1]; exact (hy bt).1
  refine ⟨.ref a, by rw [List.getElem?_set_self il], ?_⟩
  exact k1 _ _ ⟨_, M', g'.trans (good_new na), slots_keep sl' mu' na exd hij, mut_new mu' na, (hy bt).2⟩

/-! ### raise C(..), C with its own __init__ -/
/-- __init__(self, p): self.f = p; __init__(self, p, q): self.f = p, self.g = q -/
def spI1 (C : Addr) (f : Str) : Sp := fun vs H Q _ => ∃ a v, vs = [.ref a, v] ∧ H a = some (exo a C none) ∧ ∀ dx, H dx = none → dx ≠ a → Q .non (upd (upd H dx (exd dx [(f, v)])) a (exo a C (some dx)))
def spI2 (C : Addr) (f g : Str) : Sp := fun vs H Q _ => ∃ a v w, vs = [.ref a, v, w] ∧ H a = some (exo a C none) ∧
  ∀ dx, H dx = none → dx ≠ a → Q .non (upd (upd (upd H dx (exd dx [(f, v)])) a (exo a C (some dx))) dx (exd dx [(g, w), (f, v)]))
/-- what a class's own __init__ is -/
structure ExI (K : PySem.W.Frag) (C fI : Addr) : Prop where
  k : ExK K C
  iC : PySem.W.findIn K (.ref C) "__init__" = some (some (.ref fI))
  tI : PySem.W.typeIn K (.ref fI) = some (.type "function")
def tRaiseD (C : Addr) (fl : List D → List (Str × D)) (ta : TAD) : TSD := fun W F τ M => ta W τ M fun ds M1 => W C (fl ds) τ M1
def fl1 (f : Str) : List D → List (Str × D) | [d] => [(f, d)] | _ => []
def fl2 (f g : Str) : List D → List (Str × D) | [d, e] => [(g, e), (f, d)] | _ => []
theorem reps_fl1 {K : PySem.W.Frag} {H : Hp} {M : MH} {f : Str} {v : V} {d : D} (r : Rep K H M v d) : RepF K H M [(f, v)] [(f, d)] := .cons r .nil
/-- an exception's dict, behind its making -/
theorem made_good {H : Hp} {M : MH} {a d : Addr} {fs : List (Str × V)} {G : Hp} (na : H a = none) (nd : H d = none) (h : ∀ b, b ≠ a → b ≠ d → G b = H b) : Good H M (upd (del G a) d (.xd fs)) M := fun b u q m => by
  have b1 : b ≠ a := fun z => by rw [z, na] at q; cases q
  have b2 : b ≠ d := fun z => by rw [z, nd] at q; cases q
  exact ⟨by rw [upd_ne b2, del_ne b1, h b b1 b2]; exact q, m⟩
theorem made_mut {K : PySem.W.Frag} {H : Hp} {M : MH} {a d : Addr} {fs : List (Str × V)} {G : Hp} (mu : Mut K H M) (na : H a = none) (nd : H d = none) (h : ∀ b, b ≠ a → b ≠ d → G b = H b) : Mut K (upd (del G a) d (.xd fs)) M := fun b mo e => by
  obtain ⟨ho, q, r⟩ := mu b mo e
  have b1 : b ≠ a := fun z => by rw [z, na] at q; cases q
  have b2 : b ≠ d := fun z => by rw [z, nd] at q; cases q
  exact ⟨ho, by rw [upd_ne b2, del_ne b1, h b b1 b2]; exact q, r.good (made_good na nd h)⟩
variable {C fI : Addr} {k : Nat} {fd : FuncData} {f g : Str}
theorem pds_raise1 {a : Expr} {ps : List Str} (hc : X.calm = true) (T : ExI X.K C fI) (F1 : FnOk X.prog X.w X.K X.mg X.base CX0 k fI fd ps (spI1 C f)) (hr : Room (k + 1) X.A) (hb : Binds X.K fd ps []) (hm : X.mg x = some (.ref C)) (ha : PDN X [a] ts) (hg : Gl X x := by rfl)
    (hdb : (x == ("__debug__" : Str)) = false := by decide) (he : starEach (a :: []) X.env = (false, eval a X.env) :: starEach [] X.env := by rfl) (hpl : (backTo pos (starEach [] X.env)).any (·.1) = false := by rfl) :
    PDS X (.Raise (some (.Call (.Name x p) [a] [] pos)) none p2) (tRaiseD C (fl1 f) ts) := fun pn xe H0 M0 W at_ => by
  refine imS (ps_raise (X := X.tr pn xe) hc at_.tk (pmk_oex (X := X.tr pn xe) T.k.o T.iC T.tI F1 hr hb .nil pass0 hg hm (ha pn xe H0 M0 W at_) hdb he hpl)) ?_
  rintro D σ H ⟨τ, M, F, g0, sl, mu, h, k1, k2, k3, k4⟩
  refine ⟨τ, M, _, g0, sl, mu, h, fun vs H1 ds M1 g1 mu1 r l q => ?_⟩
  cases r with
  | nil => cases l
  | @cons v0 d0 vs0 ds0 r rs =>
    cases rs with
    | cons _ _ => simp at l
    | nil =>
      refine ⟨by show 1 ≤ 1000; decide, fun a na => ⟨a, _, rfl, upd_same, fun dx hdx ne => ⟨rfl, dx, _, upd_same, by rw [upd_ne ne, upd_same], ?_, ?_⟩⟩⟩
      · rw [upd_ne ne] at hdx; exact hdx
      · rw [upd_ne ne] at hdx
        have ho : ∀ b, b ≠ a → b ≠ dx → upd (upd (upd H1 a (exo a C none)) dx (exd dx [(f, v0)])) a (exo a C (some dx)) b = H1 b := fun b b1 b2 => by rw [upd_ne b1, upd_ne b2, upd_ne b1]
        have gg := made_good (M := M1) (fs := [(f, v0)]) na hdx ho
        exact ⟨C, _, τ, M1, rfl, .inl ⟨dx, _, rfl, mut_none mu1 hdx, upd_same, reps_fl1 (r.good gg)⟩, (g0.trans g1).trans gg, (sl.good g1).good gg, made_mut mu1 na hdx ho, q⟩
theorem pds_raise2 {a b : Expr} {ps : List Str} (hc : X.calm = true) (T : ExI X.K C fI) (F1 : FnOk X.prog X.w X.K X.mg X.base CX0 k fI fd ps (spI2 C f g)) (hr : Room (k + 1) X.A) (hb : Binds X.K fd ps []) (hm : X.mg x = some (.ref C)) (ha : PDN X [a, b] ts) (hg : Gl X x := by rfl)
    (hdb : (x == ("__debug__" : Str)) = false := by decide) (he : starEach (a :: [b]) X.env = (false, eval a X.env) :: starEach [b] X.env := by rfl) (hpl : (backTo pos (starEach [b] X.env)).any (·.1) = false := by rfl) :
    PDS X (.Raise (some (.Call (.Name x p) [a, b] [] pos)) none p2) (tRaiseD C (fl2 f g) ts) := fun pn xe H0 M0 W at_ => by
  refine imS (ps_raise (X := X.tr pn xe) hc at_.tk (pmk_oex (X := X.tr pn xe) T.k.o T.iC T.tI F1 hr hb .nil pass0 hg hm (ha pn xe H0 M0 W at_) hdb he hpl)) ?_
  rintro D σ H ⟨τ, M, F, g0, sl, mu, h, k1, k2, k3, k4⟩
  refine ⟨τ, M, _, g0, sl, mu, h, fun vs H1 ds M1 g1 mu1 r l q => ?_⟩
  cases r with
  | nil => cases l
  | @cons v0 d0 vs0 ds0 r rs =>
    cases rs with
    | nil => simp at l
    | @cons v1 d1 vs1 ds1 r' rs =>
      cases rs with
      | cons _ _ => simp at l
      | nil =>
        refine ⟨by show 2 ≤ 1000; decide, fun a na => ⟨a, _, _, rfl, upd_same, fun dx hdx ne => ⟨rfl, dx, _, by rw [upd_ne (Ne.symm ne), upd_same], upd_same, ?_, ?_⟩⟩⟩
        · rw [upd_ne ne] at hdx; exact hdx
        · rw [upd_ne ne] at hdx
          have ho : ∀ b, b ≠ a → b ≠ dx → upd (upd (upd (upd H1 a (exo a C none)) dx (exd dx [(f, v0)])) a (exo a C (some dx))) dx (exd dx [(g, v1), (f, v0)]) b = H1 b := fun b b1 b2 => by rw [upd_ne b2, upd_ne b1, upd_ne b2, upd_ne b1]
          have gg := made_good (M := M1) (fs := [(g, v1), (f, v0)]) na hdx ho
          exact ⟨C, _, τ, M1, rfl, .inl ⟨dx, _, rfl, mut_none mu1 hdx, upd_same, .cons (r'.good gg) (.cons (r.good gg) .nil)⟩, (g0.trans g1).trans gg, (sl.good g1).good gg, made_mut mu1 na hdx ho, q⟩
end
end Z

set_option Elab.async false
set_option linter.all false
set_option maxRecDepth 100000
set_option maxHeartbeats 4000000
namespace PySem
namespace ZKW
open PySem.W PySem.Calls PyProof.Rows PySem.HandSPX
section
variable {prog : Program} {w : World} {M : Model} {A : Around} {E : Value → Shared → Prop} {R : Result → Shared → Prop} {h : Heap} {g : Array GenState} {d : Drawn} {t : Nat} {os : OsState}
variable {nm q : Str} {C N : Addr} {bs bm bmB : List Value} {hdct : Bool} {sn : List Str} {sub : List Value} {ab : Bool} {col : Option Bool} {dd : Option Addr} {k0 k1 k2 k3 k5 : Option Value} {B newId initId : String} {ks : List (Str × Value)}
/-- an exception made by keywords alone: BaseException.__new__ takes them and keeps none -/
theorem check_new_kw (F : ExcBaseFacts B newId initId bmB) (hT : ∀ X : String, bm.contains (.type X) = bmB.contains (.type X)) {Q : Unit → Shared → Prop}
    (hC : h.get? C = some (excClassObj nm q C N bs bm hdct sn sub ab col dd k0 k1 k2 k3 k5 newId)) (hq : Q () ⟨h, g, d, t, os⟩) : wpAny M A (checkBuiltinCall newId ⟨[.ref C], ks⟩) Q E ⟨h, g, d, t, os⟩ := by
  have c1 : (Value.ref C :: bm).contains (.type B) = true := (List.contains_cons ..).trans (by rw [hT, F.hasB, Bool.or_true])
  have c2 := F.noStar
  simp only [checkBuiltinCall, F.newKind, F.newSplit, F.newRow]
  repeat (first | refine wpAny_loadPart_at hC ?_ | (refine wpAny_isSubtype_exc hC ?_; rw [c1]) | refine wpAny_staticBase_exc hC ?_ | refine wpAny_madeBy_exc hC ?_ | simp only [bne_self_eq_false, Bool.false_eq_true, if_false] | wp_step)
  exact hq
theorem new_kw (F : ExcBaseFacts B newId initId bmB) (hT : ∀ X : String, bm.contains (.type X) = bmB.contains (.type X)) (hC : h.get? C = some (excClassObj nm q C N bs bm hdct sn sub ab col dd k0 k1 k2 k3 k5 newId))
    (hq : R (.ok (.ret (.ref (h.objs.size + 1)))) ⟨(h.push (kdv_tup [])).push (excO C h.objs.size), g, d, t, os⟩) : codeAny (model prog w) A (.builtin newId ⟨[.ref C], ks⟩) R ⟨h, g, d, t, os⟩ := by
  have own : ∀ T : String, T ≠ "" → (Value.ref C :: bm).contains (.type T) = bmB.contains (.type T) := fun T _ => (List.contains_cons ..).trans (by rw [hT]; rfl)
  have c1 : (Value.ref C :: bm).contains (.type B) = true := (List.contains_cons ..).trans (by rw [hT, F.hasB, Bool.or_true])
  have c2 := (own "AttributeError" (by decide)).trans F.noAttr
  have c3 := (own "NameError" (by decide)).trans F.noName
  have c4 := F.ends
  refine codeAny_builtinAt F.entry ?_
  unfold Builtin.«BaseException.__new__»
  refine wpAt_bind ?_
  refine (?_ : wpAt _ _ _ (stack >>= _) _ _ _)
  refine wpAt_bind (wpAt_stack fun p below => wpAt_of_wpAny ?_)
  wp_walk
  refine wpAt_of_wpAny ?_
  rw [F.owner]
  repeat (first | with_reducible refine wpAny_madeHere_exc F.canon hC ?_ | with_reducible refine wpAny_loadPart_at hC ?_ | (with_reducible refine wpAny_isSubtype_exc hC ?_; first | rw [c1] | rw [c2] | rw [c3]) | wp_step)
  refine (?_ : R _ _)
  rw [Heap.size_push]
  exact hq
theorem call_kw (F : ExcBaseFacts B newId initId bmB) (hT : ∀ X : String, bm.contains (.type X) = bmB.contains (.type X)) {fI : Addr} (hC : h.get? C = some (excClassObj nm q C N bs bm hdct sn sub ab col dd k0 k1 k2 k3 k5 newId))
    (hi : W.Looks (model prog w) h (typeLookup (.ref C) "__init__") (some (.ref fI))) (hb : ∀ self, W.Looks (model prog w) h (bindSpecial (.ref fI) self) (.ref fI, [self]))
    (hq : codeAny (model prog w) (A.under (.builtin "type.__call__" ⟨[.ref C], ks⟩)) (.call (.ref fI) ⟨[.ref (h.objs.size + 1)], ks⟩) (W.InitBack (h.objs.size + 1) R) ⟨(h.push (kdv_tup [])).push (excO C h.objs.size), g, d, t, os⟩) :
    codeAny (model prog w) A (.call (.ref C) ⟨[], ks⟩) R ⟨h, g, d, t, os⟩ := by
  have f1 := tc_lookup
  have f2 := tc_bind (.ref C)
  have hTy : (⟨h, g, d, t, os⟩ : Shared).TypeIs (.ref C) "type" := ⟨_, hC, rfl⟩
  refine codeAny_of_tree (?_ : wpAny _ _ (callAny (.ref C) _) _ _ _)
  repeat (any_goals (first | assumption | with_reducible refine wpAny_loadPart_at hC ?_ | wp_step))
  refine ⟨rfl, codeAny_call_builtin_at (Code.quiet_builtin _ (by decide +kernel)) entry_typeCall (wpAny_check_type_call_sub hC ?_)⟩
  have inner : ∀ {A' : Around} {Q : Fin → Shared → Prop} {E : Value → Shared → Prop}, codeAny (model prog w) A' (.call (.ref fI) ⟨[.ref (h.objs.size + 1)], ks⟩)
      (fun r s' => match r with | .ok (.ret v) => v = .none ∧ Q (.done (.ret (.ref (h.objs.size + 1)))) s' | .ok _ => False | .error e => E e s') ⟨(h.push (kdv_tup [])).push (excO C h.objs.size), g, d, t, os⟩ →
      wpAny (model prog w) A' (Builtin.«type.__call__» ⟨[.ref C], ks⟩) Q E ⟨h, g, d, t, os⟩ := fun {A' Q E} z => by
    repeat (first | with_reducible refine wpAny_loadPart_at hC ?_ | with_reducible refine wpAny_madeBy_exc hC ?_ | wp_step)
    refine codeAny_call_builtin_code (Code.quiet_builtin _ F.quiet) (check_new_kw F hT hC (new_kw F hT hC (?_ : wpAny _ _ _ _ _ _)))
    have kk : ∀ b o, h.get? b = some o → ((h.push (kdv_tup [])).push (excO C h.objs.size)).get? b = some o := fun b o e => Heap.get?_push_of_some _ (Heap.get?_push_of_some _ e)
    have at1 : ((h.push (kdv_tup [])).push (excO C h.objs.size)).get? (h.objs.size + 1) = some (excO C h.objs.size) := by heap_get
    have cC : (Value.ref C :: bm).contains (.ref C) = true := by simp
    unfold isInstance
    repeat (first | with_reducible refine wpAny_loadPart_at at1 ?_ | (with_reducible refine wpAny_isSubtype_exc (kk _ _ hC) ?_; rw [cC]) | wp_step)
    refine (?_ : wpAny _ _ (typeLookup (.ref C) _) _ _ _)
    refine (hi.keeps kk).at (wpAny_holding (wpAny_bind (((hb (.ref (h.objs.size + 1))).keeps kk).at ?_)))
    refine wpAny_bind (wpAny_call (codeAny_mono z fun r s' y => ?_))
    rcases r with e | (v | _ | _ | _) <;> first | exact y | exact y.elim | skip
    obtain ⟨rfl, y⟩ := y
    first | exact wpAny_pure (wpAny_pure y) | (wp_walk; exact y)
  refine inner (codeAny_mono hq fun r s' z => ?_)
  rcases r with e | (v | _ | _ | _) <;> exact z
end
end ZKW
end PySem

namespace Z
local macro_rules | `(tactic| walk_at "z at") => `(tactic| first | rfl | (simp only [atI, ixN, List.length_cons, List.length_nil, List.length_map]; rfl) | assumption)
local macro_rules | `(tactic| walk_at "z1") => `(tactic| first
  | with_reducible refine w_seq ?_ | with_reducible refine w_set ?_ | with_reducible refine w_ret ?_ | with_reducible refine w_if ?_ | with_reducible refine w_asg ?_ | with_reducible refine w_next ?_ | with_reducible refine w_setIx ?_ | with_reducible refine w_par ?_
  | ((with_reducible refine' w_var ?h ?_); (case h => exact rfl))
  | with_reducible refine w_c ?_ | with_reducible refine w_op ?_ | with_reducible refine w_un ?_ | with_reducible refine w_cons ?_ | with_reducible refine w_nil ?_ | with_reducible refine w_cb ?_
  | with_reducible refine w_call ?_ | with_reducible refine w_callK ?_ | with_reducible refine w_testB ?_ | with_reducible refine w_tru ?_ | with_reducible refine w_andD ?_ | with_reducible refine w_orD ?_ | with_reducible refine w_notD ?_
  | with_reducible refine w_andE ?_ | with_reducible refine w_orE ?_ | with_reducible refine w_notE ?_ | with_reducible refine w_ifE ?_ | with_reducible refine w_is ?_ | with_reducible refine w_isN ?_ | with_reducible refine w_notN ?_ | with_reducible refine w_tupOf ?_
  | with_reducible refine w_tup ?_ | with_reducible refine w_lst ?_ | with_reducible refine w_lstM ?_ | with_reducible refine w_sl ?_ | with_reducible refine w_part ?_ | with_reducible refine w_noPart ?_ | with_reducible refine w_repr ?_ | with_reducible refine w_seqI ?_
  | with_reducible refine w_rdI ?_ | with_reducible refine w_rdB ?_ | with_reducible refine w_rdAdd ?_ | with_reducible refine w_neg ?_ | with_reducible refine w_lenL ?_ | with_reducible refine w_lenT ?_ | with_reducible refine w_abs ?_ | with_reducible refine w_int ?_ | with_reducible refine w_intB ?_ | with_reducible refine w_gcd ?_
  | with_reducible refine w_gname ?_ | with_reducible refine w_gnil ?_ | with_reducible refine w_gcons ?_
  | with_reducible refine w_true ?_ | with_reducible refine w_false ?_
  | dsimp only [truthD, seqD, isNonD, permL, List.filterMap] | with_reducible refine w_drop ?_ | with_reducible refine w_retN ?_ | with_reducible refine w_nilP ?_ | with_reducible refine w_consP ?_ | with_reducible refine w_rng ?_ | with_reducible refine w_cont ?_ | with_reducible refine w_brk ?_)
local macro_rules | `(tactic| walk_at "z") => `(tactic| repeat walk_at "z1")
open PySem L2 PySem.Spec PyProof.Rows

/-- how a call by keywords alone binds behind self -/
def KwS (K : PySem.W.Frag) (fd : FuncData) (ps ks : List Str) (ix : List Nat) : Prop := ∀ (self : Value) (ws : List Value), ws.length = ks.length → bindArgs fd ⟨[self], ks.zip ws⟩ = pure (ps.zip (self :: permL ix ws))
theorem kwS {K : PySem.W.Frag} {x qual : Str} {st : Stmt} {f : Addr} {fd : FuncData} {ps ks : List Str} {ix : List Nat} (F : Fun K x qual st f fd)
    (h : ∀ (kV doc pm : Value) (an : Option Addr) (cdv ct : Value) (self : Value) (us : List Value), us.length = ks.length → bindArgs (PySem.W.fnOf x qual (defArgs st) (defBody st) (defScope st) .none kV doc pm an cdv ct) ⟨[self], ks.zip us⟩ = pure (ps.zip (self :: permL ix us))) : KwS K fd ps ks ix := by
  obtain ⟨oc, od, kV, doc, pm, an, cdv, ct, osl, rfl, lk, hcd⟩ := F.ex
  exact h kV doc pm an cdv ct
def tMkK (C : Addr) (sp : Sp) (ix : List Nat) (n : Nat) (ta : TA) : L2.St → Hp → XK → Prop := fun σ H Q => ta σ H fun vs H1 => vs.length = n ∧ ∀ a, H1 a = none → sp (.ref a :: permL ix vs) (upd H1 a (exo a C none))
  (fun v H2 => v = .non ∧ ∃ (d : Addr) (fs : List (Str × V)), H2 a = some (exo a C (some d)) ∧ H2 d = some (exd d fs) ∧ H1 d = none ∧ Q (.ref C) (some d) (upd (del H2 a) d (.xd fs))) (fun _ _ _ => False)
section
variable {X : Cx} {x n : Str} {i j : Nat} {body : List Stmt} {e o a b : Expr} {es : List Expr} {te ta : TED} {ts : TAD} {pos p p1 p2 p3 : Pos} {C fI : Addr} {k : Nat} {fd : FuncData} {f g : Str} {ps ks : List Str} {ix : List Nat} {kws : List Keyword}
theorem pmk_kw {sp : Sp} {tv : TA} (T : ExI X.K C fI) (F1 : FnOk X.prog X.w X.K X.mg X.base CX0 k fI fd ps sp) (hr : Room (k + 1) X.A) (hb : KwS X.K fd ps ks ix) (hm : X.mg x = some (.ref C)) (hk : PK X kws tv) (hg : Gl X x)
    (hdb : (x == ("__debug__" : Str)) = false) (hall : (backToKw pos (keywordEach kws X.env)).all (·.1.isSome) = true) (hks : (backToKw pos (keywordEach kws X.env)).filterMap (·.1) = ks)
    (hpl : ((backTo pos (starEach [] X.env)).any (·.1) || (backToKw pos (keywordEach kws X.env)).any (·.1.isNone)) = false) : PMk X (.Call (.Name x p) [] kws pos) (tMkK C sp ix ks.length tv) := by
  intro pins s σ H Q I h
  obtain ⟨nm, q, N, bs, bm, sn, sub, ab, col, dd, k0, k1, k2, k3, k5, hC, hbm⟩ := T.k.o.cls
  refine wpAny_Call_Name_kw (ld_glob I hg hm ?_ hdb)
  refine PySem.W.callWith_KW0 (h₀ := X.base) I.ok.mod.kin T.k.o.kC hall (thn (hk.run pos pins s σ H _ I h) fun us s1 ⟨vs, H1, I1, r1, hz, q1⟩ => ⟨I1.kIn, ?_⟩) hpl
  rw [hks]
  obtain ⟨hp, gg, dr, tk, os⟩ := s1
  have up1 : hp.objs.size ≤ hp.objs.size + 1 := Nat.le_succ _
  have na : H1 (hp.objs.size + 1) = none := I1.hok.fresh up1
  have kk : ∀ b o, hp.get? b = some o → ((hp.push (PySem.W.kdv_tup [])).push (PySem.HandSPX.excO C hp.objs.size)).get? b = some o := fun b o e => Heap.get?_push_of_some _ (Heap.get?_push_of_some _ e)
  have at1 : ((hp.push (PySem.W.kdv_tup [])).push (PySem.HandSPX.excO C hp.objs.size)).get? (hp.objs.size + 1) = some (PySem.HandSPX.excO C hp.objs.size) := by heap_get
  have I2 : Inv X pins σ (upd H1 (hp.objs.size + 1) (exo (hp.objs.size + 1) C none)) ⟨(hp.push (PySem.W.kdv_tup [])).push (PySem.HandSPX.excO C hp.objs.size), gg, dr, tk, os⟩ :=
    I1.laid (t' := tk) (o := exo (hp.objs.size + 1) C none) (h' := (hp.push (PySem.W.kdv_tup [])).push (PySem.HandSPX.excO C hp.objs.size)) kk up1 (exo_ok at1)
  have hl : us.length = ks.length := r1.length.symm.trans hz
  have r2 : Vals (V.ref (hp.objs.size + 1) :: permL ix vs) (Value.ref (hp.objs.size + 1) :: permL ix us) := .cons rfl (vals_perm r1 ix)
  refine wpAny_call (PySem.ZKW.call_kw F.excBase_ValueError (fun Y => PySem.HandSPX.refsVE_contains Y bm hbm) (I1.kIn _ _ hC) (PySem.W.looks_findIn I1.kIn T.iC) (fun self => PySem.W.bind_fn I1.kIn self T.tI)
    (codeAny_mono (F1.run _ X.stack _ _ ⟨[Value.ref (hp.objs.size + 1)], ks.zip us⟩ (Value.ref (hp.objs.size + 1) :: permL ix us) _ _ (fun _ _ _ => False) (hr.make C [] (ks.zip us)) (I2.env0.make C [] (ks.zip us)) (BindsTo.of_eq (hb _ us hl)) r2 (q1 _ na)) fun r s' hq => ?_))
  cases r with
  | error er => obtain ⟨_, _, _, _, _, _, _, _, _, _, _, _, z⟩ : False := hq
  | ok fl =>
    cases fl with
    | ret u =>
      obtain ⟨v, H2, os2, bare2, un2, hok2, rv, ev, d, fs, ea, ed, hd1, q2⟩ := hq
      subst ev
      obtain ⟨h2, g2, d2, t2, os'⟩ := s'
      exact ⟨rv, mk_end (raises_own T.k.o.exC T.k.o.tyC) I1 up1 kk un2 hok2 os2 bare2 ea ed hd1 q2⟩
    | next => exact False.elim hq
    | brk => exact False.elim hq
    | cont => exact False.elim hq
theorem pds_raiseK1 (hc : X.calm = true) (T : ExI X.K C fI) (F1 : FnOk X.prog X.w X.K X.mg X.base CX0 k fI fd ps (spI1 C f)) (hr : Room (k + 1) X.A) (hb : KwS X.K fd ps ks ix) (hks1 : ks.length = 1) (hm : X.mg x = some (.ref C)) (ha : PDKn X kws ts) (hln : kws.length = ks.length) (hix : ∀ (α : Type) (v : α), permL ix [v] = [v]) (hg : Gl X x := by rfl)
    (hdb : (x == ("__debug__" : Str)) = false := by decide) (hall : (backToKw pos (keywordEach kws X.env)).all (·.1.isSome) = true := by rfl) (hks : (backToKw pos (keywordEach kws X.env)).filterMap (·.1) = ks := by rfl)
    (hpl : ((backTo pos (starEach [] X.env)).any (·.1) || (backToKw pos (keywordEach kws X.env)).any (·.1.isNone)) = false := by rfl) :
    PDS X (.Raise (some (.Call (.Name x p) [] kws pos)) none p2) (tRaiseD C (fl1 f) ts) := fun pn xe H0 M0 W at_ => by
  refine imS (ps_raise (X := X.tr pn xe) hc at_.tk (pmk_kw (X := X.tr pn xe) T F1 hr hb hm (ha pn xe H0 M0 W at_) hg hdb hall hks hpl)) ?_
  rintro D σ H ⟨τ, M, F, g0, sl, mu, h, k1, k2, k3, k4⟩
  refine ⟨τ, M, _, g0, sl, mu, h, fun vs H1 ds M1 g1 mu1 r l q => ?_⟩
  rw [hln, hks1] at l
  cases r with
  | nil => cases l
  | @cons v0 d0 vs0 ds0 r rs =>
    cases rs with
    | cons _ _ => simp at l
    | nil =>
      refine ⟨hks1.symm, fun a na => ⟨a, v0, by rw [hix], upd_same, fun dx hdx ne => ⟨rfl, dx, _, upd_same, by rw [upd_ne ne, upd_same], ?_, ?_⟩⟩⟩
      · rw [upd_ne ne] at hdx; exact hdx
      · rw [upd_ne ne] at hdx
        have ho : ∀ b, b ≠ a → b ≠ dx → upd (upd (upd H1 a (exo a C none)) dx (exd dx [(f, v0)])) a (exo a C (some dx)) b = H1 b := fun b b1 b2 => by rw [upd_ne b1, upd_ne b2, upd_ne b1]
        have gg := made_good (M := M1) (fs := [(f, v0)]) na hdx ho
        exact ⟨C, _, τ, M1, rfl, .inl ⟨dx, _, rfl, mut_none mu1 hdx, upd_same, reps_fl1 (r.good gg)⟩, (g0.trans g1).trans gg, (sl.good g1).good gg, made_mut mu1 na hdx ho, q⟩
/-- the two keywords stand the other way round -/
theorem pds_raiseK2 (hc : X.calm = true) (T : ExI X.K C fI) (F1 : FnOk X.prog X.w X.K X.mg X.base CX0 k fI fd ps (spI2 C f g)) (hr : Room (k + 1) X.A) (hb : KwS X.K fd ps ks [1, 0]) (hks1 : ks.length = 2) (hm : X.mg x = some (.ref C)) (ha : PDKn X kws ts) (hln : kws.length = ks.length) (hg : Gl X x := by rfl)
    (hdb : (x == ("__debug__" : Str)) = false := by decide) (hall : (backToKw pos (keywordEach kws X.env)).all (·.1.isSome) = true := by rfl) (hks : (backToKw pos (keywordEach kws X.env)).filterMap (·.1) = ks := by rfl)
    (hpl : ((backTo pos (starEach [] X.env)).any (·.1) || (backToKw pos (keywordEach kws X.env)).any (·.1.isNone)) = false := by rfl) :
    PDS X (.Raise (some (.Call (.Name x p) [] kws pos)) none p2) (tRaiseD C (fun ds => fl2 f g (permL [1, 0] ds)) ts) := fun pn xe H0 M0 W at_ => by
  refine imS (ps_raise (X := X.tr pn xe) hc at_.tk (pmk_kw (X := X.tr pn xe) T F1 hr hb hm (ha pn xe H0 M0 W at_) hg hdb hall hks hpl)) ?_
  rintro D σ H ⟨τ, M, F, g0, sl, mu, h, k1, k2, k3, k4⟩
  refine ⟨τ, M, _, g0, sl, mu, h, fun vs H1 ds M1 g1 mu1 r l q => ?_⟩
  rw [hln, hks1] at l
  cases r with
  | nil => cases l
  | @cons v1 d1 vs0 ds0 r rs =>
    cases rs with
    | nil => simp at l
    | @cons v0 d0 vs1 ds1 r' rs =>
      cases rs with
      | cons _ _ => simp at l
      | nil =>
        refine ⟨hks1.symm, fun a na => ⟨a, v0, v1, rfl, upd_same, fun dx hdx ne => ⟨rfl, dx, _, by rw [upd_ne (Ne.symm ne), upd_same], upd_same, ?_, ?_⟩⟩⟩
        · rw [upd_ne ne] at hdx; exact hdx
        · rw [upd_ne ne] at hdx
          have ho : ∀ b, b ≠ a → b ≠ dx → upd (upd (upd (upd H1 a (exo a C none)) dx (exd dx [(f, v0)])) a (exo a C (some dx))) dx (exd dx [(g, v1), (f, v0)]) b = H1 b := fun b b1 b2 => by rw [upd_ne b2, upd_ne b1, upd_ne b2, upd_ne b1]
          have gg := made_good (M := M1) (fs := [(g, v1), (f, v0)]) na hdx ho
          exact ⟨C, _, τ, M1, rfl, .inl ⟨dx, _, rfl, mut_none mu1 hdx, upd_same, .cons (r.good gg) (.cons (r'.good gg) .nil)⟩, (g0.trans g1).trans gg, (sl.good g1).good gg, made_mut mu1 na hdx ho, q⟩
/-- raise C(), no __init__ of its own -/
theorem pmk_bare (hx : PySem.W.excIn X.K C [.type "ValueError", .type "Exception", .type "BaseException", .type "object"] "ValueError.__new__" = true) (gC : X.mg x = some (.ref C)) (kC : PySem.W.keepIn X.K (.ref C) = true) (r : Raises X (.ref C)) (hg : Gl X x) (hdb : (x == ("__debug__" : Str)) = false) :
    PMk X (.Call (.Name x p) [] [] pos) (fun _ H Q => Q (.ref C) none H) := by
  intro pins s σ H Q I h
  refine wpAny_Call_Name_kw (ld_glob I hg gC ?_ hdb)
  refine PySem.W.callWith_K0 I.kIn kC (?_ : wpAny _ _ (call (.ref C) []) _ _ _)
  obtain ⟨bm, N, nm, qn, bs, hdct, sn, sub, ab, col, dd, k0, k1, k2, k3, k5, mN, hC, hN, hni, T⟩ := exc_obj I.kIn hx
  refine wpAny_call_exc_subT F.excBase_ValueError T hC hN hni (fun h' e hm => mk_of I hm r h (I.hok.gone hm.new)) (by show 0 ≤ sizeLine; omega)
theorem pds_raise0 (hc : X.calm = true) (hx : PySem.W.excIn X.K C [.type "ValueError", .type "Exception", .type "BaseException", .type "object"] "ValueError.__new__" = true) (T : ExK X.K C) (hm : X.mg x = some (.ref C)) (hg : Gl X x := by rfl) (hdb : (x == ("__debug__" : Str)) = false := by decide) :
    PDS X (.Raise (some (.Call (.Name x p) [] [] pos)) none p2) (tRaiseD C (fun _ => []) tNilD) := fun pn xe H0 M0 W at_ => by
  refine imS (ps_raise (X := X.tr pn xe) hc at_.tk (pmk_bare (X := X.tr pn xe) hx hm T.o.kC (raises_own T.o.exC T.o.tyC) hg hdb)) ?_
  rintro D σ H ⟨τ, M, F, g0, sl, mu, h, k1, k2, k3, k4⟩
  exact ⟨C, _, τ, M, rfl, .inr ⟨rfl, rfl⟩, g0, sl, mu, h⟩

/-! ### isinstance of an exception, its fields -/
/-- C of an exception of the class that is asked -/
def isE (sub : Addr → Option Bool) (d : D) : Option Bool := match d with | .exn C _ => sub C | _ => none
theorem exc_at {pins : List (Addr × Obj)} {σ : L2.St} {H : Hp} {s : Shared} {a C : Addr} {dx : Option Addr} (I : Inv X pins σ H s) (e : H a = some (.ext (ExcAt a C dx))) : ∃ oe vs, s.heap.get? a = some oe ∧ oe.cls = .ref C ∧ oe.dict = dx ∧ oe.data = .fields vs :=
  (show ObjOk X.prog X.w H s.heap a (.ext (ExcAt a C dx)) from I.hok a _ e).1
theorem pd_isE {cn : Str} {cv : Value} {sub : Addr → Option Bool} {c : Expr} (hm : X.mg "isinstance" = none) (ha : PD X a ta) (hc : ∀ pn xe, ∃ v, (∀ u, RelV v u → u = cv) ∧ PE (X.tr pn xe) c (tC v)) (hs : ∀ C' b, sub C' = some b → ExK X.K C' ∧ PySem.W.kitOne X.K (.ref C') cv = some b)
    (hg : Gl X "isinstance" := by rfl) (he : starEach [a, c] X.env = (false, eval a X.env) :: starEach [c] X.env := by rfl) (he2 : starEach [c] X.env = [(false, eval c X.env)] := by rfl) (hpl : (backTo pos (starEach [c] X.env)).any (·.1) = false := by rfl) :
    PD X (.Call (.Name "isinstance" p) [a, c] [] pos) (tIs (isE sub) ta) := fun pn xe H0 M0 W at_ => by
  obtain ⟨v, hv, hpe⟩ := hc pn xe
  have cr : CallR (X.tr pn xe) (.builtin "isinstance") (fun xs H Q => ∃ a C dx b, xs = [.ref a, v] ∧ H a = some (.ext (ExcAt a C dx)) ∧ (∀ d, dx = some d → ∃ ws, H d = some (.xd ws)) ∧ sub C = some b ∧ Q (.bl b) H) := by
    intro pins s σ H xs us Q I r h
    obtain ⟨a, C, dx, b, rfl, e, hd, hb, q⟩ := h
    obtain ⟨T, hk⟩ := hs C b hb
    cases r with
    | cons rx rr =>
      cases rr with
      | cons rt rr =>
        cases rr
        cases rx
        have ec := hv _ rt
        subst ec
        obtain ⟨oe, vs, h1, h2, h3, h4⟩ := exc_at I e
        have J : ∃ od, PySem.W.InstAt s.heap a oe C od := by
          cases dx with
          | none => exact ⟨none, h1, h2, by unfold PySem.W.notCls; rw [h4] <;> trivial, by rw [h3]; trivial⟩
          | some d =>
            obtain ⟨ws, hw⟩ := hd d rfl
            obtain ⟨mA, hns, _⟩ := (show ObjOk X.prog X.w H s.heap d (.xd ws) from I.hok d _ hw)
            obtain ⟨od, ho, hl⟩ := lookIn_ns hns
            exact ⟨some od, h1, h2, by unfold PySem.W.notCls; rw [h4] <;> trivial, by rw [h3]; exact ho⟩
        obtain ⟨od, J⟩ := J
        exact PySem.W.kia_one (PySem.W.kitx_exc T.ic T.ga T.gg T.o.exC T.ca T.sg T.tg T.om) I.kIn J hk (fun z => nomatch z) fun tk => ⟨.bl b, H, I.kept (t' := tk) fun _ _ z => z, rfl, q⟩
  refine imE (pe_callB (X := X.tr pn xe) cr hg hm (by decide +kernel) (pa_cons (ha pn xe H0 M0 W at_) (pa_cons hpe pa_nil he2) he) (by decide) (by decide) he hpl) fun σ H Q ⟨τ, M, F, g0, sl, mu, h, k⟩ => upE_fin g0 sl mu h fun x H1 d M1 g1 mu1 r1 q => ?_
  cases r1 with
  | exn m m2 e e2 rf =>
    cases eb : isE sub (.exn _ _) with
    | none => rw [eb] at q; exact q.elim
    | some b => rw [eb] at q; exact ⟨_, _, _, b, rfl, e, fun d hd => (by cases hd; exact ⟨_, e2⟩), eb, k _ _ _ _ g1 mu1 (.bl _) q⟩
  | exn0 m e =>
    cases eb : isE sub (.exn _ _) with
    | none => rw [eb] at q; exact q.elim
    | some b => rw [eb] at q; exact ⟨_, _, _, b, rfl, e, fun d hd => (by cases hd), eb, k _ _ _ _ g1 mu1 (.bl _) q⟩
  | _ => exact q.elim
/-- e.f of a caught exception -/
def tFldX (f : Str) (t : TED) : TED := fun W τ M Q => t W τ M fun d M1 => match d with | .exn _ fs => (match fs.lookup f with | some x => Q x M1 | none => False) | _ => False
theorem pd_fldX (cls : Addr → Prop) (ha : PD X a ta) (hs : ∀ C', ExK X.K C' → PySem.W.findIn X.K (.ref C') f = some none → True) (hk : ∀ C', cls C' → ExK X.K C' ∧ PySem.W.findIn X.K (.ref C') f = some none) (hb : attributeBase a f X.env (eval a X.env) = eval a X.env := by rfl) :
    PD X (.Attribute a f pos) (fun W τ M Q => ta W τ M fun d M1 => match d with | .exn C fs => cls C ∧ (match fs.lookup f with | some x => Q x M1 | none => False) | _ => False) := fun pn xe H0 M0 W at_ => by
  refine ⟨fun pins s σ H Q I ⟨τ, M, F, g0, sl, mu, h, k⟩ => ?_⟩
  refine attr_of hb (thn ((ha pn xe H0 M0 W at_).run pins s σ H (fun v H1 => ∃ d M1 C dx fs ws x, v = .ref d ∧ Good H M H1 M1 ∧ Mut X.K H1 M1 ∧ cls C ∧ H1 d = some (.ext (ExcAt d C (some dx))) ∧ H1 dx = some (.xd fs) ∧ RepF X.K H1 M1 fs ws ∧ ws.lookup f = some x ∧ F x M1) I ?_) fun u s1 hh => ?_)
  · refine upE_fin g0 sl mu h fun v H1 d M1 g1 mu1 r1 q => ?_
    cases r1 with
    | @exn a C dx fs ds m m2 e e2 rf =>
      obtain ⟨hC, q⟩ := q
      cases el : ds.lookup f with
      | none => rw [el] at q; exact q.elim
      | some x => rw [el] at q; exact ⟨_, M1, C, dx, fs, ds, x, rfl, g1, mu1, hC, e, e2, rf, el, q⟩
    | exn0 m e => exact q.2.elim
    | _ => exact q.elim
  · obtain ⟨_, H1, I1, rx, a, M1, C, dx, fs, ws, x, rfl, g1, mu1, hC, e, e2, rf, el, q⟩ := hh
    obtain rfl : u = Value.ref a := rx
    obtain ⟨T, hno⟩ := hk C hC
    obtain ⟨oe, vs, h1, h2, h3, h4⟩ := exc_at (X := X.tr pn xe) I1 e
    obtain ⟨v, lv, rv⟩ := rf.lookup el
    obtain ⟨mA, hns, hr⟩ := (show ObjOk X.prog X.w H1 s1.heap dx (.xd fs) from I1.hok dx _ e2)
    obtain ⟨od, ho, hl⟩ := lookIn_ns hns
    obtain ⟨u, hu, ru⟩ := RelO.some_of (v := v) (o := mA f) (by rw [← lv]; exact hr f)
    have J : PySem.W.InstAt s1.heap a oe C (some od) := ⟨h1, h2, by unfold PySem.W.notCls; rw [h4] <;> rfl, by rw [h3]; exact ho⟩
    exact HandSPX.exc_get I1.kIn J T.ga T.gg T.o.exC (PySem.W.findObj_own T.hd hno rfl (by rw [hl, hu])) (handed_of ru) ⟨v, H1, I1.tok _, ru, k _ H1 _ M1 g1 mu1 rv q⟩
end
end Z

set_option Elab.async false
set_option linter.all false
set_option maxRecDepth 100000
set_option maxHeartbeats 4000000
namespace Z
local macro_rules | `(tactic| walk_at "z at") => `(tactic| first | rfl | (simp only [atI, ixN, List.length_cons, List.length_nil, List.length_map]; rfl) | assumption)
local macro_rules | `(tactic| walk_at "z1") => `(tactic| first
  | with_reducible refine w_seq ?_ | with_reducible refine w_set ?_ | with_reducible refine w_ret ?_ | with_reducible refine w_if ?_ | with_reducible refine w_asg ?_ | with_reducible refine w_next ?_ | with_reducible refine w_setIx ?_ | with_reducible refine w_par ?_
  | ((with_reducible refine' w_var ?h ?_); (case h => exact rfl))
  | with_reducible refine w_c ?_ | with_reducible refine w_op ?_ | with_reducible refine w_un ?_ | with_reducible refine w_cons ?_ | with_reducible refine w_nil ?_ | with_reducible refine w_cb ?_
  | with_reducible refine w_call ?_ | with_reducible refine w_callK ?_ | with_reducible refine w_testB ?_ | with_reducible refine w_tru ?_ | with_reducible refine w_andD ?_ | with_reducible refine w_orD ?_ | with_reducible refine w_notD ?_
  | with_reducible refine w_andE ?_ | with_reducible refine w_orE ?_ | with_reducible refine w_notE ?_ | with_reducible refine w_ifE ?_ | with_reducible refine w_is ?_ | with_reducible refine w_isN ?_ | with_reducible refine w_notN ?_ | with_reducible refine w_tupOf ?_
  | with_reducible refine w_tup ?_ | with_reducible refine w_lst ?_ | with_reducible refine w_lstM ?_ | with_reducible refine w_sl ?_ | with_reducible refine w_part ?_ | with_reducible refine w_noPart ?_ | with_reducible refine w_repr ?_ | with_reducible refine w_seqI ?_
  | with_reducible refine w_rdI ?_ | with_reducible refine w_rdB ?_ | with_reducible refine w_rdAdd ?_ | with_reducible refine w_neg ?_ | with_reducible refine w_lenL ?_ | with_reducible refine w_lenT ?_ | with_reducible refine w_abs ?_ | with_reducible refine w_int ?_ | with_reducible refine w_intB ?_ | with_reducible refine w_gcd ?_
  | with_reducible refine w_gname ?_ | with_reducible refine w_gnil ?_ | with_reducible refine w_gcons ?_
  | with_reducible refine w_true ?_ | with_reducible refine w_false ?_
  | dsimp only [truthD, seqD, isNonD, permL, List.filterMap] | with_reducible refine w_drop ?_ | with_reducible refine w_retN ?_ | with_reducible refine w_nilP ?_ | with_reducible refine w_consP ?_ | with_reducible refine w_rng ?_ | with_reducible refine w_cont ?_ | with_reducible refine w_brk ?_)
local macro_rules | `(tactic| walk_at "z") => `(tactic| repeat walk_at "z1")
open PySem L2 PySem.Spec PyProof.Rows

/-! ### a class of errors right below the package's own base L, by one look -/
def veMro (L C : Addr) : List Value := [.ref C, .ref L, .type "ValueError", .type "Exception", .type "BaseException", .type "object"]
def exB (K : PySem.W.Frag) (L C : Addr) (fl : List Str) : Bool :=
  (match K.lookup C with
    | some ⟨.type "type", _, .cls cd, sl⟩ => (match sl.toList with | [_, _, _, _, some (.builtin n), _] => n == "ValueError.__new__" | _ => false) && (cd.mro == veMro L C) && cd.hasDict && !cd.hasDel
    | _ => false) &&
  (PySem.W.findIn K (.ref C) "__setattr__" == some (some (.builtin "object.__setattr__"))) && (PySem.W.keepIn K (.ref C)) && (PySem.W.findIn K (.ref C) "__getattribute__" == some (some (.builtin "BaseException.__getattribute__"))) &&
  (PySem.W.findIn K (.ref C) "__getattr__" == some none) && (PySem.W.findIn K (.ref C) "__class__" == some (some (.builtin "object.__class__"))) &&
  (PySem.W.specialIn K (.builtin "object.__class__") "__get__" == some (some (.builtin "getset_descriptor.__get__"))) && (PySem.W.takesIn K (.builtin "object.__class__") == some true) && fl.all fun f => PySem.W.findIn K (.ref C) f == some none
theorem ve_has {L C : Addr} : (veMro L C).contains (.type "BaseException") = true := by simp [veMro]
theorem ve_has2 {L C : Addr} : (veMro L C).contains (.type "object") = true := by simp [veMro]
theorem ve_has3 {L C : Addr} : (veMro L C).contains (.type "ValueError") = true := by simp [veMro]
theorem ve_own {L C D : Addr} : (veMro L C).contains (.ref D) = (decide (C = D) || decide (D = L)) := by
  by_cases h : C = D
  · subst h; simp [veMro]
  · by_cases h2 : D = L
    · subst h2; simp [veMro]
    · simp [veMro, h, h2, Ne.symm h]
structure ExG (K : PySem.W.Frag) (L C : Addr) (fl : List Str) : Prop where
  k : ExK K C
  sub : ∀ base, PySem.W.subIn K (.ref C) base = some ((veMro L C).contains base)
  nf : ∀ f ∈ fl, PySem.W.findIn K (.ref C) f = some none
theorem exB_ok {K : PySem.W.Frag} {L C : Addr} {fl : List Str} (h : exB K L C fl = true) : ExG K L C fl := by
  unfold exB at h
  simp only [Bool.and_eq_true, beq_iff_eq, List.all_eq_true] at h
  obtain ⟨⟨⟨⟨⟨⟨⟨⟨hl, sa⟩, kp⟩, ga⟩, gg⟩, ca⟩, sg⟩, tg⟩, nf⟩ := h
  split at hl
  · rename_i dd cd sl ho
    simp only [Bool.and_eq_true, beq_iff_eq, Bool.not_eq_true'] at hl
    obtain ⟨⟨⟨h1, h2⟩, h3⟩, h4⟩ := hl
    split at h1
    · rename_i k0 k1 k2 k3 n k5 hs
      have h1' := beq_iff_eq.mp h1
      subst h1'
      obtain ⟨nm, bs, mro, ns, qn, hd, sn, sb, ab, col, dl⟩ := cd
      dsimp only at h2 h3 h4
      subst h2 h3 h4
      have hsl : sl = #[k0, k1, k2, k3, some (.builtin "ValueError.__new__"), k5] := by
        obtain ⟨l⟩ := sl
        simp only at hs
        rw [hs]
      subst hsl
      have hc : PySem.W.clsIn K C = some { name := nm, bases := bs, mro := veMro L C, ns := ns, qualname := qn, hasDict := true, slotNames := sn, subclasses := sb, abstract := ab, collection := col, hasDel := false } := by unfold PySem.W.clsIn; rw [ho]
      have sub : ∀ base, PySem.W.subIn K (.ref C) base = some ((veMro L C).contains base) := fun base => by
        show PySem.W.mroIn K C base = _
        unfold PySem.W.mroIn
        rw [hc]
        rfl
      have ty : PySem.W.typeIn K (.ref C) = some (.type "type") := by show (K.lookup C).map _ = _; rw [ho]; rfl
      have ex : PySem.W.subIn K (.ref C) (.type "BaseException") = some true := (sub _).trans (by rw [ve_has])
      refine ⟨⟨⟨⟨nm, qn, ns, bs, _, sn, sb, ab, col, dd, k0, k1, k2, k3, k5, ho, rfl⟩, sa, ex, ty, kp⟩, ga, gg, by show (PySem.W.clsIn K C).any _ = true; rw [hc]; rfl, ca, (sub (.type "object")).trans (by rw [ve_has2]), by show (PySem.W.clsIn K C).isSome = true; rw [hc]; rfl, sg, tg⟩, sub, fun f hf => nf f hf⟩
    · cases h1
  · cases hl
theorem exg_kit {K : PySem.W.Frag} {L C D : Addr} {fl fl' : List Str} (T : ExG K L C fl) (U : ExG K L D fl') : PySem.W.kitOne K (.ref C) (.ref D) = some (decide (C = D) || decide (D = L)) := by
  unfold PySem.W.kitOne
  by_cases h : C = D
  · subst h; simp
  · have e : (Value.ref C == Value.ref D) = false := by simpa using h
    rw [if_neg (by rw [e]; exact Bool.false_ne_true)]
    have e2 : ((PySem.W.clsIn K D).isSome && PySem.W.typeIn K (.ref D) == some (.type "type")) = true := by
      have h1 : (PySem.W.clsIn K D).isSome = true := U.k.ic
      rw [h1, U.k.o.tyC]
      rfl
    unfold PySem.W.kitCls
    simp only [e2, if_true]
    rw [T.sub, ve_own]
theorem exg_ve {K : PySem.W.Frag} {L C : Addr} {fl : List Str} (T : ExG K L C fl) : PySem.W.kitOne K (.ref C) (.type "ValueError") = some true := by
  have m : PySem.W.kitMeta "ValueError" = true := by decide +kernel
  have e : (Value.ref C == Value.type "ValueError") = false := rfl
  unfold PySem.W.kitOne PySem.W.kitCls
  simp only [e, m, if_true, Bool.false_eq_true, if_false]
  rw [T.sub, ve_has3]
theorem exg_exm {K : PySem.W.Frag} {L C : Addr} {fl : List Str} (T : ExG K L C fl) (h1 : PySem.W.subIn K (.ref L) (.type "BaseException") = some true) (hd : PySem.W.hasDictIn K L = true) (ht : PySem.W.typeIn K (.ref L) = some (.type "type")) : PySem.W.exmOne K (.ref C) (.ref L) = some true := by
  have hc : PySem.W.isClsIn K L = true := by
    unfold PySem.W.hasDictIn at hd
    show (PySem.W.clsIn K L).isSome = true
    cases q : PySem.W.clsIn K L with
    | none => rw [q] at hd; cases hd
    | some _ => rfl
  have e1 : (PySem.W.subIn K (.ref L) (.type "BaseException") == some true) = true := by rw [h1]; rfl
  have e2 : ((PySem.W.clsIn K L).isSome && PySem.W.typeIn K (.ref L) == some (.type "type")) = true := by
    have hc' : (PySem.W.clsIn K L).isSome = true := hc
    rw [hc', ht]
    rfl
  have e3 := T.sub (.ref L)
  rw [ve_own] at e3
  simp only [decide_true, Bool.or_true] at e3
  show (if (PySem.W.subIn K (.ref L) (.type "BaseException") == some true) = true then (if ((PySem.W.clsIn K L).isSome && PySem.W.typeIn K (.ref L) == some (.type "type")) = true then PySem.W.subIn K (.ref C) (.ref L) else none) else none) = some true
  rw [if_pos e1, if_pos e2, e3]
end Z

set_option Elab.async false
set_option linter.all false
set_option maxRecDepth 100000
set_option maxHeartbeats 4000000
namespace Z
local macro_rules | `(tactic| walk_at "z at") => `(tactic| first | rfl | (simp only [atI, ixN, List.length_cons, List.length_nil, List.length_map]; rfl) | assumption)
local macro_rules | `(tactic| walk_at "z1") => `(tactic| first
  | with_reducible refine w_seq ?_ | with_reducible refine w_set ?_ | with_reducible refine w_ret ?_ | with_reducible refine w_if ?_ | with_reducible refine w_asg ?_ | with_reducible refine w_next ?_ | with_reducible refine w_setIx ?_ | with_reducible refine w_par ?_
  | ((with_reducible refine' w_var ?h ?_); (case h => exact rfl))
  | with_reducible refine w_c ?_ | with_reducible refine w_op ?_ | with_reducible refine w_un ?_ | with_reducible refine w_cons ?_ | with_reducible refine w_nil ?_ | with_reducible refine w_cb ?_
  | with_reducible refine w_call ?_ | with_reducible refine w_callK ?_ | with_reducible refine w_testB ?_ | with_reducible refine w_tru ?_ | with_reducible refine w_andD ?_ | with_reducible refine w_orD ?_ | with_reducible refine w_notD ?_
  | with_reducible refine w_andE ?_ | with_reducible refine w_orE ?_ | with_reducible refine w_notE ?_ | with_reducible refine w_ifE ?_ | with_reducible refine w_is ?_ | with_reducible refine w_isN ?_ | with_reducible refine w_notN ?_ | with_reducible refine w_tupOf ?_
  | with_reducible refine w_tup ?_ | with_reducible refine w_lst ?_ | with_reducible refine w_lstM ?_ | with_reducible refine w_sl ?_ | with_reducible refine w_part ?_ | with_reducible refine w_noPart ?_ | with_reducible refine w_repr ?_ | with_reducible refine w_seqI ?_
  | with_reducible refine w_rdI ?_ | with_reducible refine w_rdB ?_ | with_reducible refine w_rdAdd ?_ | with_reducible refine w_neg ?_ | with_reducible refine w_lenL ?_ | with_reducible refine w_lenT ?_ | with_reducible refine w_abs ?_ | with_reducible refine w_int ?_ | with_reducible refine w_intB ?_ | with_reducible refine w_gcd ?_
  | with_reducible refine w_gname ?_ | with_reducible refine w_gnil ?_ | with_reducible refine w_gcons ?_
  | with_reducible refine w_true ?_ | with_reducible refine w_false ?_
  | dsimp only [truthD, seqD, isNonD, permL, List.filterMap] | with_reducible refine w_drop ?_ | with_reducible refine w_retN ?_ | with_reducible refine w_nilP ?_ | with_reducible refine w_consP ?_ | with_reducible refine w_rng ?_ | with_reducible refine w_cont ?_ | with_reducible refine w_brk ?_)
local macro_rules | `(tactic| walk_at "z") => `(tactic| repeat walk_at "z1")
open PySem L2 PySem.Spec PyProof.Rows

/-! ### repr of a list that holds dicts of plain values -/
def scalPy : D → Option PyData | .non => some .none | .bl b => some (.bool b) | .int i => some (.int i) | .str x => some (.str x) | _ => none
def keyPy : Key → PyData | .inl i => .int i | .inr x => .str x
def kvPy : List (Key × D) → Option (List (PyData × PyData))
  | [] => some []
  | (k, d) :: r => match scalPy d, kvPy r with | some p, some q => some ((keyPy k, p) :: q) | _, _ => none
def toPyE (d : D) : Option PyData := match d with | .dct kvs => (kvPy kvs).map .dict | d => toPy d
def toPyEs : List D → Option (List PyData)
  | [] => some []
  | x :: xs => match toPyE x, toPyEs xs with | some p, some ps => some (p :: ps) | _, _ => none
/-- values that are read, none of which has the table of modules -/
inductive SafeAll (h : Heap) : List Value → List PyData → Prop
  | nil : SafeAll h [] []
  | cons {v d as vs ds} : Reads h v d as → (d.hasDict = true → sysModules ∉ as) → SafeAll h vs ds → SafeAll h (v :: vs) (d :: ds)
theorem SafeAll.reads {h : Heap} : ∀ {vs : List Value} {ds : List PyData}, SafeAll h vs ds → ∃ as, ReadsAll h vs ds as
  | _, _, .nil => ⟨_, .nil⟩
  | _, _, .cons r _ t => let ⟨_, q⟩ := t.reads; ⟨_, .cons r q⟩
theorem SafeAll.shows {prog : Program} {w : World} {h : Heap} : ∀ {vs : List Value} {ds : List PyData}, SafeAll h vs ds → PyData.showableAll ds = true → (∀ t ∈ PyData.shownAll ds, t.length ≤ sizeLine) → ∃ bs, ReadAtMost h (PyData.depthAll ds) bs ∧ ReprAllK prog w bs h (PyData.depthAll ds) vs (PyData.shownAll ds)
  | _, _, .nil, _, _ => ⟨[], (fun b q => absurd q List.not_mem_nil), .nil⟩
  | _, _, .cons (d := d) (ds := ds) r nf t, hs, hz => by
    simp only [PyData.showableAll, Bool.and_eq_true] at hs
    simp only [PyData.shownAll, List.mem_cons] at hz
    obtain ⟨b1, m1, q1⟩ := ReprK.of_reads (prog := prog) (w := w) r hs.1 nf (hz _ (.inl rfl))
    obtain ⟨b2, m2, q2⟩ := t.shows (prog := prog) (w := w) hs.2 fun x hx => hz x (.inr hx)
    simp only [PyData.depthAll, PyData.shownAll]
    exact ⟨b1 ++ b2, (m1.mono (Nat.le_max_left _ _)).append (m2.mono (Nat.le_max_right _ _)), .cons ((q1.more fun b hb => List.mem_append_left _ hb).level_le (Nat.le_max_left _ _)) (q2.more_le (fun b hb => List.mem_append_right _ hb) (Nat.le_max_right _ _))⟩
theorem repr_safe {prog : Program} {w : World} {A : Around} {E : Value → Shared → Prop} {s : Shared} {Q : Value → Shared → Prop} {a : Addr} {o : Obj} {its : List Value} {n : Nat} {ds : List PyData} (ha : s.heap.get? a = some o) (hc : o.cls = .type "list") (hd : o.data = .seq its.toArray n) (sa : SafeAll s.heap its ds)
    (ok : okRepr (.list ds)) (hg : A.guards = some []) (hu : A.units + 66 < cLine) (hQ : ∀ h' u tk, (∀ b o, s.heap.get? b = some o → h'.get? b = some o) → Q (.str (PyData.list ds).shown u) { s with heap := h', toks := tk }) : wpAny (model prog w) A (call (.builtin "repr") [.ref a]) Q E s := by
  obtain ⟨h1, h2, h3⟩ := ok
  have z : (listText (PyData.shownAll ds)).length ≤ sizeLine := by rw [sizeLine_eq]; simpa only [PyData.shown] using h2
  simp only [PyData.showable] at h1
  simp only [PyData.depth] at h3
  simp only [PyData.shown] at hQ
  obtain ⟨as, hr⟩ := sa.reads
  obtain ⟨bs, hb, hk⟩ := sa.shows (prog := prog) (w := w) h1 fun t ht => Nat.le_trans (listText_mem_le ht) z
  have na : a ∉ bs := not_mem_of_deeper (.list ha hc hd hr) (by simp only [PyData.depth]; omega) hb
  refine call_repr_slot (by omega) ⟨o, ha, hc⟩ F.slot_list_repr.toG ?_
  cases its with
  | nil =>
    cases sa
    simp only [PyData.shownAll, listText_nil] at hQ
    exact call_list_repr_empty ⟨o, ha, hc⟩ ha hd ⟨_, _, rfl, hQ s.heap _ _ fun _ _ e => e⟩
  | cons x l =>
    exact call_list_reprK ha hc hd na (by simpa using hk.length_eq) (fun i y e => hk.item i y (by simpa using e)) hg (fun b _ => Clear.nil b) (by show A.units + 1 + _ < cLine; omega) (fun _ _ e => e) (fun h' u tk kk => ⟨_, _, rfl, hQ h' u tk kk⟩) z
section
variable {X : Cx} {pins : List (Addr × Obj)} {σ : L2.St} {H : Hp} {s : Shared} {M : MH}
theorem scal_reads {v : V} {u : Value} {d : D} {p : PyData} (rp : Rep X.K H M v d) (r : RelV v u) (e : scalPy d = some p) : Reads s.heap u p [] := by
  cases rp <;> simp only [scalPy] at e <;> first | cases e | skip
  · cases r; exact .none
  · cases r; exact .bool _
  · obtain ⟨t, rfl⟩ := r; exact .int _ t
  · obtain ⟨t, rfl⟩ := r; exact .str _ t
theorem kv_reads {P : Program} {w : World} : ∀ {kvs : List (Key × V)} {kds : List (Key × D)} {ps : List (PyData × PyData)} {vs : List (Key × Value)} {es : List DictEntry}, RepK X.K H M kvs kds → KV kvs vs → Pairs (mixKind P w) es vs → kvPy kds = some ps →
    ReadsAll s.heap (es.map (·.key)) (ps.map (·.1)) [] ∧ ReadsAll s.heap (es.map (·.val)) (ps.map (·.2)) []
  | _, _, _, _, _, .nil, .nil, .nil, e => by cases e; exact ⟨.nil, .nil⟩
  | _, _, _, _, _, .cons (k := k) (d := d) (ds := ds) rv rr, .cons rk rt, .cons hk hv pr, e => by
    simp only [kvPy] at e
    cases e1 : scalPy d with
    | none => rw [e1] at e; cases e
    | some p =>
      cases e2 : kvPy ds with
      | none => rw [e1, e2] at e; cases e
      | some q =>
        rw [e1, e2] at e
        cases e
        obtain ⟨q1, q2⟩ := kv_reads (P := P) (w := w) rr rt pr e2
        have hv' := scal_reads (s := s) rv (hv ▸ rk.2) e1
        have hk' : ∀ ky, keyIs k ky = true → Reads s.heap ky (keyPy k) [] := fun ky h => by
          rcases keyIs_shape h with ⟨i, t, rfl, rfl⟩ | ⟨x, t, rfl, rfl⟩
          · exact .int i t
          · exact .str x t
        exact ⟨.cons (as := []) (bs := []) (hk' _ (by have e0 := rk.1; dsimp only at e0; rw [e0]; exact hk)) q1, .cons (as := []) (bs := []) hv' q2⟩
theorem safe_all (I : Inv X pins σ H s) (mu : Mut X.K H M) : ∀ {vs : List V} {ds : List D} {us : List Value} {ps : List PyData}, Reps X.K H M vs ds → Vals vs us → toPyEs ds = some ps → SafeAll s.heap us ps
  | _, _, _, _, .nil, .nil, e => by cases e; exact .nil
  | _, _, _, _, .cons (v := v) (d := d) (ds := ds) rp rr, .cons r rs, e => by
    simp only [toPyEs] at e
    cases e1 : toPyE d with
    | none => rw [e1] at e; cases e
    | some p =>
      cases e2 : toPyEs ds with
      | none => rw [e1, e2] at e; cases e
      | some q =>
        rw [e1, e2] at e
        cases e
        have t := safe_all I mu rr rs e2
        unfold toPyE at e1
        split at e1
        · rename_i kvs
          cases rp with
          | dct m hd rk =>
            cases r
            cases ek : kvPy kvs with
            | none => rw [ek] at e1; cases e1
            | some ps =>
              rw [ek] at e1
              cases e1
              obtain ⟨_, hm, vs, kv, o, es, ep, h1, h2, h3, _, h5, _⟩ := (show ObjOk X.prog X.w H s.heap _ (.dK _) from I.hok _ _ hd)
              obtain ⟨q1, q2⟩ := kv_reads (s := s) rk kv h5 ek
              exact .cons (.dict (as := []) (bs := []) h1 h2.1 h3 q1 q2) (fun _ hh => by rw [List.append_nil, List.mem_singleton] at hh; rw [← hh] at hm; simp at hm) t
        · obtain ⟨as, hr⟩ := Dp.reads I p v _ (toPy_dp rp e1) r
          exact .cons hr (fun z => by rw [toPy_noDict _ _ e1] at z; cases z) t
def tReprE (t : TED) : TED := fun W τ M Q => t W τ M fun d M1 => match d with | .lst xs => (match toPyEs xs with | some ps => okRepr (.list ps) ∧ Q (.str (PyData.list ps).shown) M1 | none => False) | _ => False
end
section
variable {X : Cx}
theorem pd_reprE {a : Expr} {ta : TED} {pos p : Pos} (hgd : X.A.guards = some []) (hu : X.A.units + 66 < cLine) (hm : X.mg "repr" = none) (ha : PD X a ta) (hg : Gl X "repr" := by rfl) (he : starEach [a] X.env = (false, eval a X.env) :: starEach [] X.env := by rfl) (hpl : (backTo pos (starEach [] X.env)).any (·.1) = false := by rfl) :
    PD X (.Call (.Name "repr" p) [a] [] pos) (tReprE ta) := fun pn xe H0 M0 W at_ => by
  refine ⟨fun pins s σ H Q I ⟨τ, M, F, g0, sl, mu, h, k⟩ => ?_⟩
  refine wpAny_Call_Name_kw (ld_blt I hg hm (show bootBuiltins "repr" = some (.builtin "repr") by decide +kernel) ?_ (by decide) (by decide))
  refine PyProof.Rows.callWith_builtin1 (thn ((pa_cons (X := X.tr pn xe) (ha pn xe H0 M0 W at_) pa_nil he).run pos pins s σ H (fun vs H1 => ∃ v xs M1 ps, vs = [v] ∧ Good H M H1 M1 ∧ Mut X.K H1 M1 ∧ Rep X.K H1 M1 v (.lst xs) ∧ toPyEs xs = some ps ∧ okRepr (.list ps) ∧ F (.str (PyData.list ps).shown) M1) I ?_) fun us s1 ⟨vs, H1, I1, r1, v, xs, M1, ps, ev, g1, mu1, rp, e, ok, q⟩ => ?_) he hpl
  · exact upE_fin g0 sl mu h fun v H1 d M1 g1 mu1 r1 q => by
      cases d with
      | lst xs =>
        dsimp only at q
        cases e : toPyEs xs with
        | none => rw [e] at q; exact q.elim
        | some ps => rw [e] at q; exact ⟨v, xs, M1, ps, rfl, g1, mu1, r1, e, q.1, q.2⟩
      | _ => exact q.elim
  · subst ev
    cases r1 with
    | cons r rs =>
      cases rs
      cases rp with
      | lst rr rs =>
        cases r
        obtain ⟨its, rv, ⟨o, n, ho, hc, _, hd⟩, _⟩ := I1.list rr.sq
        refine repr_safe ho hc hd (safe_all (X := X.tr pn xe) I1 mu1 rs rv e) ok hgd hu fun h' u tk kk => ⟨.str (PyData.list ps).shown, H1, I1.kept kk, ⟨u, rfl⟩, k _ H1 _ M1 g1 mu1 (.str _) q⟩
end
end Z

set_option Elab.async false
set_option linter.all false
set_option maxRecDepth 100000
set_option maxHeartbeats 4000000
namespace Z
local macro_rules | `(tactic| walk_at "z at") => `(tactic| first | rfl | (simp only [atI, ixN, List.length_cons, List.length_nil, List.length_map]; rfl) | assumption)
local macro_rules | `(tactic| walk_at "z1") => `(tactic| first
  | with_reducible refine w_seq ?_ | with_reducible refine w_set ?_ | with_reducible refine w_ret ?_ | with_reducible refine w_if ?_ | with_reducible refine w_asg ?_ | with_reducible refine w_next ?_ | with_reducible refine w_setIx ?_ | with_reducible refine w_par ?_
  | ((with_reducible refine' w_var ?h ?_); (case h => exact rfl))
  | with_reducible refine w_c ?_ | with_reducible refine w_op ?_ | with_reducible refine w_un ?_ | with_reducible refine w_cons ?_ | with_reducible refine w_nil ?_ | with_reducible refine w_cb ?_
  | with_reducible refine w_call ?_ | with_reducible refine w_callK ?_ | with_reducible refine w_testB ?_ | with_reducible refine w_tru ?_ | with_reducible refine w_andD ?_ | with_reducible refine w_orD ?_ | with_reducible refine w_notD ?_
  | with_reducible refine w_andE ?_ | with_reducible refine w_orE ?_ | with_reducible refine w_notE ?_ | with_reducible refine w_ifE ?_ | with_reducible refine w_is ?_ | with_reducible refine w_isN ?_ | with_reducible refine w_notN ?_ | with_reducible refine w_tupOf ?_
  | with_reducible refine w_tup ?_ | with_reducible refine w_lst ?_ | with_reducible refine w_lstM ?_ | with_reducible refine w_sl ?_ | with_reducible refine w_part ?_ | with_reducible refine w_noPart ?_ | with_reducible refine w_repr ?_ | with_reducible refine w_seqI ?_
  | with_reducible refine w_rdI ?_ | with_reducible refine w_rdB ?_ | with_reducible refine w_rdAdd ?_ | with_reducible refine w_neg ?_ | with_reducible refine w_lenL ?_ | with_reducible refine w_lenT ?_ | with_reducible refine w_abs ?_ | with_reducible refine w_int ?_ | with_reducible refine w_intB ?_ | with_reducible refine w_gcd ?_
  | with_reducible refine w_gname ?_ | with_reducible refine w_gnil ?_ | with_reducible refine w_gcons ?_
  | with_reducible refine w_true ?_ | with_reducible refine w_false ?_
  | dsimp only [truthD, seqD, isNonD, permL, List.filterMap] | with_reducible refine w_drop ?_ | with_reducible refine w_retN ?_ | with_reducible refine w_nilP ?_ | with_reducible refine w_consP ?_ | with_reducible refine w_rng ?_ | with_reducible refine w_cont ?_ | with_reducible refine w_brk ?_)
local macro_rules | `(tactic| walk_at "z") => `(tactic| repeat walk_at "z1")
open PySem L2 PySem.Spec PyProof.Rows

/-! ### list + list -/
def rCatL (K : PySem.W.Frag) : R2 := fun x y H Q => ∃ l b xs zs, x = .ref l ∧ y = .ref b ∧ SqL K H l xs ∧ SqL K H b zs ∧ xs.length + zs.length ≤ sizeLine ∧ ∀ p, H p = none → Q (.ref p) (upd H p (.lst (xs ++ zs)))
theorem op_catL {X : Cx} : OpR X (binaryOp .Add) (rCatL X.K) := by
  intro pins s σ H x y v u Q I rx ry h
  obtain ⟨l, b, xs, zs, rfl, rfl, hH, hB, hz, q⟩ := h
  cases rx
  cases ry
  obtain ⟨its, r, ⟨⟨cls, dd, data, sl⟩, n, ho, hc, _, hd⟩, _⟩ := I.list hH
  obtain ⟨its2, r2, ⟨⟨cls2, dd2, data2, sl2⟩, n2, ho2, hc2, _, hd2⟩, _⟩ := I.list hB
  simp only at hc hd hc2 hd2
  subst hc hd hc2 hd2
  have hl := r.length
  have hl2 := r2.length
  refine concat_meets ⟨_, ho, rfl⟩ ⟨_, ho2, rfl⟩ noFill_list_add seq_list_add PySem.F.slot_list_add PySem.F.entry_list_add (PySem.F.args_list_add_2 _ _) (list_addW l b its.toArray its2.toArray n n2 dd dd2 sl sl2 (by rw [List.size_toArray, List.size_toArray]; omega)) ⟨ho, ho2, ?_⟩
  have ea : its.toArray ++ its2.toArray = (its ++ its2).toArray := by simp
  rw [ea]
  exact ⟨.ref _, _, I.lnew (t' := s.toks) (r.append r2) (by rw [List.length_append]; omega), rfl, q _ I.fresh⟩
def rdCatL : R2D := fun d e M F => match d, e with
  | .lst xs, .lst ys => decide (xs.length + ys.length ≤ 16777216) = true ∧ F (.lst (xs ++ ys)) M
  | _, _ => False
theorem simCatL {K : PySem.W.Frag} : SimOp K (rCatL K) rdCatL := fun x y d e H M F Q rx ry mu h k => by
  unfold rdCatL at h
  split at h
  · cases rx with
    | lst rr rs =>
      cases ry with
      | lst rr2 rs2 =>
        refine ⟨_, _, _, _, rfl, rfl, rr.sq, rr2.sq, by rw [rs.length, rs2.length]; exact szl h.1, fun p hp => ?_⟩
        exact k _ _ _ _ (good_new hp) (mut_new mu hp) (.lst (.inl ⟨mut_none mu hp, .inl upd_same⟩) ((rs.append rs2).good (good_new hp))) h.2
  · exact h.elim
theorem w_catL {xs ys : List D} {M : MH} {Q : QD} (h1 : xs.length + ys.length ≤ 16777216) (h : Q (.lst (xs ++ ys)) M) : rdCatL (.lst xs) (.lst ys) M Q := ⟨decide_eq_true h1, h⟩
section
variable {X : Cx} {a b e : Expr} {ta tb te : TED} {pos p p2 : Pos}
theorem pd_cat (ha : PD X a ta) (hb : PD X b tb) : PD X (.BinOp a .Add b pos) (tOpD rdCatL ta tb) := pd_op (fun _ _ => op_catL) simCatL ha hb

/-! ### enumerate of a list -/
def numL : Nat → List D → List D
  | _, [] => []
  | n, x :: r => .tup [.int (n : Int), x] :: numL (n + 1) r
theorem numL_len : ∀ (n : Nat) (xs : List D), (numL n xs).length = xs.length
  | _, [] => rfl
  | n, x :: r => by simp [numL, numL_len (n + 1) r]
theorem numL_get : ∀ (n : Nat) (xs : List D) (i : Nat) (d : D), (numL n xs)[i]? = some d → ∃ x, xs[i]? = some x ∧ d = .tup [.int ((n + i : Nat) : Int), x]
  | _, [], _, _, e => by simp [numL] at e
  | n, x :: r, 0, d, e => by simp [numL] at e; exact ⟨x, rfl, e.symm⟩
  | n, x :: r, i + 1, d, e => by
    obtain ⟨y, h1, h2⟩ := numL_get (n + 1) r i d (by simpa [numL] using e)
    exact ⟨y, by simpa using h1, by rw [h2]; congr 4; omega⟩
def iEnumD (te : TED) : TAD := fun W τ M Q => te W τ M fun d M1 => match d with | .lst xs => Q (numL 0 xs) M1 | _ => False
theorem pdi_enum {tpos : Pos} {elts : List Expr} {kk : Nat} (hm : X.mg "enumerate" = none) (ha : PD X e te) (hg : Gl X "enumerate" := by rfl) (hs : starEach [e] X.env = [(false, eval e X.env)] := by rfl) :
    PDI X (.Tuple elts kk tpos) (.Call (.Name "enumerate" p) [e] [] pos) (iEnumD te) := fun pn xe H0 M0 W at_ =>
  imI (pi_enum (X := X.tr pn xe) hg hm (pa_cons (X := X.tr pn xe) (ha pn xe H0 M0 W at_) pa_nil hs) hs) fun σ H R ⟨τ, M, F, g0, sl, mu, h, k⟩ => upE_fin g0 sl mu h fun v H1 d M1 g1 mu1 r1 q => by
    cases r1 with
    | lst rr rs =>
      refine ⟨_, _, rfl, rr.sq, k _ H1 _ M1 g1 mu1 (fun H2 M2 g2 mu2 => ⟨fun i d hd => ?_, ⟨_, (rr.good g2).sq, by rw [numL_len]; exact Nat.le_of_eq rs.length⟩⟩) q⟩
      obtain ⟨x, hx, rfl⟩ := numL_get _ _ _ _ hd
      obtain ⟨v, hv, rv⟩ := (rs.good g2).get hx
      refine ⟨⟨_, v, (rr.good g2).sq, hv⟩, fun y H3 ⟨T, w, e1, hT, e3, hw⟩ => ?_⟩
      have := hw _ (rr.good g2).sq
      rw [hv] at this
      cases this
      subst e1 e3
      rw [Nat.zero_add]
      exact ⟨good_new hT, mut_new mu2 hT, .tup (.inl ⟨mut_none mu2 hT, .inl upd_same⟩) (.cons (.int _) (.cons (rv.good (good_new hT)) .nil))⟩
    | _ => exact q.elim
theorem w_enum {W : WD} {τ : EnvD} {M : MH} {QA : List D → MH → Prop} (h : te W τ M fun d M1 => match d with | .lst xs => QA (numL 0 xs) M1 | _ => False) : iEnumD te W τ M QA := h

/-! ### own errors: asked, caught, their fields -/
def subX (all : List Addr) (L D : Addr) : Addr → Option Bool := fun C => if C ∈ all then some (decide (C = D) || decide (D = L)) else none
theorem subX_in {all : List Addr} {L D C : Addr} (h : C ∈ all) : subX all L D C = some (decide (C = D) || decide (D = L)) := if_pos h
def subV (all : List Addr) : Addr → Option Bool := fun C => if C ∈ all then some true else none
theorem subV_in {all : List Addr} {C : Addr} (h : C ∈ all) : subV all C = some true := if_pos h
theorem pd_isX {x : Str} {all : List Addr} {L D : Addr} {fl : List Str} (hx : ∀ C ∈ all, ExG X.K L C fl) (hD : D ∈ all) (hi : X.mg "isinstance" = none) (hm : X.mg x = some (.ref D)) (ha : PD X a ta) (hg : Gl X x := by rfl) (hd : (x == ("__debug__" : Str)) = false := by decide)
    (hg2 : Gl X "isinstance" := by rfl) (he : starEach [a, .Name x p] X.env = (false, eval a X.env) :: starEach [.Name x p] X.env := by rfl) (he2 : starEach [.Name x p] X.env = [(false, eval (.Name x p) X.env)] := by rfl) (hpl : (backTo pos (starEach [.Name x p] X.env)).any (·.1) = false := by rfl) :
    PD X (.Call (.Name "isinstance" p2) [a, .Name x p] [] pos) (tIs (isE (subX all L D)) ta) :=
  pd_isE (cn := x) (cv := .ref D) hi ha (fun pn xe => ⟨.ref D, fun u r => r, pe_glob (X := X.tr pn xe) hg hm rfl hd⟩)
    (fun C b e => by
      unfold subX at e
      split at e
      · rename_i hC
        cases e
        exact ⟨(hx C hC).k, exg_kit (hx C hC) (hx D hD)⟩
      · cases e) hg2 he he2 hpl
theorem pd_isV {all : List Addr} {L : Addr} {fl : List Str} (hx : ∀ C ∈ all, ExG X.K L C fl) (hi : X.mg "isinstance" = none) (hm : X.mg "ValueError" = none) (ha : PD X a ta) (hg : Gl X "ValueError" := by rfl)
    (hg2 : Gl X "isinstance" := by rfl) (he : starEach [a, .Name "ValueError" p] X.env = (false, eval a X.env) :: starEach [.Name "ValueError" p] X.env := by rfl) (he2 : starEach [.Name "ValueError" p] X.env = [(false, eval (.Name "ValueError" p) X.env)] := by rfl) (hpl : (backTo pos (starEach [.Name "ValueError" p] X.env)).any (·.1) = false := by rfl) :
    PD X (.Call (.Name "isinstance" p2) [a, .Name "ValueError" p] [] pos) (tIs (isE (subV all)) ta) :=
  pd_isE (cn := "ValueError") (cv := .type "ValueError") hi ha (fun pn xe => ⟨.ty "ValueError", fun u r => r, pe_tag hm (by decide +kernel) hg (by decide) (by decide) pn xe⟩)
    (fun C b e => by
      unfold subV at e
      split at e
      · rename_i hC
        cases e
        exact ⟨(hx C hC).k, exg_ve (hx C hC)⟩
      · cases e) hg2 he he2 hpl
def tFldA (all : List Addr) (f : Str) (t : TED) : TED := fun W τ M Q => t W τ M fun d M1 => match d with | .exn C fs => C ∈ all ∧ (match fs.lookup f with | some x => Q x M1 | none => False) | _ => False
theorem pd_fldA {f : Str} {all : List Addr} {L : Addr} {fl : List Str} (hx : ∀ C ∈ all, ExG X.K L C fl) (hf : f ∈ fl) (ha : PD X a ta) (hb : attributeBase a f X.env (eval a X.env) = eval a X.env := by rfl) : PD X (.Attribute a f pos) (tFldA all f ta) :=
  pd_fldX (fun C => C ∈ all) ha (fun _ _ _ => trivial) (fun C h => ⟨(hx C h).k, (hx C h).nf f hf⟩) hb
theorem w_fldA {all : List Addr} {f : Str} {W : WD} {τ : EnvD} {M : MH} {Q : QD} (h : te W τ M fun d M1 => match d with | .exn C fs => C ∈ all ∧ (match fs.lookup f with | some x => Q x M1 | none => False) | _ => False) : tFldA all f te W τ M Q := h
theorem w_raise {C : Addr} {fl : List D → List (Str × D)} {tr : TAD} {W : WD} {F : EndsD} {τ : EnvD} {M : MH} (h : tr W τ M fun ds M1 => W C (fl ds) τ M1) : tRaiseD C fl tr W F τ M := h
theorem w_tryK {ex : Addr → Option Bool} {i j : Nat} {tb : TSD} {W : WD} {F : EndsD} {τ : EnvD} {M : MH} (h : tb (fun C fs τ' M' => ∃ b, ex C = some b ∧ (b = true → i < τ'.length ∧ F.nx (setN (setN τ' j (some (.exn C fs))) i none) M') ∧ (b = false → W C fs τ' M')) F τ M) : tTryK ex i j tb W F τ M := h
theorem try_in {all : List Addr} {C : Addr} {P R : Prop} (h1 : C ∈ all) (h : P) : ∃ b, subV all C = some b ∧ (b = true → P) ∧ (b = false → R) := ⟨true, subV_in h1, fun _ => h, fun z => nomatch z⟩
theorem exm_all {K : PySem.W.Frag} {all : List Addr} {L : Addr} {fl : List Str} (hx : ∀ C ∈ all, ExG K L C fl) (h1 : PySem.W.subIn K (.ref L) (.type "BaseException") = some true) (hd : PySem.W.hasDictIn K L = true) (ht : PySem.W.typeIn K (.ref L) = some (.type "type")) :
    ∀ C b, subV all C = some b → PySem.W.exmOne K (.ref C) (.ref L) = some b := fun C b e => by
  unfold subV at e
  split at e
  · rename_i hC
    cases e
    exact exg_exm (hx C hC) h1 hd ht
  · cases e
end

/-! ### what an own __init__ does -/
theorem ost1 {K : PySem.W.Frag} {C : Addr} {f p : Str} {N : List Str} {vs : List V} {H : Hp} {Q : VK} {E : XK} (hN : N.length = 2) (T : ExK K C) (nf : PySem.W.findIn K (.ref C) f = some none) (h : spI1 C f vs H Q E) :
    tOst K f (tVar 0) (tVar 1) { nx := fun _ H' => Q .non H', rt := Q } (L2.start N vs) H := by
  obtain ⟨a, v, rfl, e, k⟩ := h
  have es : L2.start N [.ref a, v] = [some (.ref a), some v] := by unfold L2.start; rw [hN]; rfl
  rw [es]
  exact ⟨v, rfl, .ref a, rfl, a, C, rfl, T.o, nf, .inl ⟨e, k⟩⟩
theorem ost2 {K : PySem.W.Frag} {C : Addr} {f g p : Str} {N : List Str} {vs : List V} {H : Hp} {Q : VK} {E : XK} (hN : N.length = 3) (T : ExK K C) (nf : PySem.W.findIn K (.ref C) f = some none) (ng : PySem.W.findIn K (.ref C) g = some none) (h : spI2 C f g vs H Q E) :
    tSeq (tOst K f (tVar 0) (tVar 1)) (tOst K g (tVar 0) (tVar 2)) { nx := fun _ H' => Q .non H', rt := Q } (L2.start N vs) H := by
  obtain ⟨a, v, w, rfl, e, k⟩ := h
  have es : L2.start N [.ref a, v, w] = [some (.ref a), some v, some w] := by unfold L2.start; rw [hN]; rfl
  rw [es]
  refine ⟨v, rfl, .ref a, rfl, a, C, rfl, T.o, nf, .inl ⟨e, fun dx hdx ne => ?_⟩⟩
  refine ⟨w, rfl, .ref a, rfl, a, C, rfl, T.o, ng, .inr ⟨dx, [(f, v)], upd_same, by rw [upd_ne ne]; exact upd_same, by show 1 ≤ 900; decide, ?_⟩⟩
  exact k dx hdx ne
end Z

set_option Elab.async false
set_option linter.all false
set_option maxRecDepth 100000
set_option maxHeartbeats 4000000
/-! A lambda, with a default or none: how it is made, how it is called by whoever got it. -/
namespace Z
local macro_rules | `(tactic| walk_at "z at") => `(tactic| first | rfl | (simp only [atI, ixN, List.length_cons, List.length_nil, List.length_map]; rfl) | assumption)
local macro_rules | `(tactic| walk_at "z1") => `(tactic| first
  | with_reducible refine w_seq ?_ | with_reducible refine w_set ?_ | with_reducible refine w_ret ?_ | with_reducible refine w_if ?_ | with_reducible refine w_asg ?_ | with_reducible refine w_next ?_ | with_reducible refine w_setIx ?_ | with_reducible refine w_par ?_
  | ((with_reducible refine' w_var ?h ?_); (case h => exact rfl))
  | with_reducible refine w_c ?_ | with_reducible refine w_op ?_ | with_reducible refine w_un ?_ | with_reducible refine w_cons ?_ | with_reducible refine w_nil ?_ | with_reducible refine w_cb ?_
  | with_reducible refine w_call ?_ | with_reducible refine w_callK ?_ | with_reducible refine w_testB ?_ | with_reducible refine w_tru ?_ | with_reducible refine w_andD ?_ | with_reducible refine w_orD ?_ | with_reducible refine w_notD ?_
  | with_reducible refine w_andE ?_ | with_reducible refine w_orE ?_ | with_reducible refine w_notE ?_ | with_reducible refine w_ifE ?_ | with_reducible refine w_is ?_ | with_reducible refine w_isN ?_ | with_reducible refine w_notN ?_ | with_reducible refine w_tupOf ?_
  | with_reducible refine w_tup ?_ | with_reducible refine w_lst ?_ | with_reducible refine w_lstM ?_ | with_reducible refine w_sl ?_ | with_reducible refine w_part ?_ | with_reducible refine w_noPart ?_ | with_reducible refine w_repr ?_ | with_reducible refine w_seqI ?_
  | with_reducible refine w_rdI ?_ | with_reducible refine w_rdB ?_ | with_reducible refine w_rdAdd ?_ | with_reducible refine w_neg ?_ | with_reducible refine w_lenL ?_ | with_reducible refine w_lenT ?_ | with_reducible refine w_abs ?_ | with_reducible refine w_int ?_ | with_reducible refine w_intB ?_ | with_reducible refine w_gcd ?_
  | with_reducible refine w_gname ?_ | with_reducible refine w_gnil ?_ | with_reducible refine w_gcons ?_
  | with_reducible refine w_true ?_ | with_reducible refine w_false ?_
  | dsimp only [truthD, seqD, isNonD, permL, List.filterMap] | with_reducible refine w_drop ?_ | with_reducible refine w_retN ?_ | with_reducible refine w_nilP ?_ | with_reducible refine w_consP ?_ | with_reducible refine w_rng ?_ | with_reducible refine w_cont ?_ | with_reducible refine w_brk ?_)
local macro_rules | `(tactic| walk_at "z") => `(tactic| repeat walk_at "z1")
open PySem L2 PySem.Spec PyProof.Rows
def zFn (q : Str) (ps : Arguments) (b : Expr) (sc : Scope) (cl : List (Str × Addr)) (pm cv ct dV : Value) : FuncData :=
  { name := "<lambda>", qualname := q, params := ps, body := .expr b, scope := sc, globals := mainGlobals, closure := cl, closureTuple := ct, code := cv, builtins := builtinsNs, defaults := dV, kwdefaults := .none, annotations := none, pyModule := pm, doc := .none }
def zOb (q : Str) (ps : Arguments) (b : Expr) (sc : Scope) (cl : List (Str × Addr)) (pm cv ct dV : Value) : Obj := { cls := .type "function", data := .func (zFn q ps b sc cl pm cv ct dV) }
def tabO (tb : Array Value) : Obj := { cls := .none, data := .fields tb }
section
variable {M : Model} {A : Around} {E : Value → Shared → Prop} {s : Shared} {q : Str} {ps : Arguments} {b : Expr} {sc : Scope} {env : Env} {c P : Addr} {tb : Array Value} {pos : Pos} {n : Nat} {mg : Str → Option Value} {cl : List (Str × Addr)} {dV : Value} {Q : Value → Shared → Prop}
theorem zt_miss (k1 : closureFor sc env = pure cl) (k2 : env.globals = mainGlobals) (k3 : s.heap.Ns mainGlobals mg) (k4 : env.code = .ref c) (k5 : PySem.W.CodeHd s.heap c P) (k6 : s.heap.get? P = some (tabO tb)) (k7 : TriplesOk tb.toList) (k8 : codeAmong pos tb.toList = none) (k9 : mainGlobals ≠ P) (k10 : s.heap.BuiltinsAt mg P)
    (fin : ∀ c' ct h' tk, Heap.ExtBut P s.heap h' → s.heap.objs.size ≤ c' → c' < h'.objs.size → h'.CodeRec (.ref c') q → h'.get? P = some (tabO (tb ++ #[rawInt pos.line, rawInt pos.col, .ref c'])) → Q (.ref h'.objs.size) { s with heap := h'.push (zOb q ps b sc cl ((mg "__name__").getD .none) (.ref c') ct dV), toks := tk }) :
    wpAny M A (makeTail "<lambda>" q ps (.expr b) sc env dV .none none pos n) Q E s := by
  obtain ⟨bm, ob, e1, e2, _, e3, e4, e5, e6, e7⟩ := k10
  unfold makeTail
  rw [k1, k2]
  refine wpAny_bind (wpAny_pure ?_)
  cases cl with
  | nil =>
    simp only [List.isEmpty_nil, if_true]
    refine wpAny_bind (wpAny_pure (wpAny_bind (wpAny_functionCodeX k4 (k5.code k6 k7) (k5.tab k6) k8 fun c' h' tk hx hge hlt _ hr ht _ => ?_)))
    have g' := k3.extBut hx k9
    refine wpAny_bind (wpAny_builtinsFor g' e1 e2 (hx _ _ e3 e4) e5 e6 e7 (wpAny_bind (wpAny_nsGet g' ?_)))
    exact wpAny_bind (wpAny_pure (wpAny_newObj_type (fin c' .none h' tk hx hge hlt hr ht.2) (by size_fits)))
  | cons y l =>
    simp only [List.isEmpty_cons, Bool.false_eq_true, if_false]
    have up : ∀ {o : Obj} (b' : Addr) (o' : Obj), s.heap.get? b' = some o' → (s.heap.push o).get? b' = some o' := fun b' o' e => Heap.get?_push_of_some _ e
    refine wpAny_bind (wpAny_newTextTuple (wpAny_bind (wpAny_functionCodeX k4 ((k5.keeps up).code (up _ _ k6) k7) ((k5.keeps up).tab (up _ _ k6)) k8 fun c' h' tk hx hge hlt _ hr ht _ => ?_)))
    have g' := (k3.push _).extBut hx k9
    have hx' : Heap.ExtBut P s.heap h' := fun b o hb' e => hx b o hb' (up _ _ e)
    have hge' : s.heap.objs.size ≤ c' := Nat.le_trans (by rw [Heap.size_push]; omega) hge
    refine wpAny_bind (wpAny_builtinsFor g' e1 e2 (hx' _ _ e3 e4) e5 e6 e7 (wpAny_bind (wpAny_nsGet g' ?_)))
    exact wpAny_bind (wpAny_pure (wpAny_newObj_type (fin c' _ h' tk hx' hge' hlt hr ht.2) (by size_fits)))
theorem zt_hit {cv : Value} (k1 : closureFor sc env = pure cl) (k2 : env.globals = mainGlobals) (k3 : s.heap.Ns mainGlobals mg) (k4 : env.code = .ref c) (k5 : PySem.W.CodeHd s.heap c P) (k6 : s.heap.get? P = some (tabO tb)) (k7 : TriplesOk tb.toList) (k8 : codeAmong pos tb.toList = some cv) (k10 : s.heap.BuiltinsAt mg P)
    (fin : ∀ (ct : Value) (h' : Heap) (tk : Tok), (∀ b o, s.heap.get? b = some o → h'.get? b = some o) → s.heap.objs.size ≤ h'.objs.size → Q (.ref h'.objs.size) { s with heap := h'.push (zOb q ps b sc cl ((mg "__name__").getD .none) cv ct dV), toks := tk }) :
    wpAny M A (makeTail "<lambda>" q ps (.expr b) sc env dV .none none pos n) Q E s := by
  obtain ⟨bm, ob, e1, e2, _, e3, e4, e5, e6, e7⟩ := k10
  unfold makeTail
  rw [k1, k2]
  refine wpAny_bind (wpAny_pure ?_)
  cases cl with
  | nil =>
    simp only [List.isEmpty_nil, if_true]
    refine wpAny_bind (wpAny_pure (wpAny_bind (wpAny_functionCode_hit k4 (k5.code k6 k7) k8 ?_)))
    refine wpAny_bind (wpAny_builtinsFor k3 e1 e2 e4 e5 e6 e7 (wpAny_bind (wpAny_nsGet k3 ?_)))
    exact wpAny_bind (wpAny_pure (wpAny_newObj_type (fin .none s.heap s.toks (fun _ _ e => e) (Nat.le_refl _)) (by size_fits)))
  | cons y l =>
    simp only [List.isEmpty_cons, Bool.false_eq_true, if_false]
    have up : ∀ {o : Obj} (b' : Addr) (o' : Obj), s.heap.get? b' = some o' → (s.heap.push o).get? b' = some o' := fun b' o' e => Heap.get?_push_of_some _ e
    refine wpAny_bind (wpAny_newTextTuple (wpAny_bind (wpAny_functionCode_hit k4 ((k5.keeps up).code (up _ _ k6) k7) k8 ?_)))
    refine wpAny_bind (wpAny_builtinsFor (k3.push _) e1 e2 (up _ _ e4) e5 e6 e7 (wpAny_bind (wpAny_nsGet (k3.push _) ?_)))
    exact wpAny_bind (wpAny_pure (wpAny_newObj_type (fin _ _ s.toks up (by rw [Heap.size_push]; omega)) (by size_fits)))
end
section
variable {X : Cx} {pins : List (Addr × Obj)} {σ : L2.St} {H : Hp} {s : Shared} {q : Str} {ps : Arguments} {b : Expr} {sc : Scope} {c P : Addr} {pos : Pos} {dV : Value} {E : Value → Shared → Prop} {Q : Value → Shared → Prop}
/-- only the table at P is another one, new is just one code object -/
def TabUp (P c' : Addr) (q : Str) (H H1 : Hp) : Prop := H1 = H ∨ ∃ (pos : Pos) (tb : Array Value), H P = some (.tbl tb) ∧ H c' = none ∧ c' ≠ P ∧ H1 = upd (upd H P (.tbl (tb ++ #[rawInt pos.line, rawInt pos.col, .ref c']))) c' (LamX.CodeO c' q)
theorem among_more {pos : Pos} {cv : Value} (l more : List Value) (e : codeAmong pos l = some cv) : codeAmong pos (l ++ more) = some cv := by
  fun_induction codeAmong pos l with
  | case1 line _ col _ x rest h => simp only [List.cons_append, codeAmong, if_pos h]; exact e
  | case2 line _ col _ x rest h ih => simp only [List.cons_append, codeAmong, if_neg h]; exact ih e
  | case3 => cases e
theorem zlam_mk (I : Inv X pins σ H s) (TB : LamX.TabB X.base X.mg c P) (hcode : X.env.code = .ref c) (hT : LamX.TabS H P (X.env.qual ++ "<lambda>")) (hfree : ∀ y ∈ sc.names, y.2 = .free → ∃ c, X.env.cells.lookup y.1 = some c)
    (h : ∀ (f c' : Addr) (H1 : Hp) (s' : Shared) (pm ct : Value), Inv X pins σ (upd H1 f (CloO f (zOb (X.env.qual ++ "<lambda>") ps b sc (cloFrom X.env.cells sc.names []) pm (.ref c') ct dV))) s' → TabUp P c' (X.env.qual ++ "<lambda>") H H1 → LamX.TabS H1 P (X.env.qual ++ "<lambda>") → H1 f = none → (∃ tb : Array Value, H1 P = some (.tbl tb) ∧ codeAmong pos tb.toList = some (.ref c')) → Q (.ref f) s') :
    wpAny (model X.prog X.w) X.A (makeTail "<lambda>" (X.env.qual ++ "<lambda>") ps (.expr b) sc X.env dV .none none pos pos.line) Q E s := by
  obtain ⟨tb, hP, ht, ha⟩ := hT
  have bP : s.heap.BuiltinsAt X.mg P := TB.bm.keeps I.bk
  have hP' : s.heap.get? P = some (tabO tb) := I.hok P _ hP
  have lay : ∀ {H1 : Hp} {s1 : Shared} (o : Obj) (tk : Nat), o.isFreed = false → Inv X pins σ H1 s1 → Inv X pins σ (upd H1 s1.heap.objs.size (CloO s1.heap.objs.size o)) { s1 with heap := s1.heap.push o, toks := tk } := fun {H1 s1} o tk hfr J => by
    have e : (s1.heap.push o).get? s1.heap.objs.size = some o := Heap.get?_push_size _ hfr
    exact J.laid (a := s1.heap.objs.size) (fun b u e => Heap.get?_push_of_some _ e) (Nat.le_refl _) ⟨e, ⟨_, e⟩, fun h1 h2 z st => st _ z⟩
  cases hc : codeAmong pos tb.toList with
  | none =>
    refine zt_miss (mg := X.mg) (c := c) (P := P) (tb := tb) (closure_ok hfree) I.ok.glob (I.mod.glob.keeps I.bk) hcode (TB.code.keeps I.bk) hP' ht hc TB.gP bP fun c' ct h' tk hx hge hlt hrec htb => ?_
    obtain ⟨c2, oc, vs, t, e2, hoc, hd, hv⟩ := hrec
    cases e2
    have hsz : s.heap.objs.size ≤ h'.objs.size := Nat.le_trans hge (Nat.le_of_lt hlt)
    have nC : H c' = none := I.hok.fresh hge
    have nCP : c' ≠ P := fun z => by rw [z, hP] at nC; cases nC
    have I1 := LamX.inv_table (t' := tk) (more := #[rawInt pos.line, rawInt pos.col, .ref c']) (h' := h') I hP (fun b o hb e => hx b o hb e) htb hge ⟨oc, vs, t, hoc, hd, hv⟩
    have eL : (tb ++ #[rawInt pos.line, rawInt pos.col, .ref c']).toList = tb.toList ++ [rawInt pos.line, rawInt pos.col, .ref c'] := by simp
    have atP : upd (upd H P (.tbl (tb ++ #[rawInt pos.line, rawInt pos.col, .ref c']))) c' (LamX.CodeO c' (X.env.qual ++ "<lambda>")) P = some (.tbl (tb ++ #[rawInt pos.line, rawInt pos.col, .ref c'])) := by rw [upd_ne (Ne.symm nCP), upd_same]
    refine h h'.objs.size c' _ _ _ _ (lay _ _ rfl I1) (.inr ⟨pos, tb, hP, nC, nCP, rfl⟩) ⟨_, atP, by rw [eL]; exact PySem.TriplesOk_snoc _ _ _ _ ht, fun p' cv hcv => ?_⟩ ?_ ⟨_, atP, by rw [eL]; exact PySem.codeAmong_snoc _ ht hc⟩
    · rw [eL] at hcv
      rcases LamX.among_app _ ht hcv with z | z
      · obtain ⟨c0, e1, e2⟩ := ha p' cv z
        refine ⟨c0, e1, ?_⟩
        rw [upd_ne (ne_of_none e2 nC), upd_ne fun z => by rw [z, hP] at e2; exact LamX.codeO_ne tb (Option.some.inj e2).symm]
        exact e2
      · exact ⟨c', z, upd_same⟩
    · have n1 : h'.objs.size ≠ c' := Nat.ne_of_gt hlt
      have n2 : h'.objs.size ≠ P := Nat.ne_of_gt (Nat.lt_of_lt_of_le (Heap.lt_size hP') hsz)
      rw [upd_ne n1, upd_ne n2]
      exact I.hok.fresh hsz
  | some cv =>
    obtain ⟨c', e, hco⟩ := ha pos cv hc
    subst e
    refine zt_hit (mg := X.mg) (c := c) (P := P) (tb := tb) (closure_ok hfree) I.ok.glob (I.mod.glob.keeps I.bk) hcode (TB.code.keeps I.bk) hP' ht hc bP fun ct h' tk hx hsz => ?_
    have I1 : Inv X pins σ H { s with heap := h', toks := tk } := I.kept hx
    exact h h'.objs.size c' H _ _ _ (lay _ _ rfl I1) (.inl rfl) ⟨tb, hP, ht, ha⟩ (I.hok.fresh hsz) ⟨tb, hP, hc⟩
end
end Z

set_option Elab.async false
set_option linter.all false
set_option maxRecDepth 100000
set_option maxHeartbeats 4000000
namespace Z
local macro_rules | `(tactic| walk_at "z at") => `(tactic| first | rfl | (simp only [atI, ixN, List.length_cons, List.length_nil, List.length_map]; rfl) | assumption)
local macro_rules | `(tactic| walk_at "z1") => `(tactic| first
  | with_reducible refine w_seq ?_ | with_reducible refine w_set ?_ | with_reducible refine w_ret ?_ | with_reducible refine w_if ?_ | with_reducible refine w_asg ?_ | with_reducible refine w_next ?_ | with_reducible refine w_setIx ?_ | with_reducible refine w_par ?_
  | ((with_reducible refine' w_var ?h ?_); (case h => exact rfl))
  | with_reducible refine w_c ?_ | with_reducible refine w_op ?_ | with_reducible refine w_un ?_ | with_reducible refine w_cons ?_ | with_reducible refine w_nil ?_ | with_reducible refine w_cb ?_
  | with_reducible refine w_call ?_ | with_reducible refine w_callK ?_ | with_reducible refine w_testB ?_ | with_reducible refine w_tru ?_ | with_reducible refine w_andD ?_ | with_reducible refine w_orD ?_ | with_reducible refine w_notD ?_
  | with_reducible refine w_andE ?_ | with_reducible refine w_orE ?_ | with_reducible refine w_notE ?_ | with_reducible refine w_ifE ?_ | with_reducible refine w_is ?_ | with_reducible refine w_isN ?_ | with_reducible refine w_notN ?_ | with_reducible refine w_tupOf ?_
  | with_reducible refine w_tup ?_ | with_reducible refine w_lst ?_ | with_reducible refine w_lstM ?_ | with_reducible refine w_sl ?_ | with_reducible refine w_part ?_ | with_reducible refine w_noPart ?_ | with_reducible refine w_repr ?_ | with_reducible refine w_seqI ?_
  | with_reducible refine w_rdI ?_ | with_reducible refine w_rdB ?_ | with_reducible refine w_rdAdd ?_ | with_reducible refine w_neg ?_ | with_reducible refine w_lenL ?_ | with_reducible refine w_lenT ?_ | with_reducible refine w_abs ?_ | with_reducible refine w_int ?_ | with_reducible refine w_intB ?_ | with_reducible refine w_gcd ?_
  | with_reducible refine w_gname ?_ | with_reducible refine w_gnil ?_ | with_reducible refine w_gcons ?_
  | with_reducible refine w_true ?_ | with_reducible refine w_false ?_
  | dsimp only [truthD, seqD, isNonD, permL, List.filterMap] | with_reducible refine w_drop ?_ | with_reducible refine w_retN ?_ | with_reducible refine w_nilP ?_ | with_reducible refine w_consP ?_ | with_reducible refine w_rng ?_ | with_reducible refine w_cont ?_ | with_reducible refine w_brk ?_)
local macro_rules | `(tactic| walk_at "z") => `(tactic| repeat walk_at "z1")
open PySem L2 PySem.Spec PyProof.Rows LamX NdefX
theorem startF_eq {N : List Str} {vs ws : List V} : startF N vs (ws.map some) = L2.start N (vs ++ ws) := by
  unfold startF L2.start
  rw [List.map_append, List.append_assoc, List.length_map, List.length_append, Nat.sub_sub]
/-- a lambda that stands at f is called without arguments: own, its parameters with defaults; fr, the names that it takes from around -/
theorem zlam_run {P : Program} {w : World} {K : PySem.W.Frag} {mg : Str → Option Value} {base : Heap} {k : Nat} {q : Str} {ps : Arguments} {b : Expr} {sc : Scope} {cl : List (Str × Addr)} {pm ct dV : Value} {N own fr : List Str} {f c' : Addr} {tb : TED}
    (S : NScope N own fr sc)
    (hb : ∀ (A : Around) (outer : List Env) (s : Shared) (H : Hp) (E : XK), Room k (A.deeper (envF ⟨"<lambda>", q, ps, [], sc, cl, c'⟩ f s.heap.objs.size)) → A.guards = some [] → PD (ncx (L2.CX P w) P w K mg base N ⟨"<lambda>", q, ps, [], sc, cl, c'⟩ f A outer s H E) b tb)
    {A : Around} {outer : List Env} {s : Shared} {H : Hp} {Q : VK} {E : XK} (hr : Room (k + 1) A) (hgd : A.guards = some []) (e0 : Env0 P w K mg base A outer s H) (of1 : s.heap.get? f = some (zOb q ps b sc cl pm (.ref c') ct dV)) (rc : s.heap.CodeRec (.ref c') q)
    {ous : List Value} {ovs cvs : List V} {ods cds : List D} {M : MH} {G : QD} {FE : ED} (hbd : BindsTo s (zFn q ps b sc cl pm (.ref c') ct dV) ⟨[], []⟩ (own.zip ous)) (ro : Vals ovs ous) (hol : ovs.length = own.length) (C : CellsAt cl fr (cvs.map some) s.heap H)
    (rro : Reps K H M ovs ods) (rrc : Reps K H M cvs cds) (mu : Mut K H M) (h : tb (fun C fs _ M => FE C fs M) (startD N (ods ++ cds)) M G) (kq : Fin K H M G Q)
    (ke : ∀ C fs d H' M', Good H M H' M' → Mut K H' M' → ExD K H' M' d fs → FE C fs M' → E (.ref C) d H') :
    codeAny (model P w) A (.call (.ref f) ⟨[], []⟩) (CR (L2.CX P w) outer P w H s Q E) s := by
  have old : ∀ b o, base.get? b = some o → s.heap.get? b = some o := fun b o e => (e0.bs b o e).1
  have lim := e0.mod.nolimit.keeps old
  refine PySem.W.kla_callFunE hr.depth of1 rfl S.co S.gen rfl rc (hbd _ _ _ _ ?_)
  refine wpAny_newFunctionEnv (fun y hy => S.nocell y hy) (fun y hy => ?_) (fun h₁ hns hsb => ⟨lim.fresh _ hsb, ?_⟩) S.kind
  · obtain ⟨n, v⟩ := y
    exact S.par n (List.of_mem_zip hy).1
  have kp : ∀ b o, s.heap.get? b = some o → h₁.get? b = some o := fun b o e => hsb.extBut b o (Nat.ne_of_lt (Heap.lt_size e)) (Heap.get?_push_of_some _ e)
  have I := inv_startN (CX := L2.CX P w) (P := P) (w := w) (K := K) (mg := mg) (base := base) (F := ⟨"<lambda>", q, ps, [], sc, cl, c'⟩) (f := f) (E := E) (tk := s.toks + (own.zip ous).length) S hr.hd e0 hol ro C hns kp
  rw [startF_eq] at I
  have at_ : At (ncx (L2.CX P w) P w K mg base N ⟨"<lambda>", q, ps, [], sc, cl, c'⟩ f A outer s H E) (ncx (L2.CX P w) P w K mg base N ⟨"<lambda>", q, ps, [], sc, cl, c'⟩ f A outer s H E).pn (ncx (L2.CX P w) P w K mg base N ⟨"<lambda>", q, ps, [], sc, cl, c'⟩ f A outer s H E).xe H M (fun C fs _ M => FE C fs M) := by
    refine ⟨Takes.imp (takes_of rfl rfl rfl rfl) fun c d σ H' ⟨C, ds', τ, M', e, ex, g, sl, mu', q⟩ => ?_, passes_of rfl⟩
    subst e
    exact ke C ds' d H' M' g mu' ex q
  have body := hb A outer s H E (hr.deeper _) hgd _ _ H M _ at_
  refine PySem.W.kla_codeExpr (wpAny_mono (body.run [] _ _ H Q I ⟨startD N (ods ++ cds), M, _, .refl, slots_start (rro.append rrc), mu, h, kq⟩) (fun v s' hq => ?_) fun e s' hq => hq)
  obtain ⟨w', H', J, rv, q⟩ := hq
  exact ⟨w', H', J.os, J.bare, J.base, J.hok, rv, q⟩
end Z

set_option Elab.async false
set_option linter.all false
set_option maxRecDepth 100000
set_option maxHeartbeats 4000000
namespace Z
local macro_rules | `(tactic| walk_at "z at") => `(tactic| first | rfl | (simp only [atI, ixN, List.length_cons, List.length_nil, List.length_map]; rfl) | assumption)
local macro_rules | `(tactic| walk_at "z1") => `(tactic| first
  | with_reducible refine w_seq ?_ | with_reducible refine w_set ?_ | with_reducible refine w_ret ?_ | with_reducible refine w_if ?_ | with_reducible refine w_asg ?_ | with_reducible refine w_next ?_ | with_reducible refine w_setIx ?_ | with_reducible refine w_par ?_
  | ((with_reducible refine' w_var ?h ?_); (case h => exact rfl))
  | with_reducible refine w_c ?_ | with_reducible refine w_op ?_ | with_reducible refine w_un ?_ | with_reducible refine w_cons ?_ | with_reducible refine w_nil ?_ | with_reducible refine w_cb ?_
  | with_reducible refine w_call ?_ | with_reducible refine w_callK ?_ | with_reducible refine w_testB ?_ | with_reducible refine w_tru ?_ | with_reducible refine w_andD ?_ | with_reducible refine w_orD ?_ | with_reducible refine w_notD ?_
  | with_reducible refine w_andE ?_ | with_reducible refine w_orE ?_ | with_reducible refine w_notE ?_ | with_reducible refine w_ifE ?_ | with_reducible refine w_is ?_ | with_reducible refine w_isN ?_ | with_reducible refine w_notN ?_ | with_reducible refine w_tupOf ?_
  | with_reducible refine w_tup ?_ | with_reducible refine w_lst ?_ | with_reducible refine w_lstM ?_ | with_reducible refine w_sl ?_ | with_reducible refine w_part ?_ | with_reducible refine w_noPart ?_ | with_reducible refine w_repr ?_ | with_reducible refine w_seqI ?_
  | with_reducible refine w_rdI ?_ | with_reducible refine w_rdB ?_ | with_reducible refine w_rdAdd ?_ | with_reducible refine w_neg ?_ | with_reducible refine w_lenL ?_ | with_reducible refine w_lenT ?_ | with_reducible refine w_abs ?_ | with_reducible refine w_int ?_ | with_reducible refine w_intB ?_ | with_reducible refine w_gcd ?_
  | with_reducible refine w_gname ?_ | with_reducible refine w_gnil ?_ | with_reducible refine w_gcons ?_
  | with_reducible refine w_true ?_ | with_reducible refine w_false ?_
  | dsimp only [truthD, seqD, isNonD, permL, List.filterMap] | with_reducible refine w_drop ?_ | with_reducible refine w_retN ?_ | with_reducible refine w_nilP ?_ | with_reducible refine w_consP ?_ | with_reducible refine w_rng ?_ | with_reducible refine w_cont ?_ | with_reducible refine w_brk ?_)
local macro_rules | `(tactic| walk_at "z") => `(tactic| repeat walk_at "z1")
open PySem L2 PySem.Spec PyProof.Rows LamX NdefX

/-! ### a lambda's making, seen from the trees -/
theorem tab_of {K : PySem.W.Frag} {H : Hp} {M : MH} {P : Addr} {q : Str} (mu : Mut K H M) (hP : M P = some (.tbl q)) : TabS H P q := by
  obtain ⟨ho, e, r⟩ := mu P _ hP
  cases r with
  | tbl t a => exact ⟨_, e, t, fun pos cv h => let ⟨c, h1, h2, _⟩ := a pos cv h; ⟨c, h1, h2⟩⟩
theorem made_tab {K : PySem.W.Frag} {H H1 : Hp} {M : MH} {P c' : Addr} {q : Str} (mu : Mut K H M) (hP : M P = some (.tbl q)) (tu : TabUp P c' q H H1) : Good H M H1 M ∧ Mut K H1 M := by
  rcases tu with rfl | ⟨pos, tb, e, nC, nCP, rfl⟩
  · exact ⟨.refl, mu⟩
  have mC : M c' = none := mut_none mu nC
  have g : Good H M (upd (upd H P (.tbl (tb ++ #[rawInt pos.line, rawInt pos.col, .ref c']))) c' (CodeO c' q)) M := fun a u h m => by
    have n1 : a ≠ P := fun z => by rw [z, hP] at m; cases m
    exact ⟨by rw [upd_ne (ne_of_none h nC), upd_ne n1]; exact h, m⟩
  refine ⟨g, fun a mo ea => ?_⟩
  obtain ⟨ho, h, r⟩ := mu a mo ea
  by_cases n1 : a = P
  · subst n1
    rw [hP] at ea
    cases ea
    cases r with
    | tbl t al =>
      rw [e] at h
      cases h
      have eL : (tb ++ #[rawInt pos.line, rawInt pos.col, .ref c']).toList = tb.toList ++ [rawInt pos.line, rawInt pos.col, .ref c'] := by simp
      refine ⟨_, by rw [upd_ne (Ne.symm nCP), upd_same], .tbl (by rw [eL]; exact PySem.TriplesOk_snoc _ _ _ _ t) fun p' cv hcv => ?_⟩
      rw [eL] at hcv
      rcases among_app _ t hcv with z | z
      · obtain ⟨c0, e1, e2, e3⟩ := al p' cv z
        exact ⟨c0, e1, (g _ _ e2 e3).1, e3⟩
      · exact ⟨c', z, upd_same, mC⟩
  · exact ⟨ho, by rw [upd_ne (ne_of_none h nC), upd_ne n1]; exact h, r.good g⟩
theorem cells_later {cl : List (Str × Addr)} {fr : List Str} {ws : List (Option V)} {fs : List Addr} {h h' : Heap} {H H' : Hp} (C : CellsAt cl fr ws h H) (u : Un fs [] H H' h h') : CellsAt cl fr ws h' H' := by
  have kp : ∀ y c, cl.lookup y = some c → ∀ v, h.IsCell c v → h'.IsCell c v := fun y c e v ⟨o, ho, hd⟩ => by
    obtain ⟨sl, q⟩ := u.any ho (C.all y c e).1 (by simp)
    exact ⟨_, q, hd⟩
  refine ⟨C.len, fun y c e => ?_, C.inj, fun i y e => ?_⟩
  · obtain ⟨n, v, z⟩ := C.all y c e
    refine ⟨?_, v, kp y c e v z⟩
    obtain ⟨o, ho, _⟩ := z
    exact u.free c o ho n (by simp)
  · obtain ⟨c, hc, hv⟩ := C.has i y e
    exact ⟨c, hc, fun v ev => let ⟨u', r, z⟩ := hv v ev; ⟨u', r, kp y c hc _ z⟩⟩
/-- where a lambda's defaults stand: none, or an int in a tuple that is told -/
inductive Dfl (H : Hp) : Option Int → Value → Prop
  | no : Dfl H none .none
  | int {T i} : H T = some (.tup [.int i]) → Dfl H (some i) (.ref T)
theorem Dfl.later {H H' : Hp} {o : Option Int} {dV : Value} (d : Dfl H o dV) (k : ∀ b xs, H b = some (.tup xs) → H' b = some (.tup xs)) : Dfl H' o dV := by
  cases d with
  | no => exact .no
  | int h => exact .int (k _ _ h)
section
variable {X : Cx} {pins : List (Addr × Obj)} {σ : L2.St} {H : Hp} {s : Shared} {ps : Arguments} {b : Expr} {sc : Scope} {c P : Addr} {pos : Pos} {E : Value → Shared → Prop} {Q : Value → Shared → Prop}
/-- how the lambda's defaults are written -/
inductive DflE (ps : Arguments) (env : Env) : Option Int → Prop
  | no : defaultsOf ps env = ([], []) → DflE ps env none
  | int {i j p} : defaultsOf ps env = ([eval (.Constant (.int i) j p) env], []) → DflE ps env (some i)
theorem zlam_ev {o : Option Int} (hd : DflE ps X.env o) (I : Inv X pins σ H s) (TB : TabB X.base X.mg c P) (hcode : X.env.code = .ref c) (hT : TabS H P (X.env.qual ++ "<lambda>")) (hfree : ∀ y ∈ sc.names, y.2 = .free → ∃ c, X.env.cells.lookup y.1 = some c)
    (h : ∀ (f c' : Addr) (Hd H1 : Hp) (s' : Shared) (pm ct dV : Value), Inv X pins σ (upd H1 f (CloO f (zOb (X.env.qual ++ "<lambda>") ps b sc (cloFrom X.env.cells sc.names []) pm (.ref c') ct dV))) s' → (Hd = H ∨ ∃ T i, H T = none ∧ Hd = upd H T (.tup [.int i])) → Dfl Hd o dV → TabUp P c' (X.env.qual ++ "<lambda>") Hd H1 → H1 f = none →
      (∃ tb : Array Value, H1 P = some (.tbl tb) ∧ codeAmong pos tb.toList = some (.ref c')) → Q (.ref f) s') : wpAny (model X.prog X.w) X.A (eval (.Lambda ps b sc pos) X.env) Q E s := by
  cases hd with
  | no e =>
    refine PySem.W.kla_eval e ?_
    rw [makeFunction_eq]
    simp only [List.zip_nil_right, List.filterMap_nil, List.isEmpty_nil, if_true, pure_bind]
    exact zlam_mk I TB hcode hT hfree fun f c' H1 s' pm ct I1 tu ts hn htb => h f c' H H1 s' pm ct .none I1 (.inl rfl) .no tu hn htb
  | @int i j p e =>
    rw [arm_eval_Lambda, e]
    show wpAny _ _ (do let dv ← evalAll [eval (.Constant (.int i) j p) X.env]; let kdv ← holding dv (evalAllOpt []); makeFunction "<lambda>" (X.env.qual ++ "<lambda>") ps (.expr b) sc X.env dv kdv [] pos pos.line) Q E s
    refine wpAny_bind (wpAny_bind (wpAny_Constant_int (wpAny_bind (wpAny_holding (wpAny_pure (wpAny_pure ?_))))))
    refine wpAny_bind (wpAny_holding (wpAny_pure ?_))
    rw [makeFunction_eq]
    simp only [List.zip_nil_right, List.filterMap_nil, List.isEmpty_nil, List.isEmpty_cons, Bool.false_eq_true, if_false, if_true, pure_bind]
    refine wpAny_bind (wpAny_newTextTuple ?_)
    have nT := I.hok.fresh (Nat.le_refl s.heap.objs.size)
    have I2 : Inv X pins σ (upd H s.heap.objs.size (.tup [.int i])) { s with heap := s.heap.push { cls := .type "tuple", data := .seq #[.int i s.toks] }, toks := s.toks + 1 } :=
      I.laid (fun b u e => Heap.get?_push_of_some _ e) (Nat.le_refl _) ⟨by show 1 ≤ sizeLine; decide, [.int i s.toks], .cons ⟨_, rfl⟩ .nil, ⟨_, Heap.get?_push_size _ rfl, rfl, _, rfl⟩⟩
    have nP : P ≠ s.heap.objs.size := fun z => by obtain ⟨tb, hP, _⟩ := hT; rw [z, nT] at hP; cases hP
    have hT2 : TabS (upd H s.heap.objs.size (.tup [.int i])) P (X.env.qual ++ "<lambda>") := hT.ext fun b o e => by rw [upd_ne (ne_of_none e nT)]; exact e
    exact zlam_mk I2 TB hcode hT2 hfree fun f c' H1 s' pm ct I1 tu ts hn htb => h f c' _ H1 s' pm ct _ I1 (.inr ⟨_, i, nT, rfl⟩) (.int upd_same) tu hn htb
end
end Z

set_option Elab.async false
set_option linter.all false
set_option maxRecDepth 100000
set_option maxHeartbeats 4000000
namespace Z
local macro_rules | `(tactic| walk_at "z at") => `(tactic| first | rfl | (simp only [atI, ixN, List.length_cons, List.length_nil, List.length_map]; rfl) | assumption)
local macro_rules | `(tactic| walk_at "z1") => `(tactic| first
  | with_reducible refine w_seq ?_ | with_reducible refine w_set ?_ | with_reducible refine w_ret ?_ | with_reducible refine w_if ?_ | with_reducible refine w_asg ?_ | with_reducible refine w_next ?_ | with_reducible refine w_setIx ?_ | with_reducible refine w_par ?_
  | ((with_reducible refine' w_var ?h ?_); (case h => exact rfl))
  | with_reducible refine w_c ?_ | with_reducible refine w_op ?_ | with_reducible refine w_un ?_ | with_reducible refine w_cons ?_ | with_reducible refine w_nil ?_ | with_reducible refine w_cb ?_
  | with_reducible refine w_call ?_ | with_reducible refine w_callK ?_ | with_reducible refine w_testB ?_ | with_reducible refine w_tru ?_ | with_reducible refine w_andD ?_ | with_reducible refine w_orD ?_ | with_reducible refine w_notD ?_
  | with_reducible refine w_andE ?_ | with_reducible refine w_orE ?_ | with_reducible refine w_notE ?_ | with_reducible refine w_ifE ?_ | with_reducible refine w_is ?_ | with_reducible refine w_isN ?_ | with_reducible refine w_notN ?_ | with_reducible refine w_tupOf ?_
  | with_reducible refine w_tup ?_ | with_reducible refine w_lst ?_ | with_reducible refine w_lstM ?_ | with_reducible refine w_sl ?_ | with_reducible refine w_part ?_ | with_reducible refine w_noPart ?_ | with_reducible refine w_repr ?_ | with_reducible refine w_seqI ?_
  | with_reducible refine w_rdI ?_ | with_reducible refine w_rdB ?_ | with_reducible refine w_rdAdd ?_ | with_reducible refine w_neg ?_ | with_reducible refine w_lenL ?_ | with_reducible refine w_lenT ?_ | with_reducible refine w_abs ?_ | with_reducible refine w_int ?_ | with_reducible refine w_intB ?_ | with_reducible refine w_gcd ?_
  | with_reducible refine w_gname ?_ | with_reducible refine w_gnil ?_ | with_reducible refine w_gcons ?_
  | with_reducible refine w_true ?_ | with_reducible refine w_false ?_
  | dsimp only [truthD, seqD, isNonD, permL, List.filterMap] | with_reducible refine w_drop ?_ | with_reducible refine w_retN ?_ | with_reducible refine w_nilP ?_ | with_reducible refine w_consP ?_ | with_reducible refine w_rng ?_ | with_reducible refine w_cont ?_ | with_reducible refine w_brk ?_)
local macro_rules | `(tactic| walk_at "z") => `(tactic| repeat walk_at "z1")
open PySem L2 PySem.Spec PyProof.Rows LamX NdefX

/-! ### what a lambda's own parameters are bound to -/
inductive OwnB (q : Str) (ps : Arguments) (b : Expr) (sc : Scope) : Option Int → List Str → Prop
  | no : (∀ (cl : List (Str × Addr)) (pm cv ct : Value), bindArgs (zFn q ps b sc cl pm cv ct .none) ⟨[], []⟩ = pure []) → OwnB q ps b sc none []
  | int {i : Int} {x : Str} : (∀ (cl : List (Str × Addr)) (pm cv ct : Value) (T : Addr) (t : Tok), ∃ k, bindArgs (zFn q ps b sc cl pm cv ct (.ref T)) ⟨[], []⟩ = seqItems? (.ref T) >>= k ∧ k (some #[.int i t]) = pure [(x, .int i t)]) → OwnB q ps b sc (some i) [x]
def ownD : Option Int → List D | none => [] | some i => [.int i]
def ownV : Option Int → List V | none => [] | some i => [.int i]
theorem own_reps {K : PySem.W.Frag} {H : Hp} {M : MH} : ∀ o : Option Int, Reps K H M (ownV o) (ownD o)
  | none => .nil
  | some i => .cons (.int i) .nil
theorem own_bind {P : Program} {w : World} {H : Hp} {s : Shared} {q : Str} {ps : Arguments} {b : Expr} {sc : Scope} {o : Option Int} {own : List Str} {dV : Value} (B : OwnB q ps b sc o own) (d : Dfl H o dV) (ok : HOk P w H s.heap) (cl : List (Str × Addr)) (pm cv ct : Value) :
    ∃ ous : List Value, Vals (ownV o) ous ∧ (ownV o).length = own.length ∧ BindsTo s (zFn q ps b sc cl pm cv ct dV) ⟨[], []⟩ (own.zip ous) := by
  cases B with
  | no h => cases d; exact ⟨[], .nil, rfl, .of_eq (h cl pm cv ct)⟩
  | @int i x h =>
    cases d with
    | @int T _ e =>
      obtain ⟨_, its, r, ob, ho, hc, n, hd⟩ := (show ObjOk P w H s.heap T (.tup [.int i]) from ok T _ e)
      cases r with
      | cons r rs =>
        cases rs
        obtain ⟨t, rfl⟩ := r
        obtain ⟨k, e1, e2⟩ := h cl pm cv ct T t
        refine ⟨[.int i t], .cons ⟨t, rfl⟩ .nil, rfl, fun M A E Q hq => ?_⟩
        rw [e1]
        refine wpAny_bind (wpAny_seqItems ho hd ?_)
        rw [e2]
        exact wpAny_pure hq
/-! ### a def that gets a function without parameters -/
/-- f(), f the function that stands in the first slot -/
def tActD (f : Addr) (tl : ED → MH → QD → Prop) : TED := fun W τ M Q => getN τ 0 = some (.ref f) ∧ tl (fun C fs M' => W C fs τ M') M Q
theorem pd_actZ {P : Program} {w : World} {K : PySem.W.Frag} {mg : Str → Option Value} {base : Heap} {k : Nat} {q : Str} {ps : Arguments} {b : Expr} {sc : Scope} {cl : List (Str × Addr)} {pm ct dV : Value} {N own fr Ng : List Str} {f c' g Pt : Addr} {tb : TED} {qg a : Str} {sg : Scope} {cdg : Value} {o : Option Int} {pos p1 p2 : Pos}
    {A : Around} {outer : List Env} {s : Shared} {H : Hp} {E : XK} {cvs : List V} {cds : List D}
    (S : NScope N own fr sc) (B : OwnB q ps b sc o own)
    (hb : ∀ (A : Around) (outer : List Env) (s : Shared) (H : Hp) (E : XK), Room k (A.deeper (envF ⟨"<lambda>", q, ps, [], sc, cl, c'⟩ f s.heap.objs.size)) → A.guards = some [] → PD (ncx (L2.CX P w) P w K mg base N ⟨"<lambda>", q, ps, [], sc, cl, c'⟩ f A outer s H E) b tb)
    (hr : Room (k + 1) (A.deeper (envOfC qg sg s.heap.objs.size g cdg))) (hgd : A.guards = some []) (C : CellsAt cl fr (cvs.map some) s.heap H) (d : Dfl H o dV) (ht : ∃ t : Array Value, H Pt = some (.tbl t) ∧ codeAmong pos t.toList = some (.ref c'))
    (hN : Ng[0]? = some a) (hv : Vis sg a) (hdb : (a == ("__debug__" : Str)) = false) (hcd : (a == ("__classdict__" : Str)) = false) :
    PD (cxOf (L2.CX P w) P w K mg base Ng qg sg g cdg A outer s H E) (.Call (.Name a p1) [] [] p2)
      (tActD f fun FE M' Q' => M' f = some (.clo f (zOb q ps b sc cl pm (.ref c') ct dV) cvs cds) ∧ M' Pt = some (.tbl q) ∧ tb (fun C fs _ M => FE C fs M) (startD N (ownD o ++ cds)) M' Q') := fun pn xe H0 M0 W at_ => by
  refine ⟨fun pins sZ σ HZ Q I ⟨τ, M, F, g0, sl, mu, ⟨hs, hm, hp, h⟩, kq⟩ => ?_⟩
  have hσ : σ[0]? = some (some (.ref f)) := by
    have e : τ[0]? = some (some (.ref f)) := getN_some hs
    obtain ⟨v, e1, r⟩ := sl.2 0 _ e
    cases r
    exact e1
  refine wpAny_Call_Name_kw (thn ((pe_var (pos := p1) (i := 0) hN hv hdb hcd).run pins sZ σ HZ (fun v H1 => v = .ref f ∧ H1 = HZ) I ⟨.ref f, hσ, rfl, rfl⟩) fun u s1 ⟨v, H1, I1, r1, ev, eH⟩ => ?_)
  subst ev eH
  obtain rfl : u = Value.ref f := r1
  obtain ⟨ho, e1, rm⟩ := mu f _ hm
  cases rm with
  | clo rc =>
    have of1 : s1.heap.get? f = some (zOb q ps b sc cl pm (.ref c') ct dV) := (show ObjOk _ _ _ _ f (CloO f _) from I1.hok f _ e1).1
    refine PySem.W.callWith_F0 ⟨_, _, _, _, of1⟩ ?_
    have un : Un (frs outer) [] H H1 s.heap s1.heap := I1.base
    obtain ⟨t, ht1, ht2⟩ := ht
    obtain ⟨more, ht3⟩ := un.tbls _ _ ht1
    obtain ⟨hoT, e2, rT⟩ := mu Pt _ hp
    cases rT with
    | tbl tt al =>
      rw [ht3] at e2
      cases e2
      obtain ⟨c2, z1, z2, _⟩ := al pos (.ref c') (by rw [Array.toList_append]; exact among_more _ _ ht2)
      cases z1
      have rcd : s1.heap.CodeRec (.ref c') q := codeO_at I1.hok z2
      obtain ⟨ous, v1, v2, v3⟩ := own_bind (s := s1) B (d.later un.tups) I1.hok cl pm (.ref c') ct
      have rr := zlam_run (A := A.deeper (envOfC qg sg s.heap.objs.size g cdg)) (outer := envOfC qg sg s.heap.objs.size g cdg :: outer) (s := s1) (H := H1) (Q := Q) (E := WE (liftW K H0 M0 W) σ) S hb hr hgd I1.env0 of1 rcd v3 v1 v2 (cells_later C un) (own_reps o) rc mu h kq
        (fun C fs d H' M' g' mu' ex we => ⟨C, fs, τ, M', rfl, ex, g0.trans g', sl.good g', mu', we⟩)
      have hx := passAt at_.tk σ
      refine wpAny_call (codeAny_mono rr fun r s' hq => ?_)
      cases r with
      | error e => exact hx pins H1 s1 e s' I1 hq
      | ok fl =>
        cases fl with
        | ret u => exact I1.after hq
        | next => exact hq.elim
        | brk => exact hq.elim
        | cont => exact hq.elim
end Z

set_option Elab.async false
set_option linter.all false
set_option maxRecDepth 100000
set_option maxHeartbeats 4000000
namespace Z
local macro_rules | `(tactic| walk_at "z at") => `(tactic| first | rfl | (simp only [atI, ixN, List.length_cons, List.length_nil, List.length_map]; rfl) | assumption)
local macro_rules | `(tactic| walk_at "z1") => `(tactic| first
  | with_reducible refine w_seq ?_ | with_reducible refine w_set ?_ | with_reducible refine w_ret ?_ | with_reducible refine w_if ?_ | with_reducible refine w_asg ?_ | with_reducible refine w_next ?_ | with_reducible refine w_setIx ?_ | with_reducible refine w_par ?_
  | ((with_reducible refine' w_var ?h ?_); (case h => exact rfl))
  | with_reducible refine w_c ?_ | with_reducible refine w_op ?_ | with_reducible refine w_un ?_ | with_reducible refine w_cons ?_ | with_reducible refine w_nil ?_ | with_reducible refine w_cb ?_
  | with_reducible refine w_call ?_ | with_reducible refine w_callK ?_ | with_reducible refine w_testB ?_ | with_reducible refine w_tru ?_ | with_reducible refine w_andD ?_ | with_reducible refine w_orD ?_ | with_reducible refine w_notD ?_
  | with_reducible refine w_andE ?_ | with_reducible refine w_orE ?_ | with_reducible refine w_notE ?_ | with_reducible refine w_ifE ?_ | with_reducible refine w_is ?_ | with_reducible refine w_isN ?_ | with_reducible refine w_notN ?_ | with_reducible refine w_tupOf ?_
  | with_reducible refine w_tup ?_ | with_reducible refine w_lst ?_ | with_reducible refine w_lstM ?_ | with_reducible refine w_sl ?_ | with_reducible refine w_part ?_ | with_reducible refine w_noPart ?_ | with_reducible refine w_repr ?_ | with_reducible refine w_seqI ?_
  | with_reducible refine w_rdI ?_ | with_reducible refine w_rdB ?_ | with_reducible refine w_rdAdd ?_ | with_reducible refine w_neg ?_ | with_reducible refine w_lenL ?_ | with_reducible refine w_lenT ?_ | with_reducible refine w_abs ?_ | with_reducible refine w_int ?_ | with_reducible refine w_intB ?_ | with_reducible refine w_gcd ?_
  | with_reducible refine w_gname ?_ | with_reducible refine w_gnil ?_ | with_reducible refine w_gcons ?_
  | with_reducible refine w_true ?_ | with_reducible refine w_false ?_
  | dsimp only [truthD, seqD, isNonD, permL, List.filterMap] | with_reducible refine w_drop ?_ | with_reducible refine w_retN ?_ | with_reducible refine w_nilP ?_ | with_reducible refine w_consP ?_ | with_reducible refine w_rng ?_ | with_reducible refine w_cont ?_ | with_reducible refine w_brk ?_)
local macro_rules | `(tactic| walk_at "z") => `(tactic| repeat walk_at "z1")
open PySem L2 PySem.Spec PyProof.Rows LamX NdefX

abbrev SpG := (ED → MH → QD → Prop) → MH → QD → ED → Prop
/-- a def that gets a function without parameters, and what it makes of what that does -/
structure FnG (P : Program) (w : World) (K : PySem.W.Frag) (mg : Str → Option Value) (base : Heap) (k : Nat) (g : Addr) (fd : FuncData) (x a : Str) (Ng : List Str) (sg : Scope) (sp : SpG) : Prop where
  run : ∀ {A : Around} {outer : List Env} {s : Shared} {H : Hp} {f : Addr} {Q : VK} {E : XK} {tl : ED → MH → QD → Prop} {M : MH} {G : QD} {FE : ED}, Room k A → A.guards = some [] → Env0 P w K mg base A outer s H → BindsTo s fd ⟨[.ref f], []⟩ ([a].zip [.ref f]) →
    (∀ cdv E' p1 p2, PD (cxOf (L2.CX P w) P w K mg base Ng x sg g cdv A outer s H E') (.Call (.Name a p1) [] [] p2) (tActD f tl)) → Mut K H M → sp tl M G FE → Fin K H M G Q →
    (∀ C fs d H' M', Good H M H' M' → Mut K H' M' → ExD K H' M' d fs → FE C fs M' → E (.ref C) d H') → codeAny (model P w) A (.call (.ref g) ⟨[.ref f], []⟩) (CR (L2.CX P w) outer P w H s Q E) s
section
variable {P : Program} {w : World} {K : PySem.W.Frag} {mg : Str → Option Value} {base : Heap}
theorem fnG {x a : Str} {st : Stmt} {g : Addr} {fd : FuncData} {N : List Str} {k : Nat} {sp : SpG} {t : Addr → (ED → MH → QD → Prop) → TSD} (F : Fun K x x st g fd) (S : FnScope N [a] (defScope st))
    (hb : ∀ (cdv : Value) (A : Around) (outer : List Env) (s : Shared) (H : Hp) (E : XK) (f : Addr) (tl : ED → MH → QD → Prop), Room k (A.deeper (envOfC x (defScope st) s.heap.objs.size g cdv)) → A.guards = some [] →
      (∀ p1 p2, PD (cxOf (L2.CX P w) P w K mg base N x (defScope st) g cdv A outer s H E) (.Call (.Name a p1) [] [] p2) (tActD f tl)) → PDB (cxOf (L2.CX P w) P w K mg base N x (defScope st) g cdv A outer s H E) (defBody st) (t f tl))
    (wp : ∀ f tl M F FE, sp tl M F FE → t f tl (fun C fs _ M => FE C fs M) { nx := fun _ M => F .non M, rt := F } (startD N [.ref f]) M) : FnG P w K mg base (k + 1) g fd x a N (defScope st) sp := by
  obtain ⟨oc, od, kV, doc, pm, an, cdv, ct, osl, rfl, lk, hcd⟩ := F.ex
  refine ⟨fun {A outer s H f Q E tl M G FE} hr hgd e0 hbd act mu h kq ke => ?_⟩
  have old : ∀ b o, base.get? b = some o → s.heap.get? b = some o := fun b o e => (e0.bs b o e).1
  have KX := e0.mod.kin.keeps old
  have lim := e0.mod.nolimit.keeps old
  refine codeAny_call_function hr.depth (KX _ _ lk) rfl S.co S.gen rfl (PySem.W.codeRec_of KX hcd) (hbd _ _ _ _ ?_)
  refine wpAny_newFunctionEnv_cells S.kind (fun y hy => ?_) fun env he s1 y => ?_
  · obtain ⟨n, v⟩ := y
    exact (S.par n (List.of_mem_zip hy).1).imp id fun q => ⟨q, PySem.W.cellsFrom_some _ _ _ (.inl q)⟩
  subst he
  refine ⟨lim.keeps y.toInCall.keep, codeAny_func ?_⟩
  have I := inv_start (CX := L2.CX P w) (w := w) (cd := cdv) (E := E) (vs := [.ref f]) (us := [.ref f]) S hr.hd e0 rfl (.cons rfl .nil) y
  have at_ : At (cxOf (L2.CX P w) P w K mg base N x (defScope st) g cdv A outer s H E) (cxOf (L2.CX P w) P w K mg base N x (defScope st) g cdv A outer s H E).pn (cxOf (L2.CX P w) P w K mg base N x (defScope st) g cdv A outer s H E).xe H M (fun C fs _ M => FE C fs M) := by
    refine ⟨Takes.imp (takes_of rfl rfl rfl rfl) fun c d σ H' ⟨C, ds', τ, M', e, ex, gg, sl, mu', q⟩ => ?_, passes_of rfl⟩
    subst e
    exact ke C ds' d H' M' gg mu' ex q
  have body := hb cdv A outer s H E f tl (hr.deeper _) hgd (act cdv E) _ _ H M _ at_
  refine wpAny_mono (body.run [] s1 _ H { nx := fun _ H' => Q .non H', rt := Q } I ⟨startD N [.ref f], M, _, .refl, slots_start (.cons (.ref f) .nil), mu, wp f tl M G FE h, ?_, ?_, ?_, ?_⟩) (fun fl s' hs => ?_) fun e s' hs => hs
  · rintro σ' H' ⟨τ, M', gg, sl, mu', q⟩
    exact kq _ _ _ _ gg mu' .non q
  · rintro v H' ⟨d, M', gg, mu', r', q⟩
    exact kq _ _ _ _ gg mu' r' q
  · rintro σ' H' ⟨τ, M', gg, sl, mu', q⟩
    exact q.elim
  · rintro σ' H' ⟨τ, M', gg, sl, mu', q⟩
    exact q.elim
  · have fin : ∀ {σ' : L2.St} {H' : Hp} {v : V} {u : Value}, Inv (cxOf (L2.CX P w) P w K mg base N x (defScope st) g cdv A outer s H E) [] σ' H' s' → RelV v u → Q v H' → CE outer P w H s Q u s' :=
      fun {σ' H' v u} J rv q => ⟨v, H', J.os, J.bare, J.base, J.hok, rv, q⟩
    cases fl with
    | ret u => obtain ⟨v, σ', H', J, rv, q⟩ := hs; exact fin J rv q
    | next => obtain ⟨σ', H', J, q⟩ := hs; exact fin (v := V.non) (u := Value.none) J rfl q
    | brk => obtain ⟨_, _, _, q⟩ := hs; exact q.elim
    | cont => obtain ⟨_, _, _, q⟩ := hs; exact q.elim
end
/-- what the slots of these places hold -/
def takeN (τ : EnvD) : List Nat → Option (List D)
  | [] => some []
  | j :: js => match getN τ j, takeN τ js with | some d, some ds => some (d :: ds) | _, _ => none
theorem takeN_slots {K : PySem.W.Frag} {H : Hp} {M : MH} {σ : L2.St} {τ : EnvD} (sl : Slots K H M σ τ) : ∀ {js : List Nat} {ds : List D}, takeN τ js = some ds → ∃ vs, js.map (slotAt σ) = vs.map some ∧ Reps K H M vs ds
  | [], _, e => by cases e; exact ⟨[], rfl, .nil⟩
  | j :: js, ds, e => by
    simp only [takeN] at e
    cases e1 : getN τ j with
    | none => rw [e1] at e; cases e
    | some d =>
      cases e2 : takeN τ js with
      | none => rw [e1, e2] at e; cases e
      | some r =>
        rw [e1, e2] at e
        cases e
        obtain ⟨vs, h1, h2⟩ := takeN_slots sl e2
        obtain ⟨v, h3, h4⟩ := sl.2 j d (getN_some e1)
        exact ⟨v :: vs, by rw [List.map_cons, List.map_cons, h1, slotAt_of h3], .cons h4 h2⟩
/-- x(lambda: b), x a def that gets a function -/
def tLamD (Pt : Addr) (q : Str) (js : List Nat) (N : List Str) (o : Option Int) (sp : SpG) (tb : TED) : TED := fun W τ M Q => M Pt = some (.tbl q) ∧ ∃ cds, takeN τ js = some cds ∧ ∀ f mo, M f = none →
  sp (fun FE M' Q' => M' f = some mo ∧ M' Pt = some (.tbl q) ∧ tb (fun C fs _ M => FE C fs M) (startD N (ownD o ++ cds)) M' Q') (mput M f mo) (fun d M' => Q d (mdel M' f)) fun C fs M' => W C fs τ (mdel M' f)
theorem exd_good {K : PySem.W.Frag} {H H' : Hp} {M M' : MH} {d : Option Addr} {fs : List (Str × D)} (h : ExD K H M d fs) (g : Good H M H' M') : ExD K H' M' d fs := by
  rcases h with ⟨dx, ws, e, m, q, r⟩ | h
  · exact .inl ⟨dx, ws, e, (g _ _ q m).2, (g _ _ q m).1, r.good g⟩
  · exact .inr h
section
variable {X : Cx}
theorem pd_lamcall {x a : Str} {g c Pt : Addr} {fd : FuncData} {k k' : Nat} {Ng N own fr : List Str} {sg sc : Scope} {sp : SpG} {ps : Arguments} {b : Expr} {js : List Nat} {o : Option Int} {tb : TED} {p lpos pos : Pos}
    (F : FnG X.prog X.w X.K X.mg X.base k g fd x a Ng sg sp) (hr : Room k X.A) (hr2 : Room (k' + 2) X.A) (hgd : X.A.guards = some []) (hm : X.mg x = some (.ref g)) (hk : PySem.W.keepIn X.K (.ref g) = true) (hb : Binds X.K fd [a] []) (hNg : Ng[0]? = some a) (hva : Vis sg a)
    (TB : TabB X.base X.mg c Pt) (hcode : X.env.code = .ref c) (hd : DflE ps X.env o) (S : NScope N own fr sc) (B : OwnB (X.env.qual ++ "<lambda>") ps b sc o own)
    (hfree : ∀ y ∈ sc.names, y.2 = .free → X.env.scope.names.lookup y.1 = some .cell ∨ X.env.scope.names.lookup y.1 = some .free) (hfr : ∀ y ∈ fr, (y, NameKind.free) ∈ sc.names) (hjs : js.map (fun j => X.N[j]?) = fr.map some)
    (hbody : ∀ (f c' : Addr) (A : Around) (outer : List Env) (s : Shared) (H : Hp) (E : XK), Room k' (A.deeper (envF ⟨"<lambda>", X.env.qual ++ "<lambda>", ps, [], sc, cloFrom X.env.cells sc.names [], c'⟩ f s.heap.objs.size)) → A.guards = some [] →
      PD (ncx (L2.CX X.prog X.w) X.prog X.w X.K X.mg X.base N ⟨"<lambda>", X.env.qual ++ "<lambda>", ps, [], sc, cloFrom X.env.cells sc.names [], c'⟩ f A outer s H E) b tb)
    (hg : Gl X x := by rfl) (hdb : (x == ("__debug__" : Str)) = false := by decide) (hda : (a == ("__debug__" : Str)) = false := by decide) (hca : (a == ("__classdict__" : Str)) = false := by decide) :
    PD X (.Call (.Name x p) [.Lambda ps b sc lpos] [] pos) (tLamD Pt (X.env.qual ++ "<lambda>") js N o sp tb) := fun pn xe H0 M0 W at_ => by
  refine ⟨fun pins s σ H Q I ⟨τ, M, G, g0, sl, mu, ⟨hP, cds, hcds, h⟩, kq⟩ => ?_⟩
  refine wpAny_Call_Name_kw (ld_glob I hg hm ?_ hdb)
  refine PySem.W.callWith_K (h₀ := X.base) I.ok.mod.kin hk ?_ (by rfl) (by rfl)
  show wpAny _ _ (spliced ((false, eval (.Lambda ps b sc lpos) X.env) :: backTo pos (starEach [] X.env))) _ _ s
  have hf : ∀ y ∈ sc.names, y.2 = .free → ∃ c, X.env.cells.lookup y.1 = some c := fun y hy e => (hfree y hy e).elim (fun z => I.ok.has _ (.inl z)) fun z => I.ok.has _ (.inr z)
  refine Calls.spliced_cons (zlam_ev (X := X.tr pn xe) hd I TB hcode (tab_of mu hP) hf fun f c' Hd H1 s' pm ct dV I1 hHd dfl tu nf htb => ?_)
  refine Calls.spliced_nil ⟨I1.kIn, ?_⟩
  have gm : Good H M Hd M ∧ Mut X.K Hd M := by
    rcases hHd with rfl | ⟨T, i, nT, rfl⟩
    · exact ⟨.refl, mu⟩
    · exact ⟨good_new nT, mut_new mu nT⟩
  have gm1 := made_tab gm.2 hP tu
  have gH1 := gm.1.trans gm1.1
  have mf : M f = none := mut_none gm1.2 nf
  obtain ⟨cvs, hcv, rcv⟩ := takeN_slots (sl.good gH1) hcds
  have dfl1 : Dfl H1 o dV := dfl.later fun b xs e => by
    rcases tu with rfl | ⟨_, tb, e1, nC, _, rfl⟩
    · exact e
    · rw [upd_ne (ne_of_none e nC), upd_ne fun z => by rw [z, e1] at e; cases e]; exact e
  have gF : Good H1 M (upd H1 f (CloO f (zOb (X.env.qual ++ "<lambda>") ps b sc (cloFrom X.env.cells sc.names []) pm (.ref c') ct dV))) (mput M f (.clo f (zOb (X.env.qual ++ "<lambda>") ps b sc (cloFrom X.env.cells sc.names []) pm (.ref c') ct dV) cvs cds)) := good_put nf
  have muF := mut_put (o := CloO f (zOb (X.env.qual ++ "<lambda>") ps b sc (cloFrom X.env.cells sc.names []) pm (.ref c') ct dV)) gm1.2 nf (.clo rcv : RepM X.K H1 M _ (.clo f (zOb (X.env.qual ++ "<lambda>") ps b sc (cloFrom X.env.cells sc.names []) pm (.ref c') ct dV) cvs cds))
  have C := cells_of I1 (Caps.made (X := X.tr pn xe) I1.ok hfree hfr hjs)
  rw [hcv] at C
  have htb2 : ∃ t : Array Value, upd H1 f (CloO f (zOb (X.env.qual ++ "<lambda>") ps b sc (cloFrom X.env.cells sc.names []) pm (.ref c') ct dV)) Pt = some (.tbl t) ∧ codeAmong lpos t.toList = some (.ref c') := by
    obtain ⟨t, e1, e2⟩ := htb
    exact ⟨t, by rw [upd_ne (ne_of_none e1 nf)]; exact e1, e2⟩
  have hbd := hb s' [.ref f] I1.kIn rfl
  rw [List.append_nil] at hbd
  have rc := F.run (A := X.A) (outer := X.stack) (s := s') (H := upd H1 f (CloO f (zOb (X.env.qual ++ "<lambda>") ps b sc (cloFrom X.env.cells sc.names []) pm (.ref c') ct dV))) (f := f) (Q := Q) (E := WE (liftW X.K H0 M0 W) σ) hr hgd I1.env0 hbd
    (fun cdv E' p1 p2 => pd_actZ (E := E') S B (fun A outer s H E => hbody f c' A outer s H E) (hr2.deeper _) hgd C (dfl1.later fun b xs e => by rw [upd_ne (ne_of_none e nf)]; exact e) htb2 hNg hva hda hca) muF (h f _ mf)
    (fun v H' d M' g' mu' r' q => kq v H' d _ ((gH1.trans gF).trans (g'.trans good_del)) (mut_del mu') (r'.good good_del) q)
    (fun C fs d H' M' g' mu' ex we => ⟨C, fs, τ, _, rfl, exd_good ex good_del, g0.trans ((gH1.trans gF).trans (g'.trans good_del)), sl.good ((gH1.trans gF).trans (g'.trans good_del)), mut_del mu', we⟩)
  have hx := passAt at_.tk σ
  refine wpAny_call (codeAny_mono rc fun r s2 hq => ?_)
  cases r with
  | error e => exact hx pins _ s' e s2 I1 hq
  | ok fl =>
    cases fl with
    | ret u => exact I1.after hq
    | next => exact hq.elim
    | brk => exact hq.elim
    | cont => exact hq.elim
end
end Z

set_option Elab.async false
set_option linter.all false
set_option maxRecDepth 100000
set_option maxHeartbeats 4000000
namespace Z
local macro_rules | `(tactic| walk_at "z at") => `(tactic| first | rfl | (simp only [atI, ixN, List.length_cons, List.length_nil, List.length_map]; rfl) | assumption)
local macro_rules | `(tactic| walk_at "z1") => `(tactic| first
  | with_reducible refine w_seq ?_ | with_reducible refine w_set ?_ | with_reducible refine w_ret ?_ | with_reducible refine w_if ?_ | with_reducible refine w_asg ?_ | with_reducible refine w_next ?_ | with_reducible refine w_setIx ?_ | with_reducible refine w_par ?_
  | ((with_reducible refine' w_var ?h ?_); (case h => exact rfl))
  | with_reducible refine w_c ?_ | with_reducible refine w_op ?_ | with_reducible refine w_un ?_ | with_reducible refine w_cons ?_ | with_reducible refine w_nil ?_ | with_reducible refine w_cb ?_
  | with_reducible refine w_call ?_ | with_reducible refine w_callK ?_ | with_reducible refine w_testB ?_ | with_reducible refine w_tru ?_ | with_reducible refine w_andD ?_ | with_reducible refine w_orD ?_ | with_reducible refine w_notD ?_
  | with_reducible refine w_andE ?_ | with_reducible refine w_orE ?_ | with_reducible refine w_notE ?_ | with_reducible refine w_ifE ?_ | with_reducible refine w_is ?_ | with_reducible refine w_isN ?_ | with_reducible refine w_notN ?_ | with_reducible refine w_tupOf ?_
  | with_reducible refine w_tup ?_ | with_reducible refine w_lst ?_ | with_reducible refine w_lstM ?_ | with_reducible refine w_sl ?_ | with_reducible refine w_part ?_ | with_reducible refine w_noPart ?_ | with_reducible refine w_repr ?_ | with_reducible refine w_seqI ?_
  | with_reducible refine w_rdI ?_ | with_reducible refine w_rdB ?_ | with_reducible refine w_rdAdd ?_ | with_reducible refine w_neg ?_ | with_reducible refine w_lenL ?_ | with_reducible refine w_lenT ?_ | with_reducible refine w_abs ?_ | with_reducible refine w_int ?_ | with_reducible refine w_intB ?_ | with_reducible refine w_gcd ?_
  | with_reducible refine w_gname ?_ | with_reducible refine w_gnil ?_ | with_reducible refine w_gcons ?_
  | with_reducible refine w_true ?_ | with_reducible refine w_false ?_
  | dsimp only [truthD, seqD, isNonD, permL, List.filterMap] | with_reducible refine w_drop ?_ | with_reducible refine w_retN ?_ | with_reducible refine w_nilP ?_ | with_reducible refine w_consP ?_ | with_reducible refine w_rng ?_ | with_reducible refine w_cont ?_ | with_reducible refine w_brk ?_)
local macro_rules | `(tactic| walk_at "z") => `(tactic| repeat walk_at "z1")
open PySem L2 PySem.Spec PyProof.Rows LamX NdefX

/-! ### the end of a law whose defs make lambdas: tables of code objects stand, empty -/
/-- a maker's code object, its table, what its lambdas are called -/
abbrev Tb := Addr × Addr × Str
def tabM (ts : List Tb) : MH := fun a => (ts.find? fun p => p.2.1 == a).map fun p => .tbl p.2.2
theorem tabM_none {ts : List Tb} {a : Addr} (h : a ∉ ts.map (·.2.1)) : tabM ts a = none := by
  unfold tabM
  rw [List.find?_eq_none.mpr fun p hp z => h (List.mem_map.mpr ⟨p, hp, eq_of_beq z⟩)]
  rfl
theorem tabM_some {ts : List Tb} {a : Addr} {mo : MO} (h : tabM ts a = some mo) : ∃ p ∈ ts, p.2.1 = a ∧ mo = .tbl p.2.2 := by
  unfold tabM at h
  cases e : ts.find? fun p => p.2.1 == a with
  | none => rw [e] at h; cases h
  | some p =>
    rw [e] at h
    cases h
    exact ⟨p, List.mem_of_find?_eq_some e, eq_of_beq (List.find?_some (p := fun p : Tb => p.2.1 == a) e), rfl⟩
def spLawT (ts : List Tb) : SpD := fun ds M F _ => ∃ ns : List Int, ds = [.lst (ns.map D.int)] ∧ ns.length ≤ 63 ∧ M = tabM ts ∧ ∀ M', F (.bl true) M'
theorem law_fromT {P : Program} {w : World} {K : PySem.W.Frag} {mg mb : Str → Option Value} {k : Nat} {fa a : Addr} {fd : FuncData} {x : Str} {s1 : Shared} {vs : List Value} {ns : List Int} {H : Hp} {ts : List Tb} (KX : K.In s1.heap) (hns : s1.heap.Ns mainGlobals mg)
    (hb : s1.heap.Ns builtinsNs mb) (hbb : ∀ y : Str, y ≠ "__name__" → mb y = bootBuiltins y) (hlim : s1.heap.NoLimit) (hg : s1.gens = #[]) (ha : s1.heap.get? a = some { cls := .type "list", data := .seq vs.toArray }) (hl : ns.length ≤ 63) (hr : Room k callerA)
    (tT : ∀ p ∈ ts, s1.heap.get? p.2.1 = some (tabO #[])) (tK : ∀ p ∈ ts, K.lookup p.2.1 = none) (tC : ∀ p ∈ ts, PySem.W.CodeHd s1.heap p.1 p.2.1)
    (hbm : ∃ (bm : Addr) (ob : Obj), mg "__builtins__" = some (.ref bm) ∧ bm ≠ builtinsNs ∧ s1.heap.get? bm = some ob ∧ ob.cls = .type "module" ∧ ob.dict = some builtinsNs ∧ ob.data = .plain)
    (F : ∀ base : Heap, K.In base → base.Ns mainGlobals mg → (∀ p ∈ ts, TabB base mg p.1 p.2.1) → FnZ P w K mg base k fa fd [x] (spLawT ts)) (hbind : ∀ (s : Shared) (u : Value), BindsTo s fd ⟨[u], []⟩ [(x, u)])
    (hH : ∀ p ∈ ts, H p.2.1 = some (.tbl #[])) (hO : ∀ b, H b = none ∨ b ∈ ts.map (·.2.1) ∨ ∃ o xs, H b = some (.frz o (.lst xs))) (hS : SqL K H a (ns.map V.int)) (hok : HOk P w H s1.heap) (hA : ∀ b, H b ≠ none → b = a ∨ b ∈ ts.map (·.2.1)) (hK : H a ≠ none → K.lookup a = none) :
    codeAny (model P w) callerA (.call (.ref fa) ⟨[.ref a], []⟩) (fun r s' => r = .ok (.ret (.bool true)) ∧ OldK s1.heap s'.heap ∧ s'.os = s1.os ∧ AllBare s'.gens) s1 := by
  have isT : ∀ {b : Addr}, b ∈ ts.map (·.2.1) → s1.heap.get? b = some (tabO #[]) := fun {b} z => by
    obtain ⟨p, hp, e⟩ := List.mem_map.mp z
    rw [← e]
    exact tT p hp
  have aT : a ∉ ts.map (·.2.1) := fun z => by
    have q := (isT z).symm.trans ha
    cases (show Data.fields #[] = Data.seq vs.toArray _ from congrArg Obj.data (Option.some.inj q))
  -- what is neither the script nor a table is untold
  have free : ∀ {b : Addr} {o : Obj}, s1.heap.get? b = some o → (∀ us n, o.data ≠ .seq us n) → o.data ≠ .fields #[] → H b = none := by
    intro b o e n1 n2
    match q : H b with
    | none => rfl
    | some u =>
      rcases hA b (by rw [q]; exact fun z => by cases z) with z | z
      · rw [z, ha] at e
        cases e
        exact (n1 _ _ rfl).elim
      · rw [isT z] at e
        cases e
        exact (n2 rfl).elim
  have noDict : ∀ {b : Addr} {o : Obj} {es : Array DictEntry} {ep : Nat}, s1.heap.get? b = some o → o.data = .dict es ep → H b = none := fun e d => free e (fun us n z => by rw [d] at z; cases z) fun z => by rw [d] at z; cases z
  have ns_keep : ∀ {b : Addr} {m : Str → Option Value}, s1.heap.Ns b m → (hidT s1.heap H).Ns b m := by
    rintro b m ⟨o, es, ep, e, d, r⟩
    exact ⟨o, es, ep, hidT_get e (noDict e d), d, r⟩
  have K_keep : K.In (hidT s1.heap H) := by
    intro b o e
    refine hidT_get (KX b o e) ?_
    match q : H b with
    | none => rfl
    | some u =>
      rcases hA b (by rw [q]; exact fun z => by cases z) with eb | eb
      · rw [eb] at e q
        rw [hK (by rw [q]; exact fun z => by cases z)] at e
        cases e
      · obtain ⟨p, hp, ep⟩ := List.mem_map.mp eb
        rw [← ep, tK p hp] at e
        cases e
  have hM : Mod K mg (hidT s1.heap H) := ⟨K_keep, ns_keep hns, ⟨mb, ns_keep hb, hbb⟩, by obtain ⟨mc, z1, z2⟩ := hlim; exact ⟨mc, ns_keep z1, z2⟩⟩
  have notG : ∀ {b : Addr}, b ∈ ts.map (·.2.1) → mainGlobals ≠ b := fun {b} z e => by
    obtain ⟨o, es, ep, e1, d, _⟩ := hns
    rw [e, isT z] at e1
    cases e1
    cases d
  have TB : ∀ p ∈ ts, TabB (hidT s1.heap H) mg p.1 p.2.1 := fun p hp => by
    have hm : p.2.1 ∈ ts.map (·.2.1) := List.mem_map.mpr ⟨p, hp, rfl⟩
    refine ⟨?_, ?_, notG hm⟩
    · obtain ⟨o, us, file, tf, flags, tg, inF, text, tt, e1, r1, r2, r3, r⟩ := tC p hp
      exact ⟨o, us, file, tf, flags, tg, inF, text, tt, hidT_get e1 (free e1 (fun us n z => by rw [r2] at z; cases z) fun z => by rw [r2] at z; cases z; simp at r3), r1, r2, r3, r⟩
    · obtain ⟨bm, ob, b1, b2, b3, b4, b5, b6⟩ := hbm
      refine ⟨bm, ob, b1, b2, fun q => ?_, fun q => ?_, hidT_get b3 (free b3 (fun us n z => by rw [b6] at z; cases z) fun z => by rw [b6] at z; cases z), b4, b5, b6⟩
      · obtain ⟨o, es, ep, e1, d, _⟩ := hns
        rw [q, e1] at b3
        cases b3
        rw [d] at b6
        cases b6
      · rw [q, isT hm] at b3
        cases b3
        cases b6
  have e0 : Env0 P w K mg (hidT s1.heap H) callerA [] s1 H := ⟨rfl, hM, fun b o e => of_hidT e, Nat.le_of_eq (hidT_size _ _), trivial, (fun b z => absurd (show b ∈ ([] : List Addr) from z) (by simp)), hok, .of_eq hg⟩
  have rl : ReL K H (tabM ts) a (ns.map V.int) := hS.elim (fun z => .inl ⟨tabM_none aT, z⟩) .inr
  have mu0 : Mut K H (tabM ts) := fun b mo z => by
    obtain ⟨p, hp, e, rfl⟩ := tabM_some z
    subst e
    exact ⟨_, hH p hp, .tbl trivial fun pos cv c => by have c' : codeAmong pos [] = some cv := c; cases c'⟩
  have sp0 : spOf K (spLawT ts) [.ref a] H (fun v _ => v = .bl true) fun _ _ _ => False := by
    refine ⟨[.lst (ns.map D.int)], tabM ts, fun d _ => d = .bl true, fun _ _ _ => False, .cons (.lst rl (reps_ints ns)) .nil, mu0, ⟨ns, rfl, hl, rfl, fun _ => rfl⟩, ?_, fun _ _ _ _ _ _ _ _ z => z⟩
    rintro v H' d M' _ _ r rfl
    cases r
    rfl
  refine codeAny_mono ((F _ K_keep (ns_keep hns) TB).run callerA [] s1 H ⟨[.ref a], []⟩ [.ref a] [.ref a] _ _ hr rfl e0 (hbind s1 (.ref a)) (.cons rfl .nil) sp0) ?_
  intro r s' h
  match r, h with
  | .error e, h => obtain ⟨_, _, _, _, _, _, _, _, _, _, _, _, z⟩ := h; exact z.elim
  | .ok .next, h => exact False.elim h
  | .ok .brk, h => exact False.elim h
  | .ok .cont, h => exact False.elim h
  | .ok (.ret u), h =>
    obtain ⟨v, H', os, bare, un, hok', r', q⟩ := h
    cases (show v = .bl true from q)
    cases r'
    have key : ∀ b o, b ∉ ts.map (·.2.1) → s1.heap.get? b = some o → s'.heap.get? b = some o := fun b o nb e => by
      match q : H b with
      | none => exact un.keep b o e q (fun z => nomatch z) (fun z => nomatch z)
      | some u =>
        obtain ⟨ob, xs, z⟩ := ((hO b).resolve_left (by rw [q]; exact fun z => by cases z)).resolve_left nb
        have t1 := (hok b _ z).1
        have t2 := (hok' b _ (un.frzs b ob _ z)).1
        rw [e] at t1
        cases t1
        exact t2
    have grew : ∀ p ∈ ts, ∃ more : Array Value, s'.heap.get? p.2.1 = some (tabO more) := fun p hp => by
      obtain ⟨more, z⟩ := un.tbls p.2.1 #[] (hH p hp)
      exact ⟨_, hok' p.2.1 _ z⟩
    refine ⟨rfl, ⟨fun b o e => ?_, fun b o e => ?_⟩, os, bare⟩
    · by_cases hb : b ∈ ts.map (·.2.1)
      · obtain ⟨p, hp, ep⟩ := List.mem_map.mp hb
        obtain ⟨more, hm⟩ := grew p hp
        subst ep
        rw [tT p hp] at e
        cases e
        exact .inr (.inl ⟨((tC p hp).tab (tT p hp)).isCodeTable, rfl, #[], more, rfl, by rw [Array.empty_append]; exact hm⟩)
      · exact .inl (key b o hb e)
    · by_cases hb : b ∈ ts.map (·.2.1)
      · obtain ⟨p, hp, ep⟩ := List.mem_map.mp hb
        obtain ⟨more, hm⟩ := grew p hp
        subst ep
        exact ⟨_, hm⟩
      · exact ⟨o, key b o hb e⟩
end Z

set_option Elab.async false
set_option linter.all false
set_option maxRecDepth 100000
set_option maxHeartbeats 4000000
namespace Z
local macro_rules | `(tactic| walk_at "z at") => `(tactic| first | rfl | (simp only [atI, ixN, List.length_cons, List.length_nil, List.length_map]; rfl) | assumption)
local macro_rules | `(tactic| walk_at "z1") => `(tactic| first
  | with_reducible refine w_seq ?_ | with_reducible refine w_set ?_ | with_reducible refine w_ret ?_ | with_reducible refine w_if ?_ | with_reducible refine w_asg ?_ | with_reducible refine w_next ?_ | with_reducible refine w_setIx ?_ | with_reducible refine w_par ?_
  | ((with_reducible refine' w_var ?h ?_); (case h => exact rfl))
  | with_reducible refine w_c ?_ | with_reducible refine w_op ?_ | with_reducible refine w_un ?_ | with_reducible refine w_cons ?_ | with_reducible refine w_nil ?_ | with_reducible refine w_cb ?_
  | with_reducible refine w_call ?_ | with_reducible refine w_callK ?_ | with_reducible refine w_testB ?_ | with_reducible refine w_tru ?_ | with_reducible refine w_andD ?_ | with_reducible refine w_orD ?_ | with_reducible refine w_notD ?_
  | with_reducible refine w_andE ?_ | with_reducible refine w_orE ?_ | with_reducible refine w_notE ?_ | with_reducible refine w_ifE ?_ | with_reducible refine w_is ?_ | with_reducible refine w_isN ?_ | with_reducible refine w_notN ?_ | with_reducible refine w_tupOf ?_
  | with_reducible refine w_tup ?_ | with_reducible refine w_lst ?_ | with_reducible refine w_lstM ?_ | with_reducible refine w_sl ?_ | with_reducible refine w_part ?_ | with_reducible refine w_noPart ?_ | with_reducible refine w_repr ?_ | with_reducible refine w_seqI ?_
  | with_reducible refine w_rdI ?_ | with_reducible refine w_rdB ?_ | with_reducible refine w_rdAdd ?_ | with_reducible refine w_neg ?_ | with_reducible refine w_lenL ?_ | with_reducible refine w_lenT ?_ | with_reducible refine w_abs ?_ | with_reducible refine w_int ?_ | with_reducible refine w_intB ?_ | with_reducible refine w_gcd ?_
  | with_reducible refine w_gname ?_ | with_reducible refine w_gnil ?_ | with_reducible refine w_gcons ?_
  | with_reducible refine w_true ?_ | with_reducible refine w_false ?_
  | dsimp only [truthD, seqD, isNonD, permL, List.filterMap] | with_reducible refine w_drop ?_ | with_reducible refine w_retN ?_ | with_reducible refine w_nilP ?_ | with_reducible refine w_consP ?_ | with_reducible refine w_rng ?_ | with_reducible refine w_cont ?_ | with_reducible refine w_brk ?_)
local macro_rules | `(tactic| walk_at "z") => `(tactic| repeat walk_at "z1")
open PySem L2 PySem.Spec PyProof.Rows LamX NdefX

theorem walkZT {l : PySem.W.OpenLaw} {k : Nat} {q : Program} {loose : List Str} {XP : (Str → Option Value) → Heap → Prop} {YP : World → Heap → Prop} {d : DefRec} {K : Params → PySem.W.Frag} {x : Str} (hn : l.most = some 63) (hdf : d.params.defaults = []) (hr : Room k callerA)
    (hY : ∀ (w : World) (h : Heap), YP w h → (K w.params).In h)
    (F : ∀ (w : World) (mg : Str → Option Value) (fa : Addr) (h : Heap), (K w.params).In h → h.Ns mainGlobals mg → mg d.name = some (.ref fa) → (∀ (y : Str) (a : Addr), ((recsOf q).any fun e => e.name == y) = true → mg y = some (.ref a) → OwnTab (K w.params) a h) →
      ∃ (fd : FuncData) (ts : List Tb), (∀ p ∈ ts, h.get? p.2.1 = some (tabO #[])) ∧ (∀ p ∈ ts, (K w.params).lookup p.2.1 = none) ∧ (∀ p ∈ ts, PySem.W.CodeHd h p.1 p.2.1) ∧ (∀ (s : Shared) (u : Value), BindsTo s fd ⟨[u], []⟩ [(x, u)]) ∧
        ∀ base : Heap, (K w.params).In base → base.Ns mainGlobals mg → (∀ p ∈ ts, TabB base mg p.1 p.2.1) → FnZ l.prog w (K w.params) mg base k fa fd [x] (spLawT ts)) :
    PySem.W.WalkO q loose XP YP l.row.toRowW d [] (fun f vs => PySem.call f vs) := by
  refine Att.attach_call hn hdf fun w s₀ s1 mg mb fa o pm cd doc a vs ns G Y ho hd hcd hmg hobj hints hlen hg => ?_
  have KX := hY w _ Y
  obtain ⟨fd, ts, tT, tK, tC, hb, hF⟩ := F w mg fa _ KX G.T.g hmg fun y a' hm my c P o1 fd1 e dd us sl k1 k2 k3 k4 k5 => by
    obtain ⟨dL, hdL, hne⟩ := List.any_eq_true.mp hm
    obtain ⟨a2, o2, fd2, c2, P2, h1, h2, h3, h4, _, ⟨⟨oc, vc, e1, _, e3, e4⟩, hP⟩⟩ := G.T.tab dL hdL
    rw [eq_of_beq hne, my] at h1
    cases h1
    rw [KX _ _ k1] at h2
    cases h2
    rw [k2] at h3
    cases h3
    rw [k3] at h4
    cases h4
    rw [KX _ _ k4] at e1
    cases e1
    cases e3
    rw [k5] at e4
    cases e4
    exact hP
  have rv := vals_ints hints
  have lenV := hints.length
  have run := fun H => law_fromT (H := H) (ns := ns) (ts := ts) KX G.T.g G.T.b G.T.builtins G.T.nolimit hg hobj hlen hr tT tK tC G.T.bmain hF hb
  have aT : a ∉ ts.map (·.2.1) := fun z => by
    obtain ⟨p, hp, e⟩ := List.mem_map.mp z
    have t := tT p hp
    rw [e, hobj] at t
    cases (show Data.seq vs.toArray _ = Data.fields #[] from congrArg Obj.data (Option.some.inj t))
  have mem : ∀ p ∈ ts, p.2.1 ∈ ts.map (·.2.1) := fun p hp => List.mem_map.mpr ⟨p, hp, rfl⟩
  have tOk : ∀ {H : Hp} {b : Addr}, b ∈ ts.map (·.2.1) → ObjOk l.prog w H s1.heap b (.tbl #[]) := fun {H b} z => by
    obtain ⟨p, hp, e⟩ := List.mem_map.mp z
    rw [← e]
    exact tT p hp
  cases hk : (K w.params).lookup a with
  | some ob =>
    have e := KX a ob hk
    rw [hobj] at e
    cases e
    have yes : ∀ b, b ∈ ts.map (·.2.1) → (if b ∈ ts.map (·.2.1) then some (HO.tbl #[]) else none) = some (.tbl #[]) := fun b z => if_pos z
    have no : ∀ b, b ∉ ts.map (·.2.1) → (if b ∈ ts.map (·.2.1) then some (HO.tbl #[]) else none) = none := fun b z => if_neg z
    refine run (fun b => if b ∈ ts.map (·.2.1) then some (.tbl #[]) else none) (fun p hp => yes _ (mem p hp)) (fun b => ?_) (.inr ⟨_, vs.toArray, _, hk, rfl, rfl, rfl, ?_, by simpa using rv⟩) (fun b u z => ?_) (fun b z => ?_) (fun z => absurd (no a aT) z)
    · by_cases m : b ∈ ts.map (·.2.1)
      · exact .inr (.inl m)
      · exact .inl (no b m)
    · rw [List.size_toArray, lenV, sizeLine_eq]
      omega
    · by_cases m : b ∈ ts.map (·.2.1)
      · have z' := (yes b m).symm.trans z
        cases z'
        exact tOk m
      · have z' := (no b m).symm.trans z
        cases z'
    · by_cases m : b ∈ ts.map (·.2.1)
      · exact .inr m
      · exact absurd (no b m) z
  | none =>
    let H0 : Hp := fun b => if b = a then some (.frz { cls := .type "list", data := .seq vs.toArray } (.lst (ns.map V.int))) else if b ∈ ts.map (·.2.1) then some (.tbl #[]) else none
    have self : H0 a = some (.frz { cls := .type "list", data := .seq vs.toArray } (.lst (ns.map V.int))) := if_pos rfl
    have yes : ∀ b, b ∈ ts.map (·.2.1) → H0 b = some (.tbl #[]) := fun b z => (if_neg fun e => aT (by rw [← show b = a from e]; exact z)).trans (if_pos z)
    have no : ∀ b, b ≠ a → b ∉ ts.map (·.2.1) → H0 b = none := fun b e z => (if_neg e).trans (if_neg z)
    refine run H0 (fun p hp => yes _ (mem p hp)) (fun b => ?_) (.inl (.inr ⟨_, self⟩)) (fun b u z => ?_) (fun b z => ?_) (fun _ => hk)
    · by_cases e : b = a
      · subst e
        exact .inr (.inr ⟨_, _, self⟩)
      · by_cases m : b ∈ ts.map (·.2.1)
        · exact .inr (.inl m)
        · exact .inl (no b e m)
    · by_cases e : b = a
      · subst e
        cases self.symm.trans z
        refine ⟨hobj, ?_, vs, _, rv, hobj⟩
        rw [List.length_map, sizeLine_eq]
        omega
      · by_cases m : b ∈ ts.map (·.2.1)
        · cases (yes b m).symm.trans z
          exact tOk m
        · cases (no b e m).symm.trans z
    · by_cases e : b = a
      · exact .inl e
      · by_cases m : b ∈ ts.map (·.2.1)
        · exact .inr m
        · exact absurd (no b e m) z

/-! ### a def whose code object is known (it makes lambdas) -/
structure FunC (K : PySem.W.Frag) (x qual : Str) (st : Stmt) (f : Addr) (fd : FuncData) (c : Addr) : Prop where
  ex : ∃ (oc : Value) (od : Option Addr) (kV doc pm : Value) (an : Option Addr) (ct : Value) (osl : Array (Option Value)),
    fd = PySem.W.fnOf x qual (defArgs st) (defBody st) (defScope st) .none kV doc pm an (.ref c) ct ∧ K.lookup f = some ⟨oc, od, .func fd, osl⟩ ∧ PySem.W.codeIn K (.ref c) qual = true
  kp : PySem.W.keepIn K (.ref f) = true
theorem FunC.to {K : PySem.W.Frag} {x qual : Str} {st : Stmt} {f c : Addr} {fd : FuncData} (F : FunC K x qual st f fd c) : Fun K x qual st f fd := by
  obtain ⟨oc, od, kV, doc, pm, an, ct, osl, e, l, h⟩ := F.ex
  exact ⟨⟨oc, od, kV, doc, pm, an, .ref c, ct, osl, e, l, h⟩, F.kp⟩
section
variable {P : Program} {w : World} {K : PySem.W.Frag} {mg : Str → Option Value} {base : Heap}
theorem fnZc {x qual : Str} {st : Stmt} {f c : Addr} {fd : FuncData} {N ps : List Str} {k : Nat} {sp : SpD} {t : TSD} (F : FunC K x qual st f fd c) (S : FnScope N ps (defScope st)) (len : ∀ ds M F E, sp ds M F E → ds.length = ps.length)
    (hb : ∀ (A : Around) (outer : List Env) (s : Shared) (H : Hp) (E : XK), Room k (A.deeper (envOfC qual (defScope st) s.heap.objs.size f (.ref c))) → A.guards = some [] → PDB (cxOf (L2.CX P w) P w K mg base N qual (defScope st) f (.ref c) A outer s H E) (defBody st) t)
    (wp : ∀ ds M F FE, sp ds M F FE → t (fun C fs _ M => FE C fs M) { nx := fun _ M => F .non M, rt := F } (startD N ds) M) : FnZ P w K mg base (k + 1) f fd ps sp := by
  obtain ⟨oc, od, kV, doc, pm, an, ct, osl, rfl, lk, hcd⟩ := F.ex
  refine ⟨len, fun A outer s H args us vs Q E hr hgd e0 hbd r hsp => ?_⟩
  obtain ⟨ds, M, G, FE, rr, mu, h, kq, ke⟩ := hsp
  have hl : vs.length = ps.length := by rw [rr.length]; exact len _ _ _ _ h
  have old : ∀ b o, base.get? b = some o → s.heap.get? b = some o := fun b o e => (e0.bs b o e).1
  have KX := e0.mod.kin.keeps old
  have lim := e0.mod.nolimit.keeps old
  refine codeAny_call_function hr.depth (KX _ _ lk) rfl S.co S.gen rfl (PySem.W.codeRec_of KX hcd) (hbd _ _ _ _ ?_)
  refine wpAny_newFunctionEnv_cells S.kind (fun y hy => ?_) fun env he s1 x => ?_
  · obtain ⟨n, v⟩ := y
    exact (S.par n (List.of_mem_zip hy).1).imp id fun q => ⟨q, PySem.W.cellsFrom_some _ _ _ (.inl q)⟩
  subst he
  refine ⟨lim.keeps x.toInCall.keep, codeAny_func ?_⟩
  have I := inv_start (CX := L2.CX P w) (w := w) (cd := .ref c) (E := E) S hr.hd e0 hl r x
  have at_ : At (cxOf (L2.CX P w) P w K mg base N qual (defScope st) f (.ref c) A outer s H E) (cxOf (L2.CX P w) P w K mg base N qual (defScope st) f (.ref c) A outer s H E).pn (cxOf (L2.CX P w) P w K mg base N qual (defScope st) f (.ref c) A outer s H E).xe H M (fun C fs _ M => FE C fs M) := by
    refine ⟨Takes.imp (takes_of rfl rfl rfl rfl) fun c d σ H' ⟨C, ds', τ, M', e, ex, g, sl, mu', q⟩ => ?_, passes_of rfl⟩
    subst e
    exact ke C ds' d H' M' g mu' ex q
  have body := hb A outer s H E (hr.deeper _) hgd _ _ H M _ at_
  refine wpAny_mono (body.run [] s1 _ H { nx := fun _ H' => Q .non H', rt := Q } I ⟨startD N ds, M, _, .refl, slots_start rr, mu, wp ds M G FE h, ?_, ?_, ?_, ?_⟩) (fun fl s' hs => ?_) fun e s' hs => hs
  · rintro σ' H' ⟨τ, M', g, sl, mu', q⟩
    exact kq _ _ _ _ g mu' .non q
  · rintro v H' ⟨d, M', g, mu', r', q⟩
    exact kq _ _ _ _ g mu' r' q
  · rintro σ' H' ⟨τ, M', g, sl, mu', q⟩
    exact q.elim
  · rintro σ' H' ⟨τ, M', g, sl, mu', q⟩
    exact q.elim
  · have fin : ∀ {σ' : L2.St} {H' : Hp} {v : V} {u : Value}, Inv (cxOf (L2.CX P w) P w K mg base N qual (defScope st) f (.ref c) A outer s H E) [] σ' H' s' → RelV v u → Q v H' → CE outer P w H s Q u s' :=
      fun {σ' H' v u} J rv q => ⟨v, H', J.os, J.bare, J.base, J.hok, rv, q⟩
    cases fl with
    | ret u => obtain ⟨v, σ', H', J, rv, q⟩ := hs; exact fin J rv q
    | next => obtain ⟨σ', H', J, q⟩ := hs; exact fin (v := V.non) (u := Value.none) J rfl q
    | brk => obtain ⟨_, _, _, q⟩ := hs; exact q.elim
    | cont => obtain ⟨_, _, _, q⟩ := hs; exact q.elim
theorem FnZ.mono {j k : Nat} {f : Addr} {fd : FuncData} {ps : List Str} {sp : SpD} (F : FnZ P w K mg base j f fd ps sp) (h : j ≤ k) : FnZ P w K mg base k f fd ps sp := ⟨F.len, fun A outer s H args us vs Q E hr => F.run A outer s H args us vs Q E (hr.mono h)⟩
end

/-! ### a def called by a name that stands for it -/
structure Cand (P : Program) (w : World) (K : PySem.W.Frag) (mg : Str → Option Value) (base : Heap) (k : Nat) where
  f : Addr
  fd : FuncData
  ps : List Str
  sp : SpD
  ok : FnZ P w K mg base k f fd ps sp
  kp : PySem.W.keepIn K (.ref f) = true
  bd : Binds K fd ps []
def tCallV (i : Nat) (l : List (Addr × SpD)) (ta : TAD) : TED := fun W τ M Q => ∃ p ∈ l, getN τ i = some (.ref p.1) ∧ ta W τ M fun ds M1 => p.2 ds M1 Q (fun C fs M' => W C fs τ M')
section
variable {X : Cx} {k i : Nat} {x : Str} {e : Expr} {es : List Expr} {ta : TAD} {pos p : Pos}
theorem pd_callV (cs : List (Cand X.prog X.w X.K X.mg X.base k)) (hr : Room k X.A) (hgd : X.A.guards = some []) (ha : PDA X (e :: es) ta) (hi : X.N[i]? = some x := by rfl) (hv : Vis X.env.scope x := by first | exact Or.inl rfl | exact Or.inr (Or.inl rfl) | exact Or.inr (Or.inr rfl))
    (hdb : (x == ("__debug__" : Str)) = false := by decide) (hcd : (x == ("__classdict__" : Str)) = false := by decide) (he : starEach (e :: es) X.env = (false, eval e X.env) :: starEach es X.env := by rfl) (hpl : (backTo pos (starEach es X.env)).any (·.1) = false := by rfl) :
    PD X (.Call (.Name x p) (e :: es) [] pos) (tCallV i (cs.map fun c => (c.f, c.sp)) ta) := fun pn xe H0 M0 W at_ => by
  refine ⟨fun pins s σ H Q I ⟨τ, M, G, g0, sl, mu, ⟨q0, hq0, hs, h⟩, kk⟩ => ?_⟩
  obtain ⟨c, hc, rfl⟩ := List.mem_map.mp hq0
  have hσ : σ[i]? = some (some (.ref c.f)) := by
    obtain ⟨v, e1, r⟩ := sl.2 i _ (getN_some hs)
    cases r
    exact e1
  refine wpAny_Call_Name_kw (thn ((pe_var (X := X.tr pn xe) (pos := p) (i := i) hi hv hdb hcd).run pins s σ H (fun v H1 => v = .ref c.f ∧ H1 = H) I ⟨.ref c.f, hσ, rfl, rfl⟩) fun u s0 ⟨v, H1, I0, r1, ev, eH⟩ => ?_)
  subst ev eH
  obtain rfl : u = Value.ref c.f := r1
  refine PySem.W.callWith_K (h₀ := X.base) I0.ok.mod.kin c.kp (thn ((ha pn xe H0 M0 W at_).run pos pins s0 σ H1 (fun vs H2 => vs.length = c.ps.length ∧ spOf X.K c.sp vs H2 Q (WE (liftW X.K H0 M0 W) σ)) I0 ?_) fun us s1 ⟨vs, H2, I1, r, hl, q⟩ => ⟨I1.kIn, ?_⟩) he hpl
  · exact ⟨τ, M, _, g0, sl, mu, h, fun vs H2 ds M1 g1 mu1 r1 h1 => ⟨by rw [r1.length]; exact c.ok.len _ _ _ _ h1, sp_of_call (X := X) g0 sl kk g1 mu1 r1 h1⟩⟩
  · have hx := passAt at_.tk σ
    have hbd := c.bd s1 us I1.kIn (by rw [List.append_nil, ← r.length]; exact hl)
    rw [List.append_nil] at hbd
    refine wpAny_call (codeAny_mono (c.ok.run X.A X.stack s1 H2 ⟨us, []⟩ us vs Q (WE (liftW X.K H0 M0 W) σ) hr hgd I1.env0 hbd r q) fun r s' hq => ?_)
    cases r with
    | error e => exact hx pins H2 s1 e s' I1 hq
    | ok fl =>
      cases fl with
      | ret u => exact I1.after hq
      | next => exact hq.elim
      | brk => exact hq.elim
      | cont => exact hq.elim
end
end Z

set_option Elab.async false
set_option linter.all false
set_option maxRecDepth 100000
set_option maxHeartbeats 4000000
namespace Z
local macro_rules | `(tactic| walk_at "z at") => `(tactic| first | rfl | (simp only [atI, ixN, List.length_cons, List.length_nil, List.length_map]; rfl) | assumption)
local macro_rules | `(tactic| walk_at "z1") => `(tactic| first
  | with_reducible refine w_seq ?_ | with_reducible refine w_set ?_ | with_reducible refine w_ret ?_ | with_reducible refine w_if ?_ | with_reducible refine w_asg ?_ | with_reducible refine w_next ?_ | with_reducible refine w_setIx ?_ | with_reducible refine w_par ?_
  | ((with_reducible refine' w_var ?h ?_); (case h => exact rfl))
  | with_reducible refine w_c ?_ | with_reducible refine w_op ?_ | with_reducible refine w_un ?_ | with_reducible refine w_cons ?_ | with_reducible refine w_nil ?_ | with_reducible refine w_cb ?_
  | with_reducible refine w_call ?_ | with_reducible refine w_callK ?_ | with_reducible refine w_testB ?_ | with_reducible refine w_tru ?_ | with_reducible refine w_andD ?_ | with_reducible refine w_orD ?_ | with_reducible refine w_notD ?_
  | with_reducible refine w_andE ?_ | with_reducible refine w_orE ?_ | with_reducible refine w_notE ?_ | with_reducible refine w_ifE ?_ | with_reducible refine w_is ?_ | with_reducible refine w_isN ?_ | with_reducible refine w_notN ?_ | with_reducible refine w_tupOf ?_
  | with_reducible refine w_tup ?_ | with_reducible refine w_lst ?_ | with_reducible refine w_lstM ?_ | with_reducible refine w_sl ?_ | with_reducible refine w_part ?_ | with_reducible refine w_noPart ?_ | with_reducible refine w_repr ?_ | with_reducible refine w_seqI ?_
  | with_reducible refine w_rdI ?_ | with_reducible refine w_rdB ?_ | with_reducible refine w_rdAdd ?_ | with_reducible refine w_neg ?_ | with_reducible refine w_lenL ?_ | with_reducible refine w_lenT ?_ | with_reducible refine w_abs ?_ | with_reducible refine w_int ?_ | with_reducible refine w_intB ?_ | with_reducible refine w_gcd ?_
  | with_reducible refine w_gname ?_ | with_reducible refine w_gnil ?_ | with_reducible refine w_gcons ?_
  | with_reducible refine w_true ?_ | with_reducible refine w_false ?_
  | dsimp only [truthD, seqD, isNonD, permL, List.filterMap] | with_reducible refine w_drop ?_ | with_reducible refine w_retN ?_ | with_reducible refine w_nilP ?_ | with_reducible refine w_consP ?_ | with_reducible refine w_rng ?_ | with_reducible refine w_cont ?_ | with_reducible refine w_brk ?_)
local macro_rules | `(tactic| walk_at "z") => `(tactic| repeat walk_at "z1")
open PySem L2 PySem.Spec PyProof.Rows LamX NdefX

/-! ### list(x), all(x) -/
def rdListOf : RCD := fun ds M F => match ds with | [d] => (match seqD d with | some xs => F (.lst xs) M | none => False) | _ => False
theorem simListOf {K : PySem.W.Frag} : SimC K (fun xs H Q => ∃ p ys, xs = [.ref p] ∧ (SqL K H p ys ∨ SqT K H p ys) ∧ ∀ l, H l = none → Q (.ref l) (upd H l (.lst ys))) rdListOf := fun xs ds H M F Q r mu h k => by
  cases r with
  | nil => exact h.elim
  | cons r t =>
    cases t with
    | cons _ _ => exact h.elim
    | nil =>
      have fin : ∀ {ys : List V} {es : List D}, Reps K H M ys es → F (.lst es) M → ∀ l, H l = none → Q (.ref l) (upd H l (.lst ys)) := fun rs q l hl =>
        k _ _ _ _ (good_new hl) (mut_new mu hl) (.lst (.inl ⟨mut_none mu hl, .inl upd_same⟩) (rs.good (good_new hl))) q
      cases r with
      | lst rr rs => exact ⟨_, _, rfl, .inl rr.sq, fin rs h⟩
      | tup rr rs => exact ⟨_, _, rfl, .inr rr.sq, fin rs h⟩
      | _ => exact h.elim
def blsD : List D → Option (List Bool)
  | [] => some []
  | .bl b :: r => (blsD r).map (b :: ·)
  | _ => none
theorem blsD_reps {K : PySem.W.Frag} {H : Hp} {M : MH} : ∀ {vs : List V} {ds : List D} {bs : List Bool}, Reps K H M vs ds → blsD ds = some bs → vs = bs.map V.bl
  | _, _, _, .nil, e => by cases e; rfl
  | _, _, bs, .cons (d := d) (ds := ds) r t, e => by
    cases d <;> simp only [blsD] at e <;> try (cases e; done)
    cases r
    cases e2 : blsD ds with
    | none => rw [e2] at e; cases e
    | some l =>
      rw [e2] at e
      cases e
      rw [blsD_reps t e2]
      rfl
def rdAll : RCD := fun ds M F => match ds with | [.lst xs] => (match blsD xs with | some bs => F (.bl (bs.all id)) M | none => False) | _ => False
theorem simAll {K : PySem.W.Frag} : SimC K (rAll K) rdAll := fun xs ds H M F Q r mu h k => by
  unfold rdAll at h
  split at h
  · cases r with
    | cons r t =>
      cases t
      cases r with
      | lst rr rs =>
        split at h
        · rename_i bs e
          have e2 := blsD_reps rs e
          subst e2
          exact ⟨_, bs, rfl, rr.sq, k _ _ _ _ .refl mu (.bl _) h⟩
        · exact h.elim
  · exact h.elim
section
variable {X : Cx} {e a : Expr} {es : List Expr} {ts : TAD} {ta : TED} {pos p p2 p3 p4 : Pos}
theorem pd_listOf (hm : X.mg "list" = none) (ha : PDA X (e :: es) ts) (hg : Gl X "list" := by rfl) (he : starEach (e :: es) X.env = (false, eval e X.env) :: starEach es X.env := by rfl) (hpl : (backTo pos (starEach es X.env)).any (·.1) = false := by rfl) :
    PD X (.Call (.Name "list" p) (e :: es) [] pos) (tCBD rdListOf ts) := pd_bt hm (by decide +kernel) (fun pn xe => call_list_of (X := X.tr pn xe)) simListOf ha hg (by decide) (by decide) he hpl
theorem pd_all (hc : X.calm = true) (hm : X.mg "all" = none) (ha : PDA X (e :: es) ts) (hg : Gl X "all" := by rfl) (he : starEach (e :: es) X.env = (false, eval e X.env) :: starEach es X.env := by rfl) (hpl : (backTo pos (starEach es X.env)).any (·.1) = false := by rfl) :
    PD X (.Call (.Name "all" p) (e :: es) [] pos) (tCBD rdAll ts) := pd_bf hm (by decide +kernel) (fun pn xe => cr_all (X := X.tr pn xe) hc) simAll ha hg (by decide) (by decide) he hpl

/-! ### isinstance(x, (C, D)): an own error, or None -/
def isE2 (all : List Addr) (L C1 C2 : Addr) (d : D) : Option Bool := match d with
  | .exn C _ => if C ∈ all then some ((decide (C = C1) || decide (C1 = L)) || (decide (C = C2) || decide (C2 = L))) else none
  | .non => some false
  | _ => none
theorem none_kit {K : PySem.W.Frag} {L D : Addr} {fl : List Str} (U : ExG K L D fl) : PySem.W.kitOne K (.type "NoneType") (.ref D) = some false := by
  have e2 : ((PySem.W.clsIn K D).isSome && PySem.W.typeIn K (.ref D) == some (.type "type")) = true := by
    have h1 : (PySem.W.clsIn K D).isSome = true := U.k.ic
    rw [h1, U.k.o.tyC]
    rfl
  have e : (Value.type "NoneType" == Value.ref D) = false := rfl
  unfold PySem.W.kitOne PySem.W.kitCls
  simp only [e, e2, if_true, Bool.false_eq_true, if_false]
  show (fastBuiltinMro "NoneType").map (·.contains (.ref D)) = some false
  have m : fastBuiltinMro "NoneType" = some [.type "NoneType", .type "object"] := by decide +kernel
  rw [m]
  rfl
theorem pd_isX2 {x y : Str} {all : List Addr} {L C1 C2 : Addr} {fl : List Str} {kk} (hx : ∀ C ∈ all, ExG X.K L C fl) (h1 : C1 ∈ all) (h2 : C2 ∈ all) (hi : X.mg "isinstance" = none) (hm : X.mg x = some (.ref C1)) (hm2 : X.mg y = some (.ref C2)) (ha : PD X a ta) (hg : Gl X x := by rfl) (hgy : Gl X y := by rfl)
    (hd : (x == ("__debug__" : Str)) = false := by decide) (hdy : (y == ("__debug__" : Str)) = false := by decide) (hg2 : Gl X "isinstance" := by rfl) (he : starEach [a, .Tuple [.Name x p, .Name y p2] kk p3] X.env = (false, eval a X.env) :: starEach [.Tuple [.Name x p, .Name y p2] kk p3] X.env := by rfl)
    (he2 : starEach [.Tuple [.Name x p, .Name y p2] kk p3] X.env = [(false, eval (.Tuple [.Name x p, .Name y p2] kk p3) X.env)] := by rfl) (he3 : starEach [.Name x p, .Name y p2] X.env = (false, eval (.Name x p) X.env) :: starEach [.Name y p2] X.env := by rfl) (he4 : starEach [.Name y p2] X.env = [(false, eval (.Name y p2) X.env)] := by rfl)
    (hpl : (backTo pos (starEach [.Tuple [.Name x p, .Name y p2] kk p3] X.env)).any (·.1) = false := by rfl) : PD X (.Call (.Name "isinstance" p4) [a, .Tuple [.Name x p, .Name y p2] kk p3] [] pos) (tIs (isE2 all L C1 C2) ta) := fun pn xe H0 M0 W at_ => by
  have cr : CallR (X.tr pn xe) (.builtin "isinstance") (fun xs H Q => ∃ v tp b, xs = [v, .ref tp] ∧ H tp = some (.tup [.ref C1, .ref C2]) ∧ ((v = .non ∧ b = false) ∨ ∃ a C dx, v = .ref a ∧ H a = some (.ext (ExcAt a C dx)) ∧ (∀ d, dx = some d → ∃ ws, H d = some (.xd ws)) ∧ C ∈ all ∧ b = ((decide (C = C1) || decide (C1 = L)) || (decide (C = C2) || decide (C2 = L)))) ∧ Q (.bl b) H) := by
    intro pins s σ H xs us Q I r h
    obtain ⟨v, tp, b, rfl, hT, hv, q⟩ := h
    cases r with
    | cons rx rr =>
      cases rr with
      | cons rt rr =>
        cases rr
        rename_i u1 u2
        obtain rfl : u2 = Value.ref tp := rt
        obtain ⟨_, its, rv, o, t1, t2, n, t3⟩ := (show ObjOk X.prog X.w H s.heap tp (.tup [.ref C1, .ref C2]) from I.hok tp _ hT)
        obtain ⟨oc, od, dt, sl⟩ := o
        simp only at t2 t3
        subst t2 t3
        have ei : its = [.ref C1, .ref C2] := by
          cases rv with
          | cons r1 rv =>
            cases rv with
            | cons r2 rv =>
              cases rv
              obtain rfl : _ = Value.ref C1 := r1
              obtain rfl : _ = Value.ref C2 := r2
              rfl
        subst ei
        rcases hv with ⟨rfl, rfl⟩ | ⟨a, C, dx, rfl, e, hdx, hC, rfl⟩
        · obtain ⟨P, Z, pz, hz⟩ := kit_of I rx (.base .non)
          exact PySem.W.kia_tup Z I.kIn pz t1 (kitAny_cons (none_kit (hx C1 h1)) (fun _ => kitAny_cons (none_kit (hx C2 h2)) (fun _ => kitAny_nil) fun z => by cases z) fun z => by cases z) hz fun tk => ⟨.bl false, H, I.tok tk, rfl, q⟩
        · obtain rfl : u1 = Value.ref a := rx
          have T := (hx C hC).k
          obtain ⟨oe, vs, g1, g2, g3, g4⟩ := exc_at (X := X.tr pn xe) I e
          have J : ∃ od, PySem.W.InstAt s.heap a oe C od := by
            cases dx with
            | none => exact ⟨none, g1, g2, by unfold PySem.W.notCls; rw [g4] <;> trivial, by rw [g3]; trivial⟩
            | some d =>
              obtain ⟨ws, hw⟩ := hdx d rfl
              obtain ⟨mA, hns, _⟩ := (show ObjOk X.prog X.w H s.heap d (.xd ws) from I.hok d _ hw)
              obtain ⟨od, ho, hl⟩ := lookIn_ns hns
              exact ⟨some od, g1, g2, by unfold PySem.W.notCls; rw [g4] <;> trivial, by rw [g3]; exact ho⟩
          obtain ⟨od, J⟩ := J
          refine PySem.W.kia_tup (PySem.W.kitx_exc T.ic T.ga T.gg T.o.exC T.ca T.sg T.tg T.om) I.kIn J t1 (kitAny_cons (exg_kit (hx C hC) (hx C1 h1)) (fun z => kitAny_cons (exg_kit (hx C hC) (hx C2 h2)) (fun z2 => ?_) fun z2 => ?_) fun z => ?_) (fun z => nomatch z) fun tk => ⟨.bl _, H, I.tok tk, rfl, q⟩
          · rw [z, z2]; exact kitAny_nil
          · rw [z, z2]; rfl
          · rw [z]; rfl
  refine imE (pe_callB (X := X.tr pn xe) cr hg2 hi (by decide +kernel) (pa_cons (ha pn xe H0 M0 W at_) (pa_cons (pe_tup (pa_cons (pe_glob (X := X.tr pn xe) (v := .ref C1) hg hm rfl hd) (pa_cons (pe_glob (X := X.tr pn xe) (v := .ref C2) hgy hm2 rfl hdy) pa_nil he4) he3)) pa_nil he2) he) (by decide) (by decide) he hpl) fun σ H Q ⟨τ, M, F, g0, sl, mu, h, k⟩ => upE_fin g0 sl mu h fun v H1 d M1 g1 mu1 r1 q => ?_
  refine ⟨by show 2 ≤ sizeLine; decide, fun t ht => ?_⟩
  have gn : Good H1 M1 (upd H1 t (.tup [.ref C1, .ref C2])) M1 := good_new ht
  have r2 := r1.good gn
  cases r2 with
  | non => exact ⟨.non, t, false, rfl, upd_same, .inl ⟨rfl, rfl⟩, k _ _ _ _ (g1.trans gn) (mut_new mu1 ht) (.bl _) q⟩
  | @exn a C dx fs ds m m2 e e2 rf =>
    dsimp only [isE2] at q
    split at q
    · rename_i hC b eb
      split at eb
      · rename_i hC; cases eb; exact ⟨.ref a, t, _, rfl, upd_same, .inr ⟨a, C, some dx, rfl, e, fun d hd => (by cases hd; exact ⟨_, e2⟩), hC, rfl⟩, k _ _ _ _ (g1.trans gn) (mut_new mu1 ht) (.bl _) q⟩
      · cases eb
    · exact q.elim
  | @exn0 a C m e =>
    dsimp only [isE2] at q
    split at q
    · rename_i hC b eb
      split at eb
      · rename_i hC; cases eb; exact ⟨.ref a, t, _, rfl, upd_same, .inr ⟨a, C, none, rfl, e, fun d hd => (by cases hd), hC, rfl⟩, k _ _ _ _ (g1.trans gn) (mut_new mu1 ht) (.bl _) q⟩
      · cases eb
    · exact q.elim
  | _ => exact q.elim
end
end Z

set_option Elab.async false
set_option linter.all false
set_option maxRecDepth 100000
set_option maxHeartbeats 4000000
namespace Z
local macro_rules | `(tactic| walk_at "z at") => `(tactic| first | rfl | (simp only [atI, ixN, List.length_cons, List.length_nil, List.length_map]; rfl) | assumption)
local macro_rules | `(tactic| walk_at "z1") => `(tactic| first
  | with_reducible refine w_seq ?_ | with_reducible refine w_set ?_ | with_reducible refine w_ret ?_ | with_reducible refine w_if ?_ | with_reducible refine w_asg ?_ | with_reducible refine w_next ?_ | with_reducible refine w_setIx ?_ | with_reducible refine w_par ?_
  | ((with_reducible refine' w_var ?h ?_); (case h => exact rfl))
  | with_reducible refine w_c ?_ | with_reducible refine w_op ?_ | with_reducible refine w_un ?_ | with_reducible refine w_cons ?_ | with_reducible refine w_nil ?_ | with_reducible refine w_cb ?_
  | with_reducible refine w_call ?_ | with_reducible refine w_callK ?_ | with_reducible refine w_testB ?_ | with_reducible refine w_tru ?_ | with_reducible refine w_andD ?_ | with_reducible refine w_orD ?_ | with_reducible refine w_notD ?_
  | with_reducible refine w_andE ?_ | with_reducible refine w_orE ?_ | with_reducible refine w_notE ?_ | with_reducible refine w_ifE ?_ | with_reducible refine w_is ?_ | with_reducible refine w_isN ?_ | with_reducible refine w_notN ?_ | with_reducible refine w_tupOf ?_
  | with_reducible refine w_tup ?_ | with_reducible refine w_lst ?_ | with_reducible refine w_lstM ?_ | with_reducible refine w_sl ?_ | with_reducible refine w_part ?_ | with_reducible refine w_noPart ?_ | with_reducible refine w_repr ?_ | with_reducible refine w_seqI ?_
  | with_reducible refine w_rdI ?_ | with_reducible refine w_rdB ?_ | with_reducible refine w_rdAdd ?_ | with_reducible refine w_neg ?_ | with_reducible refine w_lenL ?_ | with_reducible refine w_lenT ?_ | with_reducible refine w_abs ?_ | with_reducible refine w_int ?_ | with_reducible refine w_intB ?_ | with_reducible refine w_gcd ?_
  | with_reducible refine w_gname ?_ | with_reducible refine w_gnil ?_ | with_reducible refine w_gcons ?_
  | with_reducible refine w_true ?_ | with_reducible refine w_false ?_
  | dsimp only [truthD, seqD, isNonD, permL, List.filterMap] | with_reducible refine w_drop ?_ | with_reducible refine w_retN ?_ | with_reducible refine w_nilP ?_ | with_reducible refine w_consP ?_ | with_reducible refine w_rng ?_ | with_reducible refine w_cont ?_ | with_reducible refine w_brk ?_)
local macro_rules | `(tactic| walk_at "z") => `(tactic| repeat walk_at "z1")
open PySem L2 PySem.Spec PyProof.Rows LamX NdefX

/-! ### [e, ..] * n -/
def tRepD (n : Int) (ts : TAD) : TED := fun W τ M Q => ts W τ M fun ds M1 => 0 ≤ n ∧ n ≤ 1000 ∧ ds.length ≤ 1000 ∧ Q (.lst (List.replicate n.toNat ds).flatten) M1
theorem reps_rep {K : PySem.W.Frag} {H : Hp} {M : MH} {vs : List V} {ds : List D} (r : Reps K H M vs ds) : ∀ n : Nat, Reps K H M (List.replicate n vs).flatten (List.replicate n ds).flatten
  | 0 => .nil
  | n + 1 => by
    rw [List.replicate_succ, List.replicate_succ, List.flatten_cons, List.flatten_cons]
    exact r.append (reps_rep r n)
theorem pd_repL {X : Cx} {es : List Expr} {ts : TAD} {n : Int} {j} {lp cp pos : Pos} (ha : PDA X es ts) : PD X (.BinOp (.List es lp) .Mult (.Constant (.int n) j cp) pos) (tRepD n ts) := fun pn xe H0 M0 W at_ =>
  imE (pe_op (X := X.tr pn xe) op_rep (pe_lst (ha pn xe H0 M0 W at_)) pe_int) fun σ H Q ⟨τ, M, F, g0, sl, mu, h, k⟩ => ⟨τ, M, _, g0, sl, mu, h, fun vs H1 ds M1 g1 mu1 r ⟨n0, n1, hl, q⟩ => by
    have hz : ds.length * n.toNat ≤ 1000 * 1000 := Nat.mul_le_mul hl (by omega)
    refine ⟨by rw [r.length, sizeLine_eq]; omega, fun p hp => ?_⟩
    refine ⟨p, n, vs, rfl, rfl, upd_same, by omega, by omega, by rw [r.length, sizeLine_eq]; omega, fun l hl2 => ?_⟩
    have nl : H1 l = none := upd_none hl2
    have g2 : Good H1 M1 (upd (upd H1 p (.lst vs)) l (.lst (List.replicate n.toNat vs).flatten)) M1 := (good_new hp).trans (good_new hl2)
    exact k _ _ _ M1 (g1.trans g2) (mut_new (mut_new mu1 hp) hl2) (.lst (.inl ⟨mut_none mu1 nl, .inl upd_same⟩) ((reps_rep r _).good g2)) q⟩
end Z

set_option Elab.async false
set_option linter.all false
set_option maxRecDepth 100000
set_option maxHeartbeats 4000000
namespace Z
local macro_rules | `(tactic| walk_at "z at") => `(tactic| first | rfl | (simp only [atI, ixN, List.length_cons, List.length_nil, List.length_map]; rfl) | assumption)
local macro_rules | `(tactic| walk_at "z1") => `(tactic| first
  | with_reducible refine w_seq ?_ | with_reducible refine w_set ?_ | with_reducible refine w_ret ?_ | with_reducible refine w_if ?_ | with_reducible refine w_asg ?_ | with_reducible refine w_next ?_ | with_reducible refine w_setIx ?_ | with_reducible refine w_par ?_
  | ((with_reducible refine' w_var ?h ?_); (case h => exact rfl))
  | with_reducible refine w_c ?_ | with_reducible refine w_op ?_ | with_reducible refine w_un ?_ | with_reducible refine w_cons ?_ | with_reducible refine w_nil ?_ | with_reducible refine w_cb ?_
  | with_reducible refine w_call ?_ | with_reducible refine w_callK ?_ | with_reducible refine w_testB ?_ | with_reducible refine w_tru ?_ | with_reducible refine w_andD ?_ | with_reducible refine w_orD ?_ | with_reducible refine w_notD ?_
  | with_reducible refine w_andE ?_ | with_reducible refine w_orE ?_ | with_reducible refine w_notE ?_ | with_reducible refine w_ifE ?_ | with_reducible refine w_is ?_ | with_reducible refine w_isN ?_ | with_reducible refine w_notN ?_ | with_reducible refine w_tupOf ?_
  | with_reducible refine w_tup ?_ | with_reducible refine w_lst ?_ | with_reducible refine w_lstM ?_ | with_reducible refine w_sl ?_ | with_reducible refine w_part ?_ | with_reducible refine w_noPart ?_ | with_reducible refine w_repr ?_ | with_reducible refine w_seqI ?_
  | with_reducible refine w_rdI ?_ | with_reducible refine w_rdB ?_ | with_reducible refine w_rdAdd ?_ | with_reducible refine w_neg ?_ | with_reducible refine w_lenL ?_ | with_reducible refine w_lenT ?_ | with_reducible refine w_abs ?_ | with_reducible refine w_int ?_ | with_reducible refine w_intB ?_ | with_reducible refine w_gcd ?_
  | with_reducible refine w_gname ?_ | with_reducible refine w_gnil ?_ | with_reducible refine w_gcons ?_
  | with_reducible refine w_true ?_ | with_reducible refine w_false ?_
  | dsimp only [truthD, seqD, isNonD, permL, List.filterMap] | with_reducible refine w_drop ?_ | with_reducible refine w_retN ?_ | with_reducible refine w_nilP ?_ | with_reducible refine w_consP ?_ | with_reducible refine w_rng ?_ | with_reducible refine w_cont ?_ | with_reducible refine w_brk ?_)
local macro_rules | `(tactic| walk_at "z") => `(tactic| repeat walk_at "z1")
open PySem L2 PySem.Spec PyProof.Rows

/-! ### methods of texts -/
section
variable {X : Cx} {o e a b : Expr} {es : List Expr} {to te ta tb : TED} {ts : TAD} {p pos apos : Pos}
theorem pd_m0 {id : String} {name : Str} {r : V → List V → Hp → VK → Prop} {rd : D → MH → QD → Prop} (slot : Slot "str" name id) (ty : typeOf (.builtin id) = pure (.type "method_descriptor")) (rule : ∀ pn xe, MtR (X.tr pn xe) id r)
    (hs : ∀ x d H M F Q, Rep X.K H M x d → Mut X.K H M → rd d M F → Fin X.K H M F Q → (∃ a, x = .str a) ∧ r x [] H Q) (ho : PD X o to)
    (hbase : attributeBase o name X.env (eval o X.env) = eval o X.env := by rfl) (hline : (apos.endLine == pos.line) = true := by rfl) : PD X (.Call (.Attribute o name apos) [] [] pos) (tUnD rd to) := fun pn xe H0 M0 W at_ =>
  imE (pe_m0 (X := X.tr pn xe) slot ty (rule pn xe) (ho pn xe H0 M0 W at_) hbase hline) fun σ H Q ⟨τ, M, F, g0, sl, mu, h, k⟩ =>
    upE_fin g0 sl mu h fun x H1 d M1 g1 mu1 r1 h1 => hs x d H1 M1 F Q r1 mu1 h1 fun v H' d' M' g' mu' r' f' => k v H' d' M' (g1.trans g') mu' r' f'
/-- a method of a text, of one thing -/
def tM1D (rd : R2D) (to te : TED) : TED := fun W τ M Q => to W τ M fun d M1 => (∃ a, d = .str a) ∧ te W τ M1 fun y M2 => rd d y M2 Q
theorem pd_m1 {id : String} {name : Str} {r : V → List V → Hp → VK → Prop} {rd : R2D} (slot : Slot "str" name id) (ty : typeOf (.builtin id) = pure (.type "method_descriptor")) (rule : ∀ pn xe, MtR (X.tr pn xe) id r)
    (hs : ∀ x y d e H M F Q, Rep X.K H M x d → Rep X.K H M y e → Mut X.K H M → rd d e M F → Fin X.K H M F Q → r x [y] H Q) (ho : PD X o to) (he : PD X e te)
    (hst : starEach [e] X.env = [(false, eval e X.env)] := by rfl) (hbase : attributeBase o name X.env (eval o X.env) = eval o X.env := by rfl) (hline : (apos.endLine == pos.line) = true := by rfl) :
    PD X (.Call (.Attribute o name apos) [e] [] pos) (tM1D rd to te) := fun pn xe H0 M0 W at_ =>
  imE (pe_m1 (X := X.tr pn xe) slot ty (rule pn xe) (ho pn xe H0 M0 W at_) (he pn xe H0 M0 W at_) hst hbase hline) fun σ H Q ⟨τ, M, F, g0, sl, mu, h, k⟩ =>
    upE_fin g0 sl mu h fun x H1 d M1 g1 mu1 r1 h1 => by
      obtain ⟨⟨a, rfl⟩, h1⟩ := h1
      cases r1
      exact ⟨⟨_, rfl⟩, upE_fin (g0.trans g1) (sl.good g1) mu1 h1 fun y H2 e M2 g2 mu2 r2 h2 =>
        hs _ y _ e H2 M2 F Q (.str _) r2 mu2 h2 fun v H' d' M' g' mu' r' f' => k v H' d' M' ((g1.trans g2).trans g') mu' r' f'⟩
def rdIsascii : D → MH → QD → Prop := fun d M F => match d with | .str x => F (.bl (Txt.isascii x)) M | _ => False
def rdIsdigit : D → MH → QD → Prop := fun d M F => match d with | .str x => F (.bl (Txt.isdigit x)) M | _ => False
theorem pd_isascii (ho : PD X o to) (hbase : attributeBase o "isascii" X.env (eval o X.env) = eval o X.env := by rfl) (hline : (apos.endLine == pos.line) = true := by rfl) : PD X (.Call (.Attribute o "isascii" apos) [] [] pos) (tUnD rdIsascii to) :=
  pd_m0 F.slot_str_isascii F.type_str_isascii (fun pn xe => mt_isascii) (fun x d H M F Q r mu h k => by
    unfold rdIsascii at h
    split at h
    · cases r
      exact ⟨⟨_, rfl⟩, _, rfl, rfl, trivial, k _ _ _ _ .refl mu (.bl _) h⟩
    · exact h.elim) ho hbase hline
theorem pd_isdigit (ho : PD X o to) (hbase : attributeBase o "isdigit" X.env (eval o X.env) = eval o X.env := by rfl) (hline : (apos.endLine == pos.line) = true := by rfl) : PD X (.Call (.Attribute o "isdigit" apos) [] [] pos) (tUnD rdIsdigit to) :=
  pd_m0 F.slot_str_isdigit F.type_str_isdigit (fun pn xe => mt_isdigit) (fun x d H M F Q r mu h k => by
    unfold rdIsdigit at h
    split at h
    · cases r
      exact ⟨⟨_, rfl⟩, _, rfl, rfl, trivial, k _ _ _ _ .refl mu (.bl _) h⟩
    · exact h.elim) ho hbase hline
def rdRemovepre : R2D := fun d e M F => match d, e with | .str x, .str y => x.length ≤ 16777216 ∧ F (.str (Txt.removeprefix x y)) M | _, _ => False
def rdZfill : R2D := fun d e M F => match d, e with | .str x, .int i => PadOk i = true ∧ F (.str (Txt.zfill x i)) M | _, _ => False
def rdPartition : R2D := fun d e M F => match d, e with | .str x, .str y => (y.length == 0) = false ∧ x.length ≤ 16777216 ∧ F (.tup [.str (Txt.partition x y).1, .str (Txt.partition x y).2.1, .str (Txt.partition x y).2.2]) M | _, _ => False
def rdSplit : R2D := fun d e M F => match d, e with | .str x, .str y => (y.length == 0) = false ∧ x.length + 2 ≤ 16777216 ∧ F (.lst ((Txt.split x y).map D.str)) M | _, _ => False
def strsD : List D → Option (List Str)
  | [] => some []
  | .str x :: r => (strsD r).map (x :: ·)
  | _ => none
def rdJoin : R2D := fun d e M F => match d, e with | .str x, .lst ds => (match strsD ds with | some ys => (ys.map (·.length)).sum + ys.length * x.length ≤ 16777216 ∧ F (.str (Txt.join x ys)) M | none => False) | _, _ => False
theorem reps_strs {K : PySem.W.Frag} {H : Hp} {M : MH} : ∀ ys : List Str, Reps K H M (ys.map V.str) (ys.map D.str)
  | [] => .nil
  | y :: ys => .cons (.str y) (reps_strs ys)
theorem strsD_vals {K : PySem.W.Frag} {H : Hp} {M : MH} : ∀ {ds : List D} {ys : List Str} {vs : List V}, strsD ds = some ys → Reps K H M vs ds → vs = ys.map V.str
  | [], ys, vs, e, r => by cases e; cases r; rfl
  | d :: ds, ys, vs, e, r => by
    cases r with
    | cons r rs =>
      cases d <;> try (cases e; done)
      simp only [strsD] at e
      cases h : strsD ds with
      | none => rw [h] at e; cases e
      | some zs =>
        rw [h] at e
        cases e
        cases r
        rw [strsD_vals h rs]
        rfl
theorem strsD_map : ∀ ys : List Str, strsD (ys.map D.str) = some ys
  | [] => rfl
  | y :: ys => by simp only [List.map_cons, strsD, strsD_map ys, Option.map_some]
theorem pd_removeprefix (ho : PD X o to) (he : PD X e te) (hst : starEach [e] X.env = [(false, eval e X.env)] := by rfl) (hbase : attributeBase o "removeprefix" X.env (eval o X.env) = eval o X.env := by rfl) (hline : (apos.endLine == pos.line) = true := by rfl) :
    PD X (.Call (.Attribute o "removeprefix" apos) [e] [] pos) (tM1D rdRemovepre to te) :=
  pd_m1 (rd := rdRemovepre) F.slot_str_removeprefix F.type_str_removeprefix (fun pn xe => mt_removeprefix) (fun x y d e H M F Q rx ry mu h k => by
    unfold rdRemovepre at h
    split at h
    · cases rx; cases ry
      exact ⟨_, _, rfl, rfl, by rw [sizeLine_eq]; exact h.1, k _ _ _ _ .refl mu (.str _) h.2⟩
    · exact h.elim) ho he hst hbase hline
theorem pd_zfill (ho : PD X o to) (he : PD X e te) (hst : starEach [e] X.env = [(false, eval e X.env)] := by rfl) (hbase : attributeBase o "zfill" X.env (eval o X.env) = eval o X.env := by rfl) (hline : (apos.endLine == pos.line) = true := by rfl) :
    PD X (.Call (.Attribute o "zfill" apos) [e] [] pos) (tM1D rdZfill to te) :=
  pd_m1 (rd := rdZfill) F.slot_str_zfill F.type_str_zfill (fun pn xe => mt_zfill) (fun x y d e H M F Q rx ry mu h k => by
    unfold rdZfill at h
    split at h
    · cases rx; cases ry
      exact ⟨_, _, rfl, rfl, h.1, k _ _ _ _ .refl mu (.str _) h.2⟩
    · exact h.elim) ho he hst hbase hline
theorem pd_partition (ho : PD X o to) (he : PD X e te) (hst : starEach [e] X.env = [(false, eval e X.env)] := by rfl) (hbase : attributeBase o "partition" X.env (eval o X.env) = eval o X.env := by rfl) (hline : (apos.endLine == pos.line) = true := by rfl) :
    PD X (.Call (.Attribute o "partition" apos) [e] [] pos) (tM1D rdPartition to te) :=
  pd_m1 (rd := rdPartition) F.slot_str_partition F.type_str_partition (fun pn xe => mt_partition) (fun x y d e H M F Q rx ry mu h k => by
    unfold rdPartition at h
    split at h
    · cases rx; cases ry
      exact ⟨_, _, rfl, rfl, h.1, by rw [sizeLine_eq]; exact h.2.1, fun p hp => k _ _ _ _ (good_new hp) (mut_new mu hp) (rep_tup mu hp (.cons (.str _) (.cons (.str _) (.cons (.str _) .nil)))) h.2.2⟩
    · exact h.elim) ho he hst hbase hline
theorem pd_split (ho : PD X o to) (he : PD X e te) (hst : starEach [e] X.env = [(false, eval e X.env)] := by rfl) (hbase : attributeBase o "split" X.env (eval o X.env) = eval o X.env := by rfl) (hline : (apos.endLine == pos.line) = true := by rfl) :
    PD X (.Call (.Attribute o "split" apos) [e] [] pos) (tM1D rdSplit to te) :=
  pd_m1 (rd := rdSplit) F.slot_str_split F.type_str_split (fun pn xe => mt_split) (fun x y d e H M F Q rx ry mu h k => by
    unfold rdSplit at h
    split at h
    · cases rx; cases ry
      exact ⟨_, _, rfl, rfl, h.1, by rw [sizeLine_eq]; exact h.2.1, fun p hp => k _ _ _ _ (good_new hp) (mut_new mu hp) (rep_lst mu hp (reps_strs _)) h.2.2⟩
    · exact h.elim) ho he hst hbase hline
theorem pd_join (ho : PD X o to) (he : PD X e te) (hst : starEach [e] X.env = [(false, eval e X.env)] := by rfl) (hbase : attributeBase o "join" X.env (eval o X.env) = eval o X.env := by rfl) (hline : (apos.endLine == pos.line) = true := by rfl) :
    PD X (.Call (.Attribute o "join" apos) [e] [] pos) (tM1D rdJoin to te) :=
  pd_m1 (r := fun x xs H Q => ∃ a p, ∃ ys : List Str, x = .str a ∧ xs = [.ref p] ∧ (SqL X.K H p (ys.map V.str) ∨ SqT X.K H p (ys.map V.str)) ∧ (ys.map (·.length)).sum + ys.length * a.length ≤ 16777216 ∧ Q (.str (Txt.join a ys)) H) (rd := rdJoin) F.slot_str_join F.type_str_join (fun pn xe => mt_join) (fun x y d e H M F Q rx ry mu h k => by
    unfold rdJoin at h
    split at h
    · split at h
      · rename_i ys hys
        cases rx
        cases ry with
        | lst rr rs =>
          rw [strsD_vals hys rs] at rr
          exact ⟨_, _, ys, rfl, rfl, .inl rr.sq, h.1, k _ _ _ _ .refl mu (.str _) h.2⟩
      · exact h.elim
    · exact h.elim) ho he hst hbase hline
/-! ### int(text), str(int), divmod, min -/
def rdIntS : RCD := fun ds M F => match ds with | [.str x] => ∃ n, PySem.intText? x = some n ∧ x.length ≤ 640 ∧ F (.int n) M | _ => False
theorem pd_intS (hm : X.mg "int" = none) (ha : PDA X (e :: es) ts) (hg : Gl X "int" := by rfl) (he : starEach (e :: es) X.env = (false, eval e X.env) :: starEach es X.env := by rfl) (hpl : (backTo pos (starEach es X.env)).any (·.1) = false := by rfl) :
    PD X (.Call (.Name "int" p) (e :: es) [] pos) (tCBD rdIntS ts) := pd_bt hm (by decide +kernel) (fun pn xe => call_int_str (X := X.tr pn xe)) (fun xs ds H M F Q r mu h k => by
      unfold rdIntS at h
      split at h
      · cases r with
        | cons r t =>
          cases t; cases r
          obtain ⟨n, h1, h2, h3⟩ := h
          exact ⟨_, _, rfl, h1, h2, k _ _ _ _ .refl mu (.int _) h3⟩
      · exact h.elim) ha hg (by decide) (by decide) he hpl
def rdStr : RCD := fun ds M F => match ds with | [.int i] => i.natAbs.log2 < 1920 ∧ F (.str (toString i)) M | _ => False
theorem pd_strI (hm : X.mg "str" = none) (ha : PDA X (e :: es) ts) (hg : Gl X "str" := by rfl) (he : starEach (e :: es) X.env = (false, eval e X.env) :: starEach es X.env := by rfl) (hpl : (backTo pos (starEach es X.env)).any (·.1) = false := by rfl) :
    PD X (.Call (.Name "str" p) (e :: es) [] pos) (tCBD rdStr ts) := pd_bt hm (by decide +kernel) (fun pn xe => call_str_int (X := X.tr pn xe)) (fun xs ds H M F Q r mu h k => by
      unfold rdStr at h
      split at h
      · cases r with
        | cons r t => cases t; cases r; exact ⟨_, rfl, h.1, k _ _ _ _ .refl mu (.str _) h.2⟩
      · exact h.elim) ha hg (by decide) (by decide) he hpl
theorem call_divmodW : CallR X (.builtin "divmod") (fun xs H Q => ∃ i j, xs = [.int i, .int j] ∧ (0 < j ∧ j.natAbs.log2 < 9000) ∧ ∀ p, H p = none → Q (.ref p) (upd H p (.tup [.int (i / j), .int (i % j)]))) := by
  intro pins s σ H xs us Q I r h
  obtain ⟨i, j, rfl, ⟨h1, h2⟩, q⟩ := h
  obtain ⟨u, w', rfl, ⟨t, rfl⟩, ⟨t', rfl⟩⟩ := vals2 r
  refine divmod_int (by omega) ?_ (.inl (PyProof.noPylong_of_log2 h2))
  rw [Int.fdiv_eq_ediv_of_nonneg i (by omega), Int.fmod_eq_emod_of_nonneg i (by omega)]
  have hn : H s.heap.objs.size = none := I.hok.fresh (Nat.le_refl _)
  refine ⟨.ref s.heap.objs.size, _, ?_, rfl, q _ hn⟩
  refine I.laid (fun b o e => Heap.get?_push_of_some _ e) (Nat.le_refl _) ⟨by simp only [List.length_cons, List.length_nil]; rw [sizeLine_eq]; decide, [.int (i / j) s.toks, .int (i % j) (s.toks + 1)], .cons ⟨_, rfl⟩ (.cons ⟨_, rfl⟩ .nil), ?_⟩
  exact ⟨_, Heap.get?_push_size s.heap rfl, rfl, 0, rfl⟩
def rdDivmod : RCD := fun ds M F => match ds with | [.int i, .int j] => 0 < j ∧ j.natAbs.log2 < 9000 ∧ F (.tup [.int (i / j), .int (i % j)]) M | _ => False
theorem pd_divmod (hm : X.mg "divmod" = none) (ha : PDA X (e :: es) ts) (hg : Gl X "divmod" := by rfl) (he : starEach (e :: es) X.env = (false, eval e X.env) :: starEach es X.env := by rfl) (hpl : (backTo pos (starEach es X.env)).any (·.1) = false := by rfl) :
    PD X (.Call (.Name "divmod" p) (e :: es) [] pos) (tCBD rdDivmod ts) := pd_bf hm (by decide +kernel) (fun pn xe => call_divmodW (X := X.tr pn xe)) (fun xs ds H M F Q r mu h k => by
      unfold rdDivmod at h
      split at h
      · cases r with
        | cons r t => cases t with
          | cons r' t' => cases t'; cases r; cases r'; exact ⟨_, _, rfl, ⟨h.1, h.2.1⟩, fun p hp => k _ _ _ _ (good_new hp) (mut_new mu hp) (rep_tup mu hp (.cons (.int _) (.cons (.int _) .nil))) h.2.2⟩
      · exact h.elim) ha hg (by decide) (by decide) he hpl
def rdMin2 : RCD := fun ds M F => match ds with | [.int i, .int j] => F (.int (if j < i then j else i)) M | _ => False
theorem pd_min2 (hc : X.calm = true) (hm : X.mg "min" = none) (ha : PDA X (e :: es) ts) (hg : Gl X "min" := by rfl) (he : starEach (e :: es) X.env = (false, eval e X.env) :: starEach es X.env := by rfl) (hpl : (backTo pos (starEach es X.env)).any (·.1) = false := by rfl) :
    PD X (.Call (.Name "min" p) (e :: es) [] pos) (tCBD rdMin2 ts) := pd_bf hm (by decide +kernel) (fun pn xe => call_min2 (X := X.tr pn xe) hc) (fun xs ds H M F Q r mu h k => by
      unfold rdMin2 at h
      split at h
      · cases r with
        | cons r t => cases t with
          | cons r' t' => cases t'; cases r; cases r'; exact ⟨_, _, rfl, k _ _ _ _ .refl mu (.int _) h⟩
      · exact h.elim) ha hg (by decide) (by decide) he hpl
/-! ### len(text), text[i], text[i:j], sign in text, text * n, xs[::-1], xs.append(x) -/
def rdLenS : RCD := fun ds M F => match ds with | [.str x] => x.length ≤ 16777216 ∧ F (.int x.length) M | [.lst xs] => F (.int xs.length) M | _ => False
theorem pd_lenS (hm : X.mg "len" = none) (ha : PDA X (e :: es) ts) (hg : Gl X "len" := by rfl) (he : starEach (e :: es) X.env = (false, eval e X.env) :: starEach es X.env := by rfl) (hpl : (backTo pos (starEach es X.env)).any (·.1) = false := by rfl) :
    PD X (.Call (.Name "len" p) (e :: es) [] pos) (tCBD rdLenS ts) := pd_bf (r := fun xs H Q => ∃ x n, xs = [x] ∧ LenV X.K x H n ∧ Q (.int n) H) hm PySem.boot_len (fun pn xe => call_len (X := X.tr pn xe)) (fun xs ds H M F Q r mu h k => by
      unfold rdLenS at h
      split at h
      · cases r with
        | cons r t => cases t; cases r; exact ⟨_, _, rfl, ⟨by rw [sizeLine_eq]; exact h.1, rfl⟩, k _ _ _ _ .refl mu (.int _) h.2⟩
      · cases r with
        | cons r t =>
          cases t
          cases r with
          | lst rr rs => exact ⟨_, _, rfl, .inl ⟨_, rr.sq, rfl⟩, by rw [rs.length]; exact k _ _ _ _ .refl mu (.int _) h⟩
      · exact h.elim) ha hg (by decide) (by decide) he hpl
def rdIxS : R2D := fun d e M F => match d, e with | .str x, .int i => x.length ≤ 16777216 ∧ (match atI x.cps.toList i with | some c => F (.str ⟨#[c]⟩) M | none => False) | _, _ => False
theorem pd_ixS (ha : PD X a ta) (hb : PD X b tb) (hs : PlainIx b := by exact fun _ _ => rfl) : PD X (.Subscript a b pos) (tOpD rdIxS ta tb) := fun pn xe H0 M0 W at_ =>
  imE (pe_ix (ix_str (X := X.tr pn xe)) (ha pn xe H0 M0 W at_) (hb pn xe H0 M0 W at_) hs) fun σ H Q ⟨τ, M, F, g0, sl, mu, h, k⟩ =>
    upE_fin g0 sl mu h fun x H1 d M1 g1 mu1 r1 h1 => upE_fin (g0.trans g1) (sl.good g1) mu1 h1 fun y H2 e M2 g2 mu2 r2 h2 => by
      unfold rdIxS at h2
      split at h2
      · cases r1
        cases r2
        obtain ⟨hz, h2⟩ := h2
        split at h2
        · rename_i c hc
          exact ⟨_, _, c, rfl, rfl, by rw [sizeLine_eq]; exact hz, hc, k _ _ _ _ (g1.trans g2) mu2 (.str _) h2⟩
        · exact h2.elim
      · exact h2.elim
def tSlS (t : TED) (tl th : WD → EnvD → MH → (Option Int → MH → Prop) → Prop) : TED := fun W τ M Q => t W τ M fun d M1 => tl W τ M1 fun l M2 => th W τ M2 fun u M3 => match d with | .str x => x.length ≤ 16777216 ∧ Q (.str (cutS x l u)) M3 | _ => False
theorem pd_sliceS {lo hi : Option Expr} {p2 : Pos} {tl th : WD → EnvD → MH → (Option Int → MH → Prop) → Prop} (he : PD X e te) (hl : PDO X lo tl) (hu : PDO X hi th) : PD X (.Subscript e (.Slice lo hi none p2) pos) (tSlS te tl th) := fun pn xe H0 M0 W at_ =>
  imE (pe_slice sl_str (he pn xe H0 M0 W at_) (hl pn xe H0 M0 W at_) (hu pn xe H0 M0 W at_)) fun σ H Q ⟨τ, M, F, g0, sl, mu, h, k⟩ => upE_fin g0 sl mu h fun v H1 d M1 g1 mu1 r1 q =>
    ⟨τ, M1, _, g0.trans g1, sl.good g1, mu1, q, fun l H2 M2 g2 mu2 q2 => ⟨τ, M2, _, (g0.trans g1).trans g2, (sl.good g1).good g2, mu2, q2, fun u H3 M3 g3 mu3 q3 => by
      cases r1 with
      | str x => exact ⟨_, rfl, by rw [sizeLine_eq]; exact q3.1, k _ _ _ M3 (g1.trans (g2.trans g3)) mu3 (.str _) q3.2⟩
      | _ => exact q3.elim⟩⟩
def rdNotIn : R2D := fun d e M F => match d, e with | .str x, .str z => ∃ c, x = ⟨#[c]⟩ ∧ F (.bl (!decide (c ∈ z.cps.toList))) M | _, _ => False
theorem pd_notIn (ha : PD X a ta) (hb : PD X b tb) (hm : behindInMarks .NotIn b = false := by first | exact nomark _ | rfl) : PD X (.Compare a [.NotIn] [b] pos) (tOpD rdNotIn ta tb) :=
  pd_cmp (fun pn xe => op_notIn_sign (X := X.tr pn xe)) (fun x y d e H M F Q rx ry mu h k => by
    unfold rdNotIn at h
    split at h
    · cases rx; cases ry
      obtain ⟨c, hc, h⟩ := h
      exact ⟨c, _, by rw [hc], rfl, k _ _ _ _ .refl mu (.bl _) h⟩
    · exact h.elim) ha hb hm
def rdRevL : D → MH → QD → Prop := fun d M F => match d with
  | .lst xs => F (.lst xs.reverse) M
  | .ref a => (match M a with | some (.lst xs) => F (.lst xs.reverse) M | _ => False)
  | _ => False
theorem reps_rev {K : PySem.W.Frag} {H : Hp} {M : MH} : ∀ {vs : List V} {ds : List D}, Reps K H M vs ds → Reps K H M vs.reverse ds.reverse
  | _, _, .nil => .nil
  | _, _, .cons r rs => by
    rw [List.reverse_cons, List.reverse_cons]
    exact (reps_rev rs).append (.cons r .nil)
theorem pd_revL {k : Nat} {p1 p2 p3 : Pos} (he : PD X e te) : PD X (.Subscript e (.Slice none none (some (.UnaryOp .USub (.Constant (.int 1) k p1) p2)) p3) pos) (tUnD rdRevL te) := fun pn xe H0 M0 W at_ =>
  imE (pe_revL (X := X.tr pn xe) (he pn xe H0 M0 W at_)) fun σ H Q ⟨τ, M, F, g0, sl, mu, h, k⟩ => upE_fin g0 sl mu h fun x H1 d M1 g1 mu1 r1 h1 => by
    unfold rdRevL at h1
    split at h1
    · cases r1 with
      | lst rr rs => exact ⟨_, _, rfl, rr.sq, fun p hp => k _ _ _ _ (g1.trans (good_new hp)) (mut_new mu1 hp) (rep_lst mu1 hp (reps_rev rs)) h1⟩
    · split at h1
      · rename_i xs q1
        cases r1
        obtain ⟨ho, e, r⟩ := mu1 _ _ q1
        cases r with
        | lst rs => exact ⟨_, _, rfl, .inl (.inl e), fun p hp => k _ _ _ _ (g1.trans (good_new hp)) (mut_new mu1 hp) (rep_lst mu1 hp (reps_rev rs)) h1⟩
      · exact h1.elim
    · exact h1.elim
end
end Z

set_option Elab.async false
set_option linter.all false
set_option maxRecDepth 100000
set_option maxHeartbeats 4000000
namespace Z
local macro_rules | `(tactic| walk_at "z at") => `(tactic| first | rfl | (simp only [atI, ixN, List.length_cons, List.length_nil, List.length_map]; rfl) | assumption)
local macro_rules | `(tactic| walk_at "z1") => `(tactic| first
  | with_reducible refine w_seq ?_ | with_reducible refine w_set ?_ | with_reducible refine w_ret ?_ | with_reducible refine w_if ?_ | with_reducible refine w_asg ?_ | with_reducible refine w_next ?_ | with_reducible refine w_setIx ?_ | with_reducible refine w_par ?_
  | ((with_reducible refine' w_var ?h ?_); (case h => exact rfl))
  | with_reducible refine w_c ?_ | with_reducible refine w_op ?_ | with_reducible refine w_un ?_ | with_reducible refine w_cons ?_ | with_reducible refine w_nil ?_ | with_reducible refine w_cb ?_
  | with_reducible refine w_call ?_ | with_reducible refine w_callK ?_ | with_reducible refine w_testB ?_ | with_reducible refine w_tru ?_ | with_reducible refine w_andD ?_ | with_reducible refine w_orD ?_ | with_reducible refine w_notD ?_
  | with_reducible refine w_andE ?_ | with_reducible refine w_orE ?_ | with_reducible refine w_notE ?_ | with_reducible refine w_ifE ?_ | with_reducible refine w_is ?_ | with_reducible refine w_isN ?_ | with_reducible refine w_notN ?_ | with_reducible refine w_tupOf ?_
  | with_reducible refine w_tup ?_ | with_reducible refine w_lst ?_ | with_reducible refine w_lstM ?_ | with_reducible refine w_sl ?_ | with_reducible refine w_part ?_ | with_reducible refine w_noPart ?_ | with_reducible refine w_repr ?_ | with_reducible refine w_seqI ?_
  | with_reducible refine w_rdI ?_ | with_reducible refine w_rdB ?_ | with_reducible refine w_rdAdd ?_ | with_reducible refine w_neg ?_ | with_reducible refine w_lenL ?_ | with_reducible refine w_lenT ?_ | with_reducible refine w_abs ?_ | with_reducible refine w_int ?_ | with_reducible refine w_intB ?_ | with_reducible refine w_gcd ?_
  | with_reducible refine w_gname ?_ | with_reducible refine w_gnil ?_ | with_reducible refine w_gcons ?_
  | with_reducible refine w_true ?_ | with_reducible refine w_false ?_
  | dsimp only [truthD, seqD, isNonD, permL, List.filterMap] | with_reducible refine w_drop ?_ | with_reducible refine w_retN ?_ | with_reducible refine w_nilP ?_ | with_reducible refine w_consP ?_ | with_reducible refine w_rng ?_ | with_reducible refine w_cont ?_ | with_reducible refine w_brk ?_)
local macro_rules | `(tactic| walk_at "z") => `(tactic| repeat walk_at "z1")
open PySem L2 PySem.Spec PyProof.Rows

/-! ### xs.append(x), for sign in text, text * n, f'{i}..{j}' -/
section
variable {X : Cx} {e a b : Expr} {te ta tb : TED} {p pos apos : Pos}
def tAppD (i : Nat) (te : TED) : TED := fun W τ M Q => ∃ a, getN τ i = some (.ref a) ∧ (∃ xs0, M a = some (.lst xs0)) ∧ te W τ M fun d M1 => match M1 a with | some (.lst xs) => xs.length < 16777216 ∧ Q .non (mput M1 a (.lst (xs ++ [d]))) | _ => False
theorem pd_append (i : Nat) {x : Str} (he : PD X e te) (hN : X.N[i]? = some x := by rfl) (hv : Vis X.env.scope x := by first | exact Or.inl rfl | exact Or.inr (Or.inl rfl) | exact Or.inr (Or.inr rfl)) (hd : (x == ("__debug__" : Str)) = false := by decide)
    (hcd : (x == ("__classdict__" : Str)) = false := by decide) (hbase : attributeBase (.Name x p) "append" X.env (eval (.Name x p) X.env) = eval (.Name x p) X.env := by rfl)
    (hfew : ((backTo pos (starEach [e] X.env)).all (fun x => !x.1) && (backToKw pos (keywordEach [] X.env)).all (fun x => x.1.isSome)
      && decide (([e] : List Expr).length + ([] : List Keyword).length + (if ([] : List Keyword).isEmpty then 0 else 1) < 30)) = true := by rfl)
    (hline : (apos.endLine == pos.line) = true := by rfl) (hs : starEach [e] X.env = (false, eval e X.env) :: starEach [] X.env := by rfl) (hplain : (backTo pos (starEach [] X.env)).any (·.1) = false := by rfl) :
    PD X (.Call (.Attribute (.Name x p) "append" apos) [e] [] pos) (tAppD i te) := fun pn xe H0 M0 W at_ =>
  imE (pe_bm (X := X.tr pn xe) F.plainAttrs_list F.slot_list_append F.type_list_append mt_append (pe_var (X := X.tr pn xe) (i := i) hN hv hd hcd) ((show PDA X [e] (tConsD te tNilD) from pda_cons he pda_nil hs) pn xe H0 M0 W at_) hbase hfew hline hs hplain) fun σ H Q ⟨τ, M, F, g0, sl, mu, ⟨a, ha, ⟨xs0, h0⟩, h⟩, k⟩ => by
    obtain ⟨v, e1, r⟩ := sl.2 i _ (getN_some ha)
    cases r
    obtain ⟨ho, e2, rm⟩ := mu a _ h0
    cases rm with
    | lst rs =>
      refine ⟨.ref a, e1, .inl ⟨rfl, _, .inl (.inl e2)⟩, τ, M, fun ds M1 => match ds with | [d] => (match M1 a with | some (.lst xs) => xs.length < 16777216 ∧ F .non (mput M1 a (.lst (xs ++ [d]))) | _ => False) | _ => False, g0, sl, mu, h, fun vs H1 ds M1 g1 mu1 r1 q => ?_⟩
      cases r1 with
      | nil => exact q.elim
      | cons r rs1 =>
        cases rs1 with
        | cons _ _ => exact q.elim
        | nil =>
          dsimp only at q
          split at q
          · rename_i xs hq
            obtain ⟨ho', e3, rm'⟩ := mu1 a _ hq
            cases rm' with
            | lst rs' =>
              exact ⟨a, _, _, rfl, rfl, e3, by rw [rs'.length, sizeLine_eq]; exact q.1, k .non _ .non _ (g1.trans (good_write hq)) (mut_write mu1 hq (.lst (rs'.append (.cons r .nil)))) .non q.2⟩
          · exact q.elim
def signsD (x : Str) : List D := x.cps.toList.map fun c => D.str ⟨#[c]⟩
def iStrD (te : TED) : TAD := fun W τ M Q => te W τ M fun d M1 => match d with | .str x => Q (signsD x) M1 | _ => False
theorem pdi_str {tg iter : Expr} (he : PD X iter te) : PDI X tg iter (iStrD te) := fun pn xe H0 M0 W at_ =>
  imI (pi_str (he pn xe H0 M0 W at_)) fun σ H R ⟨τ, M, F, g0, sl, mu, h, k⟩ => upE_fin g0 sl mu h fun v H1 d M1 g1 mu1 r1 q => by
    cases r1 with
    | str x =>
      refine ⟨x, rfl, k (Its x) H1 (signsD x) M1 g1 mu1 (fun H2 M2 g2 mu2 => ⟨fun i d hd => ?_, ?_⟩) q⟩
      · unfold signsD at hd
        rw [List.getElem?_map] at hd
        cases e1 : x.cps.toList[i]? with
        | none => rw [e1] at hd; cases hd
        | some c =>
          rw [e1] at hd
          cases hd
          refine ⟨show i < x.cps.size by have := (List.getElem?_eq_some_iff.mp e1).1; simpa using this, fun y H3 ⟨e3, c', hc, hy⟩ => ?_⟩
          subst e3
          have e4 : x.cps[i]? = some c := by rw [← Array.getElem?_toList]; exact e1
          rw [e4] at hc
          cases hc
          subst hy
          exact ⟨.refl, mu2, .str _⟩
      · show x.cps.size ≤ (signsD x).length
        unfold signsD
        simp
    | _ => exact q.elim
def repS (x : Str) (n : Nat) : Str := ⟨(List.replicate n x.cps).foldl (· ++ ·) #[]⟩
theorem op_mulS : OpR X (binaryOp .Mult) (fun x y H Q => ∃ (a : Str) (n : Int), x = .str a ∧ y = .int n ∧ 2 ≤ n ∧ n ≤ 1000 ∧ 0 < a.length ∧ a.length ≤ 1000 ∧ (repS a n.toNat).length ≤ 1000000 ∧ Q (.str (repS a n.toNat)) H) := by
  intro pins s σ H x y v u Q I rx ry h
  obtain ⟨a, n, rfl, rfl, n0, n1, l0, l1, lr, q⟩ := h
  obtain ⟨t, rfl⟩ := rx
  obtain ⟨t', rfl⟩ := ry
  have hm : a.length * n.toNat ≤ 1000 * 1000 := Nat.mul_le_mul l1 (by omega)
  refine PySem.P.mul_str ?_ (fun _ _ => ?_) (fun _ _ => ?_) ?_
  · rw [decide_eq_false (show ¬ n < -(2 ^ 63 : Int) by omega), decide_eq_false (show ¬ n ≥ 2 ^ 63 by omega)]; rfl
  · have : (1000 : Int) ≤ (2 ^ 63 - 1) / n := by
      refine (Int.le_ediv_iff_mul_le (by omega)).mpr ?_
      omega
    omega
  · exact (decide_eq_false (by rw [sizeLine_eq]; omega) : decide (a.length * n.toNat > sizeLine) = false)
  · have c1 : ¬ n < 1 := by omega
    have c2 : ¬ (n == 1 || a.length == 0) = true := by
      have e1 : (n == 1) = false := by rw [beq_eq_false_iff_ne]; omega
      have e2 : (a.length == 0) = false := by rw [beq_eq_false_iff_ne]; omega
      rw [e1, e2]
      decide
    rw [if_neg c1, if_neg c2]
    exact ⟨by show (repS a n.toNat).length ≤ sizeLine; rw [sizeLine_eq]; omega, ⟨.str _, H, I.tok _, ⟨_, rfl⟩, q⟩⟩
def rdMulS : R2D := fun d e M F => match d, e with | .str a, .int n => (decide (2 ≤ n ∧ n ≤ 1000 ∧ 0 < a.length ∧ a.length ≤ 1000 ∧ (repS a n.toNat).length ≤ 1000000) = true) ∧ F (.str (repS a n.toNat)) M | _, _ => False
theorem pd_mulS (ha : PD X a ta) (hb : PD X b tb) : PD X (.BinOp a .Mult b pos) (tOpD rdMulS ta tb) :=
  pd_op (fun pn xe => op_mulS) (fun x y d e H M F Q rx ry mu h k => by
    unfold rdMulS at h
    split at h
    · cases rx; cases ry
      obtain ⟨c, h⟩ := h
      obtain ⟨c1, c2, c3, c4, c5⟩ := of_decide_eq_true c
      exact ⟨_, _, rfl, rfl, c1, c2, c3, c4, c5, k _ _ _ _ .refl mu (.str _) h⟩
    · exact h.elim) ha hb
theorem empty_app (x : Str) : Str.empty ++ x = x := TL.ext_tl (by rw [TL.tl_append]; rfl)
theorem int_len {i : Int} (h : i.natAbs.log2 < 1900) : (Str.ofString (toString i)).length ≤ 1901 := by
  rw [PySem.ofString_length]
  exact int_text_length_le (k := 1900) (by decide) h
def tFs (ta : TED) (mid : Str) (tb : TED) : TED := fun W τ M Q => ta W τ M fun x M1 => match x with
  | .int i => i.natAbs.log2 < 1900 ∧ mid.length ≤ 100 ∧ tb W τ M1 fun y M2 => (match y with | .int j => j.natAbs.log2 < 1900 ∧ Q (.str (Str.ofString (toString i) ++ mid ++ Str.ofString (toString j))) M2 | _ => False)
  | _ => False
theorem pd_fs {mid : Str} {k : Nat} {p1 p2 p3 pos : Pos} (ha : PD X a ta) (hb : PD X b tb) : PD X (.JoinedStr [.FormattedValue a (-1) none p1, .Constant (.str mid) k p2, .FormattedValue b (-1) none p3] pos) (tFs ta mid tb) := fun pn xe H0 M0 W at_ =>
  imE (pe_joined (.cons (pe_fmt (ha pn xe H0 M0 W at_)) (.cons pe_str (.cons (pe_fmt (hb pn xe H0 M0 W at_)) .nil)))) fun σ H Q ⟨τ, M, F, g0, sl, mu, h, kk⟩ =>
    upE_fin g0 sl mu h fun x H1 d M1 g1 mu1 r1 q => by
      split at q
      · rename_i i
        cases r1
        obtain ⟨l1, lm, q⟩ := q
        have z1 := int_len l1
        refine .inr ⟨i, rfl, by omega, Str.ofString (toString i), rfl, by rw [empty_app, sizeLine_eq]; omega, mid, rfl, by rw [empty_app, sizeLine_eq, strLen_append]; omega, ?_⟩
        refine upE_fin (g0.trans g1) (sl.good g1) mu1 q fun y H2 e M2 g2 mu2 r2 q2 => ?_
        split at q2
        · rename_i j
          cases r2
          obtain ⟨l2, q2⟩ := q2
          have z2 := int_len l2
          refine .inr ⟨j, rfl, by omega, Str.ofString (toString j), rfl, by rw [empty_app, sizeLine_eq, strLen_append, strLen_append]; omega, ?_⟩
          show Q (.str (Str.empty ++ Str.ofString (toString i) ++ mid ++ Str.ofString (toString j))) H2
          rw [empty_app]
          exact kk _ _ _ _ (g1.trans g2) mu2 (.str _) q2
        · exact q2.elim
      · exact q.elim
theorem simNotIn {K : PySem.W.Frag} : SimOp K (fun x y H Q => ∃ (c : Nat) (z : Str), x = .str ⟨#[c]⟩ ∧ y = .str z ∧ Q (.bl (!decide (c ∈ z.cps.toList))) H) rdNotIn := fun x y d e H M F Q rx ry mu h k => by
  unfold rdNotIn at h
  split at h
  · cases rx; cases ry
    obtain ⟨c, hc, h⟩ := h
    exact ⟨c, _, by rw [hc], rfl, k _ _ _ _ .refl mu (.bl _) h⟩
  · exact h.elim
theorem pdt_notIn (ha : PD X a ta) (hb : PD X b tb) (hm : behindInMarks .NotIn b = false := by first | exact nomark _ | rfl) : PDT X (.Compare a [.NotIn] [b] pos) (tTestB (tOpD rdNotIn ta tb)) := pdt_cmp (fun pn xe => op_notIn_sign (X := X.tr pn xe)) simNotIn ha hb hm
/-- a constant of the module, an int -/
theorem pd_globI {x : Str} {n : Int} {t : Tok} (hm : X.mg x = some (.int n t)) (hg : Gl X x := by rfl) (hd : (x == ("__debug__" : Str)) = false := by decide) : PD X (.Name x pos) (tCD (.int n)) :=
  pd_c (fun pn xe => pe_glob (X := X.tr pn xe) (v := .int n) hg hm ⟨t, rfl⟩ hd) fun _ _ _ => .int n
/-- isinstance(x, D), x an exception of the package or None -/
def isE1 (all : List Addr) (L C1 : Addr) (d : D) : Option Bool := match d with
  | .exn C _ => subX all L C1 C
  | .non => some false
  | _ => none
theorem pd_isX1 {x : Str} {all : List Addr} {L C1 : Addr} {fl : List Str} {p2 : Pos} (hx : ∀ C ∈ all, ExG X.K L C fl) (h1 : C1 ∈ all) (hi : X.mg "isinstance" = none) (hm : X.mg x = some (.ref C1)) (ha : PD X a ta) (hg : Gl X x := by rfl) (hd : (x == ("__debug__" : Str)) = false := by decide)
    (hg2 : Gl X "isinstance" := by rfl) (he : starEach [a, .Name x p] X.env = (false, eval a X.env) :: starEach [.Name x p] X.env := by rfl) (he2 : starEach [.Name x p] X.env = [(false, eval (.Name x p) X.env)] := by rfl) (hpl : (backTo pos (starEach [.Name x p] X.env)).any (·.1) = false := by rfl) :
    PD X (.Call (.Name "isinstance" p2) [a, .Name x p] [] pos) (tIs (isE1 all L C1) ta) := fun pn xe H0 M0 W at_ => by
  have cr : CallR (X.tr pn xe) (.builtin "isinstance") (fun xs H Q => ∃ v b, xs = [v, .ref C1] ∧ ((v = .non ∧ b = false) ∨ ∃ a C dx, v = .ref a ∧ H a = some (.ext (ExcAt a C dx)) ∧ (∀ d, dx = some d → ∃ ws, H d = some (.xd ws)) ∧ C ∈ all ∧ subX all L C1 C = some b) ∧ Q (.bl b) H) := by
    intro pins s σ H xs us Q I r h
    obtain ⟨v, b, rfl, hv, q⟩ := h
    cases r with
    | cons rx rr =>
      cases rr with
      | cons rt rr =>
        cases rr
        rename_i u1 u2
        obtain rfl : u2 = Value.ref C1 := rt
        rcases hv with ⟨rfl, rfl⟩ | ⟨a, C, dx, rfl, e, hdx, hC, hb⟩
        · obtain ⟨P, Z, pz, hz⟩ := kit_of I rx (.base .non)
          exact PySem.W.kia_one Z I.kIn pz (none_kit (hx C1 h1)) hz fun tk => ⟨.bl false, H, I.tok tk, rfl, q⟩
        · obtain rfl : u1 = Value.ref a := rx
          have T := (hx C hC).k
          have hk : PySem.W.kitOne X.K (.ref C) (.ref C1) = some b := by
            unfold subX at hb
            rw [if_pos hC] at hb
            cases hb
            exact exg_kit (hx C hC) (hx C1 h1)
          obtain ⟨oe, vs, g1, g2, g3, g4⟩ := exc_at (X := X.tr pn xe) I e
          have J : ∃ od, PySem.W.InstAt s.heap a oe C od := by
            cases dx with
            | none => exact ⟨none, g1, g2, by unfold PySem.W.notCls; rw [g4] <;> trivial, by rw [g3]; trivial⟩
            | some d =>
              obtain ⟨ws, hw⟩ := hdx d rfl
              obtain ⟨mA, hns, _⟩ := (show ObjOk X.prog X.w H s.heap d (.xd ws) from I.hok d _ hw)
              obtain ⟨od, ho, hl⟩ := lookIn_ns hns
              exact ⟨some od, g1, g2, by unfold PySem.W.notCls; rw [g4] <;> trivial, by rw [g3]; exact ho⟩
          obtain ⟨od, J⟩ := J
          exact PySem.W.kia_one (PySem.W.kitx_exc T.ic T.ga T.gg T.o.exC T.ca T.sg T.tg T.om) I.kIn J hk (fun z => nomatch z) fun tk => ⟨.bl _, H, I.tok tk, rfl, q⟩
  refine imE (pe_callB (X := X.tr pn xe) cr hg2 hi (by decide +kernel) (pa_cons (ha pn xe H0 M0 W at_) (pa_cons (pe_glob (X := X.tr pn xe) (v := .ref C1) hg hm rfl hd) pa_nil he2) he) (by decide) (by decide) he hpl) fun σ H Q ⟨τ, M, F, g0, sl, mu, h, k⟩ => upE_fin g0 sl mu h fun v H1 d M1 g1 mu1 r1 q => ?_
  cases r1 with
  | non => exact ⟨.non, false, rfl, .inl ⟨rfl, rfl⟩, k _ _ _ _ g1 mu1 (.bl _) q⟩
  | @exn a C dx fs ds m m2 e e2 rf =>
    dsimp only [isE1] at q
    cases eb : subX all L C1 C with
    | none => rw [eb] at q; exact q.elim
    | some b =>
      rw [eb] at q
      have hC : C ∈ all := by
        unfold subX at eb
        split at eb
        · assumption
        · cases eb
      exact ⟨.ref a, b, rfl, .inr ⟨a, C, some dx, rfl, e, fun d hd => (by cases hd; exact ⟨_, e2⟩), hC, eb⟩, k _ _ _ _ g1 mu1 (.bl _) q⟩
  | @exn0 a C m e =>
    dsimp only [isE1] at q
    cases eb : subX all L C1 C with
    | none => rw [eb] at q; exact q.elim
    | some b =>
      rw [eb] at q
      have hC : C ∈ all := by
        unfold subX at eb
        split at eb
        · assumption
        · cases eb
      exact ⟨.ref a, b, rfl, .inr ⟨a, C, none, rfl, e, fun d hd => (by cases hd), hC, eb⟩, k _ _ _ _ g1 mu1 (.bl _) q⟩
  | _ => exact q.elim
end
end Z

set_option Elab.async false
set_option linter.all false
set_option maxRecDepth 100000
set_option maxHeartbeats 4000000
namespace Z
local macro_rules | `(tactic| walk_at "z at") => `(tactic| first | rfl | (simp only [atI, ixN, List.length_cons, List.length_nil, List.length_map]; rfl) | assumption)
local macro_rules | `(tactic| walk_at "z1") => `(tactic| first
  | with_reducible refine w_seq ?_ | with_reducible refine w_set ?_ | with_reducible refine w_ret ?_ | with_reducible refine w_if ?_ | with_reducible refine w_asg ?_ | with_reducible refine w_next ?_ | with_reducible refine w_setIx ?_ | with_reducible refine w_par ?_
  | ((with_reducible refine' w_var ?h ?_); (case h => exact rfl))
  | with_reducible refine w_c ?_ | with_reducible refine w_op ?_ | with_reducible refine w_un ?_ | with_reducible refine w_cons ?_ | with_reducible refine w_nil ?_ | with_reducible refine w_cb ?_
  | with_reducible refine w_call ?_ | with_reducible refine w_callK ?_ | with_reducible refine w_testB ?_ | with_reducible refine w_tru ?_ | with_reducible refine w_andD ?_ | with_reducible refine w_orD ?_ | with_reducible refine w_notD ?_
  | with_reducible refine w_andE ?_ | with_reducible refine w_orE ?_ | with_reducible refine w_notE ?_ | with_reducible refine w_ifE ?_ | with_reducible refine w_is ?_ | with_reducible refine w_isN ?_ | with_reducible refine w_notN ?_ | with_reducible refine w_tupOf ?_
  | with_reducible refine w_tup ?_ | with_reducible refine w_lst ?_ | with_reducible refine w_lstM ?_ | with_reducible refine w_sl ?_ | with_reducible refine w_part ?_ | with_reducible refine w_noPart ?_ | with_reducible refine w_repr ?_ | with_reducible refine w_seqI ?_
  | with_reducible refine w_rdI ?_ | with_reducible refine w_rdB ?_ | with_reducible refine w_rdAdd ?_ | with_reducible refine w_neg ?_ | with_reducible refine w_lenL ?_ | with_reducible refine w_lenT ?_ | with_reducible refine w_abs ?_ | with_reducible refine w_int ?_ | with_reducible refine w_intB ?_ | with_reducible refine w_gcd ?_
  | with_reducible refine w_gname ?_ | with_reducible refine w_gnil ?_ | with_reducible refine w_gcons ?_
  | with_reducible refine w_true ?_ | with_reducible refine w_false ?_
  | dsimp only [truthD, seqD, isNonD, permL, List.filterMap] | with_reducible refine w_drop ?_ | with_reducible refine w_retN ?_ | with_reducible refine w_nilP ?_ | with_reducible refine w_consP ?_ | with_reducible refine w_rng ?_ | with_reducible refine w_cont ?_ | with_reducible refine w_brk ?_)
local macro_rules | `(tactic| walk_at "z") => `(tactic| repeat walk_at "z1")
open PySem L2
/-! ### texts of integers and numbers: pure facts -/
def dig (c : Nat) : Bool := decide (48 ≤ c) && decide (c ≤ 57)
theorem dig_all {l : List Nat} : l.all dig = true ↔ NumText.AllDigits l := by
  unfold NumText.AllDigits dig
  simp [List.all_eq_true]
def digsL (l : List Nat) : List Nat := match l with | 45 :: r => r | l => l
def negL (l : List Nat) : Bool := match l with | 45 :: _ => true | _ => false
def valI (l : List Nat) : Int := if negL l then -((NumText.digitsVal (digsL l) : Nat) : Int) else ((NumText.digitsVal (digsL l) : Nat) : Int)
/-- signs that are digits, some, not too many -/
def okD (d : List Nat) : Bool := !d.isEmpty && d.all dig && decide (d.length ≤ 60)
/-- a zero ahead that may not stand -/
def zeroL (l : List Nat) : Bool := decide ((digsL l).head? = some 48) && !decide (l = [48])
def okI (l : List Nat) : Bool := okD (digsL l) && !zeroL l
def intD (l : List Nat) : D := if okI l then .int (valI l) else .non
theorem T_len (x : Str) : x.length = (TL.tl x).length := TL.len_tl x
theorem T_ext {x y : Str} (h : TL.tl x = TL.tl y) : x = y := TL.ext_tl h
theorem T_minus : TL.tl "-" = [45] := by decide +kernel
theorem T_slash : TL.tl "/" = [47] := by decide +kernel
theorem T_zero : TL.tl "0" = [48] := by decide +kernel
theorem T_empty : TL.tl "" = [] := by decide +kernel
theorem digsL_len (l : List Nat) : (digsL l).length ≤ l.length := by unfold digsL; split <;> simp
theorem digsL_len1 (l : List Nat) : l.length ≤ (digsL l).length + 1 := by unfold digsL; split <;> simp
theorem T_removepre (x : Str) : TL.tl (Txt.removeprefix x "-") = digsL (TL.tl x) := by
  have hy : ("-" : Str).length = 1 := by decide +kernel
  have hs : PySem.Builtin.Str.subAt x "-" 0 = (((TL.tl x).take 1) == [45]) := by
    rw [PySem.StrLaws.subAt_eq, hy]
    rfl
  cases h : TL.tl x with
  | nil =>
    have hx0 : x = "" := T_ext (by rw [h, T_empty])
    subst hx0
    decide +kernel
  | cons c r =>
    rw [PySem.StrLaws.removeprefix_eq, hs, hy, T_len x, h]
    by_cases hc : c = 45
    · subst hc
      have e1 : (decide (0 + 1 ≤ (45 :: r).length) && ((45 :: r).take 1 == [45])) = true := by simp
      rw [if_pos e1, show x.cps.toList = 45 :: r from h]
      show ((45 :: r).drop 1).take ((45 :: r).length - 1) = r
      simp
    · have e1 : (decide (0 + 1 ≤ (c :: r).length) && ((c :: r).take 1 == [45])) = false := by simp [hc]
      rw [if_neg (by rw [e1]; exact Bool.false_ne_true), h]
      unfold digsL
      split
      · rename_i q e; cases e; exact absurd rfl hc
      · rfl
theorem dig_ascii : ∀ c, c < 128 → Unicode.isDigit c = dig c := by decide +kernel
theorem ascii_digits (x : Str) : (Txt.isascii x && Txt.isdigit x) = (!(TL.tl x).isEmpty && (TL.tl x).all dig) := by
  unfold Txt.isascii Txt.isdigit
  have e1 : x.cps.all (fun c => decide (c < 128)) = (TL.tl x).all (fun c => decide (c < 128)) := by rw [← Array.all_toList]
  have e2 : x.cps.all Unicode.isDigit = (TL.tl x).all Unicode.isDigit := by rw [← Array.all_toList]
  have e3 : decide (x.length > 0) = !(TL.tl x).isEmpty := by rw [T_len x]; cases TL.tl x <;> simp
  rw [e1, e2, e3]
  generalize TL.tl x = l
  have key : ∀ l : List Nat, (l.all (fun c => decide (c < 128)) && l.all Unicode.isDigit) = l.all dig := fun l => by
    induction l with
    | nil => rfl
    | cons c r ih =>
      simp only [List.all_cons]
      rw [← ih]
      by_cases hc : c < 128
      · rw [dig_ascii c hc, decide_eq_true hc]
        cases dig c <;> simp
      · have : dig c = false := by unfold dig; rw [decide_eq_false (show ¬ c ≤ 57 by omega), Bool.and_false]
        rw [this, decide_eq_false hc]
        simp
  rw [← key l]
  cases l.isEmpty <;> cases l.all (fun c => decide (c < 128)) <;> simp
theorem okD_spec {d : List Nat} (h : okD d = true) : d ≠ [] ∧ NumText.AllDigits d ∧ d.length ≤ 60 := by
  unfold okD at h
  simp only [Bool.and_eq_true, decide_eq_true_eq, Bool.not_eq_true'] at h
  exact ⟨fun e => by rw [e] at h; simp at h, dig_all.mp h.1.2, h.2⟩
theorem int_ok (x : Str) (h : okI (TL.tl x) = true) : intText? x = some (valI (TL.tl x)) ∧ x.length ≤ 640 := by
  unfold okI at h
  simp only [Bool.and_eq_true] at h
  obtain ⟨h1, h2, h3⟩ := okD_spec h.1
  have hl : (TL.tl x).length ≤ 61 := by
    have := digsL_len1 (TL.tl x)
    omega
  refine ⟨?_, by rw [T_len x]; omega⟩
  cases hx : TL.tl x with
  | nil => rw [hx] at h1; exact absurd rfl h1
  | cons c r =>
    by_cases hc : c = 45
    · subst hc
      rw [hx] at h1 h2
      have := intText_neg (x := x) (cs := r) hx h2 h1 (by rw [T_len x]; omega)
      rw [this]
      rfl
    · have e : digsL (c :: r) = c :: r := by unfold digsL; split <;> simp_all
      have e2 : negL (c :: r) = false := by unfold negL; split <;> simp_all
      rw [hx, e] at h1 h2
      have := intText_digits (x := x) (by rw [show x.cps.toList = c :: r from hx]; exact h2) (by rw [show x.cps.toList = c :: r from hx]; exact h1) (by rw [T_len x]; omega)
      rw [this]
      unfold valI
      rw [e2, e, if_neg Bool.false_ne_true, show x.cps.toList = c :: r from hx]
theorem digitsVal_lt : ∀ (d : List Nat), NumText.AllDigits d → NumText.digitsVal d < 10 ^ d.length := by
  have key : ∀ (d : List Nat) (a k : Nat), NumText.AllDigits d → a < 10 ^ k → d.foldl (fun acc c => acc * 10 + (c - 48)) a < 10 ^ (k + d.length) := by
    intro d
    induction d with
    | nil => intro a k _ h; exact h
    | cons c r ih =>
      intro a k hd h
      have hc := hd.head
      have : a * 10 + (c - 48) < 10 ^ (k + 1) := by rw [Nat.pow_succ]; omega
      have := ih (a * 10 + (c - 48)) (k + 1) hd.tail this
      rw [List.foldl_cons, List.length_cons]
      rw [show k + (r.length + 1) = k + 1 + r.length by omega]
      exact this
  intro d hd
  have := key d 0 0 hd (by decide)
  rw [Nat.zero_add] at this
  exact this
theorem valI_bound {l : List Nat} (h : okI l = true) : (valI l).natAbs < 10 ^ 60 := by
  unfold okI at h
  simp only [Bool.and_eq_true] at h
  obtain ⟨h1, h2, h3⟩ := okD_spec h.1
  have := digitsVal_lt _ h2
  have p : 10 ^ (digsL l).length ≤ 10 ^ 60 := Nat.pow_le_pow_right (by decide) h3
  unfold valI
  split <;> omega
/-! ### the text of an integer -/
open TL in
theorem T_num (n : Nat) : TL.tl (Str.ofString (toString ((n : Nat) : Int))) = TL.numL n := tl_num n
open TL in
theorem T_neg (m : Nat) : TL.tl (Str.ofString (toString (-((m + 1 : Nat) : Int)))) = 45 :: TL.numL (m + 1) := by
  have e : toString (-((m + 1 : Nat) : Int)) = "-" ++ toString ((m + 1 : Nat) : Int) := rfl
  have e2 : ∀ a b : String, Str.ofString (a ++ b) = Str.ofString a ++ Str.ofString b := fun a b => T_ext (by rw [TL.tl_append, TL.tl_ofString, TL.tl_ofString, TL.tl_ofString, String.toList_append, List.map_append])
  rw [e, e2, TL.tl_append, T_num]
  rfl
open TL in
theorem numL_head (n : Nat) (h : 0 < n) : ∃ c r, TL.numL n = c :: r ∧ 49 ≤ c ∧ c ≤ 57 := by
  induction n using Nat.strongRecOn with
  | _ n ih =>
    by_cases h9 : n < 10
    · exact ⟨48 + n, [], numL_lt h9, by omega, by omega⟩
    · obtain ⟨c, r, e, h1, h2⟩ := ih (n / 10) (by omega) (by omega)
      exact ⟨c, r ++ [48 + n % 10], by rw [numL_step (by omega), e]; rfl, h1, h2⟩
open TL in
theorem numL_len_ge {n k : Nat} (h : 10 ^ k ≤ n) : k < (TL.numL n).length := by
  have := digitsVal_lt _ (numL_digits n)
  rw [numL_val] at this
  by_cases c : k < (TL.numL n).length
  · exact c
  · have := Nat.pow_le_pow_right (show 0 < 10 by decide) (show (TL.numL n).length ≤ k by omega)
    omega
open TL in
theorem back_int {a : Int} (h : a.natAbs < 10 ^ 60) : okI (TL.tl (Str.ofString (toString a))) = true ∧ valI (TL.tl (Str.ofString (toString a))) = a := by
  have okd : ∀ n : Nat, n < 10 ^ 60 → okD (TL.numL n) = true := fun n hn => by
    unfold okD
    rw [dig_all.mpr (numL_digits n), decide_eq_true (TL.numL_len (by decide) hn)]
    cases e : TL.numL n with
    | nil => exact absurd e (numL_ne n)
    | cons _ _ => rfl
  cases a with
  | ofNat n =>
    have e : TL.tl (Str.ofString (toString (Int.ofNat n))) = TL.numL n := T_num n
    rw [e]
    have hd : digsL (TL.numL n) = TL.numL n ∧ negL (TL.numL n) = false := by
      cases e : TL.numL n with
      | nil => exact ⟨rfl, rfl⟩
      | cons c r =>
        have := numL_digits n c (by rw [e]; exact List.mem_cons_self)
        unfold digsL negL
        constructor <;> split <;> simp_all
    constructor
    · unfold okI zeroL
      rw [hd.1, okd n h]
      by_cases h0 : n = 0
      · subst h0
        rw [numL_lt (by decide)]
        rfl
      · obtain ⟨c, r, e2, c1, c2⟩ := numL_head n (by omega)
        rw [e2]
        have : decide ((c :: r).head? = some 48) = false := by simp; omega
        rw [this]
        rfl
    · unfold valI
      rw [hd.2, hd.1, if_neg Bool.false_ne_true, numL_val]
      rfl
  | negSucc m =>
    have e : TL.tl (Str.ofString (toString (Int.negSucc m))) = 45 :: TL.numL (m + 1) := T_neg m
    rw [e]
    have hm : m + 1 < 10 ^ 60 := h
    obtain ⟨c, r, e2, c1, c2⟩ := numL_head (m + 1) (by omega)
    constructor
    · unfold okI zeroL
      show (okD (TL.numL (m + 1)) && !(decide ((TL.numL (m + 1)).head? = some 48) && !decide (45 :: TL.numL (m + 1) = [48]))) = true
      rw [okd _ hm, e2]
      have : decide ((c :: r).head? = some 48) = false := by simp; omega
      rw [this]
      rfl
    · unfold valI
      show (if true = true then -((NumText.digitsVal (TL.numL (m + 1)) : Nat) : Int) else _) = _
      rw [if_pos rfl, numL_val]
      rfl
open TL in
theorem long_int {a : Int} (h : 10 ^ 60 ≤ a.natAbs) : okI (TL.tl (Str.ofString (toString a))) = false := by
  have no : ∀ n : Nat, 10 ^ 60 ≤ n → okD (TL.numL n) = false := fun n hn => by
    unfold okD
    rw [decide_eq_false (by have := numL_len_ge hn; omega), Bool.and_false]
  cases a with
  | ofNat n =>
    have e : TL.tl (Str.ofString (toString (Int.ofNat n))) = TL.numL n := T_num n
    rw [e]
    have hd : digsL (TL.numL n) = TL.numL n := by
      cases e : TL.numL n with
      | nil => rfl
      | cons c r =>
        have := numL_digits n c (by rw [e]; exact List.mem_cons_self)
        unfold digsL
        split <;> simp_all
    unfold okI
    rw [hd, no n h]
    rfl
  | negSucc m =>
    have e : TL.tl (Str.ofString (toString (Int.negSucc m))) = 45 :: TL.numL (m + 1) := T_neg m
    rw [e]
    unfold okI
    show (okD (TL.numL (m + 1)) && _) = false
    rw [no (m + 1) h]
    rfl
/-! ### digits in blocks of sixty -/
open TL in
def padL (k r : Nat) : List Nat := List.replicate (k - (TL.numL r).length) 48 ++ TL.numL r
open TL in
theorem num_block : ∀ (k q r : Nat), 0 < q → r < 10 ^ (k + 1) → TL.numL (q * 10 ^ (k + 1) + r) = TL.numL q ++ padL (k + 1) r
  | 0, q, r, hq, hr => by
    have hr' : r < 10 := hr
    rw [numL_step (by omega)]
    have e1 : (q * 10 ^ (0 + 1) + r) / 10 = q := by omega
    have e2 : (q * 10 ^ (0 + 1) + r) % 10 = r := by omega
    rw [e1, e2]
    unfold padL
    rw [numL_lt hr']
    rfl
  | k + 1, q, r, hq, hr => by
    have p : 10 ^ (k + 1 + 1) = 10 ^ (k + 1) * 10 := Nat.pow_succ ..
    have pp : 0 < 10 ^ (k + 1) := Nat.pow_pos (by decide)
    have hx : q * 10 ^ (k + 1 + 1) = (q * 10 ^ (k + 1)) * 10 := by rw [p, Nat.mul_assoc]
    have hq2 : 10 ^ (k + 1) ≤ q * 10 ^ (k + 1) := Nat.le_mul_of_pos_left _ hq
    rw [hx, numL_step (by omega)]
    have e1 : (q * 10 ^ (k + 1) * 10 + r) / 10 = q * 10 ^ (k + 1) + r / 10 := by omega
    have e2 : (q * 10 ^ (k + 1) * 10 + r) % 10 = r % 10 := by omega
    have hr2 : r / 10 < 10 ^ (k + 1) := by rw [p] at hr; omega
    rw [e1, e2, num_block k q (r / 10) hq hr2, List.append_assoc]
    congr 1
    unfold padL
    by_cases h : 10 ≤ r
    · rw [numL_step h, List.length_append, List.length_singleton, List.append_assoc]
      have : k + 1 + 1 - ((TL.numL (r / 10)).length + 1) = k + 1 - (TL.numL (r / 10)).length := by omega
      rw [this]
    · have z : r / 10 = 0 := by omega
      have m : r % 10 = r := by omega
      rw [z, m, numL_lt (show 0 < 10 by decide), numL_lt (show r < 10 by omega)]
      show List.replicate (k + 1 - 1) 48 ++ [48] ++ [48 + r] = List.replicate (k + 1 + 1 - 1) 48 ++ [48 + r]
      rw [show k + 1 - 1 = k by omega, show k + 1 + 1 - 1 = k + 1 by omega, List.replicate_succ']
open TL in
theorem T_zfill {r : Nat} (h : r < 10 ^ 60) : TL.tl (Txt.zfill (Str.ofString (toString ((r : Nat) : Int))) 60) = padL 60 r := by
  have hl : (TL.numL r).length ≤ 60 := TL.numL_len (by decide) h
  unfold Txt.zfill
  rw [T_len, T_num]
  unfold padL
  split
  · rename_i c
    have : 60 - (TL.numL r).length = 0 := by omega
    rw [this, T_num]
    rfl
  · have e60 : Int.toNat 60 = 60 := rfl
    rw [e60]
    unfold PySem.zfilled
    have hne := numL_ne r
    have hd := numL_digits r
    have e0 : (Str.ofString (toString ((r : Nat) : Int))).cps[0]? = (TL.numL r)[0]? := by rw [← T_num r, ← Array.getElem?_toList]
    rw [e0]
    cases e : TL.numL r with
    | nil => exact absurd e hne
    | cons c l =>
      have hc := hd c (by rw [e]; exact List.mem_cons_self)
      have : TL.tl (PySem.Builtin.Str.padded (Str.ofString (toString ((r : Nat) : Int))) (60 - (c :: l).length) 0 48) = List.replicate (60 - (c :: l).length) 48 ++ (c :: l) := by
        rw [← e]
        show ((Array.replicate (60 - (TL.numL r).length) 48 ++ (Str.ofString (toString ((r : Nat) : Int))).cps ++ Array.replicate 0 48).toList) = _
        rw [Array.toList_append, Array.toList_append, Array.toList_replicate, Array.toList_replicate, show (Str.ofString (toString ((r : Nat) : Int))).cps.toList = TL.numL r from T_num r]
        simp
      simp only [List.getElem?_cons_zero]
      split
      · rename_i z; cases z; omega
      · rename_i z; cases z; omega
      · exact this
/-! ### fractions: what they are, how they are made -/
/-- a number's size -/
def Sz (n : Nat) (x : Int) : Prop := x.natAbs < 2 ^ n
theorem Sz.mono {n m : Nat} {x : Int} (h : Sz n x) (l : n ≤ m) : Sz m x := Nat.lt_of_lt_of_le h (Nat.pow_le_pow_right (by decide) l)
theorem Sz.mul {n m : Nat} {x y : Int} (h : Sz n x) (g : Sz m y) : Sz (n + m) (x * y) := by
  unfold Sz at *
  rw [Int.natAbs_mul, Nat.pow_add]
  exact Nat.mul_lt_mul'' h g
theorem Sz.add {n : Nat} {x y : Int} (h : Sz n x) (g : Sz n y) : Sz (n + 1) (x + y) := by
  unfold Sz at *
  rw [Nat.pow_succ]
  have := Int.natAbs_add_le x y
  omega
theorem Sz.sub {n : Nat} {x y : Int} (h : Sz n x) (g : Sz n y) : Sz (n + 1) (x - y) := by
  unfold Sz at *
  rw [Nat.pow_succ]
  have := Int.natAbs_sub_le x y
  omega
theorem Sz.le {n : Nat} {x y : Int} (h : Sz n x) (g : y.natAbs ≤ x.natAbs) : Sz n y := Nat.lt_of_le_of_lt g h
theorem Sz.log2 {n : Nat} {x : Int} (h : Sz n x) (hn : n ≤ 1900) : x.natAbs.log2 < 1900 := by
  by_cases h0 : x.natAbs = 0
  · rw [h0]; decide
  · exact Nat.lt_of_lt_of_le ((Nat.log2_lt h0).mpr h) hn
theorem Sz.div {n : Nat} {x : Int} (h : Sz n x) (h0 : x ≠ 0) (hn : n ≤ 1900) (y : Int) : DivOk y x := ⟨h0, Nat.lt_trans (h.log2 hn) (by decide)⟩
/-- the fraction a / b in its one form: b not 0 -/
def nrmA (a b : Int) : Int := if b < 0 then -a / (Nat.gcd a.natAbs b.natAbs : Int) else a / (Nat.gcd a.natAbs b.natAbs : Int)
def nrmB (a b : Int) : Int := if b < 0 then -b / (Nat.gcd a.natAbs b.natAbs : Int) else b / (Nat.gcd a.natAbs b.natAbs : Int)
def frD (a b : Int) : D := .tup [.int a, .int b]
def tellD (a b : Int) : D := if b = 1 then .int a else .tup [.int a, .int b]
theorem gcd_pos {a b : Int} (h : b ≠ 0) : (0 : Int) < (Nat.gcd a.natAbs b.natAbs : Int) := by
  have := Nat.gcd_pos_of_pos_right a.natAbs (show 0 < b.natAbs by omega)
  omega
theorem nrm_one {a : Int} : nrmA a 1 = a ∧ nrmB a 1 = 1 := by simp [nrmA, nrmB]
theorem fdiv_neg' {x g : Int} (hg : 0 < g) (hd : g ∣ x) : x.fdiv (-g) = -x / g := by
  obtain ⟨c, rfl⟩ := hd
  rw [Int.fdiv_eq_ediv_of_dvd ((Int.neg_dvd).mpr (Int.dvd_mul_right g c)), Int.ediv_neg, Int.neg_ediv_of_dvd (Int.dvd_mul_right g c)]
theorem fdiv_pos' {x g : Int} (hg : 0 < g) : x.fdiv g = x / g := Int.fdiv_eq_ediv_of_nonneg x (by omega)
theorem gcd_dl (a b : Int) : (Nat.gcd a.natAbs b.natAbs : Int) ∣ a := Int.natAbs_dvd_natAbs.mp (by rw [Int.natAbs_natCast]; exact Nat.gcd_dvd_left _ _)
theorem gcd_dr (a b : Int) : (Nat.gcd a.natAbs b.natAbs : Int) ∣ b := Int.natAbs_dvd_natAbs.mp (by rw [Int.natAbs_natCast]; exact Nat.gcd_dvd_right _ _)
theorem mulOk_sz {n m : Nat} {x y : Int} (h : Sz n x) (g : Sz m y) (hn : n ≤ 1900) (hm : m ≤ 1900) : MulOk x y := .inr (by
  have a := h.log2 hn
  have b := g.log2 hm
  show _ < 1000000
  omega)
theorem nrm_ok {x y : Int} (h : y ≠ 0) : 0 < nrmB x y ∧ Nat.gcd (nrmA x y).natAbs (nrmB x y).natAbs = 1 ∧ (nrmA x y).natAbs ≤ x.natAbs ∧ (nrmB x y).natAbs ≤ y.natAbs := by
  have g0 : 0 < Nat.gcd x.natAbs y.natAbs := Nat.gcd_pos_of_pos_right _ (by omega)
  have ea : (nrmA x y).natAbs = x.natAbs / Nat.gcd x.natAbs y.natAbs := by
    unfold nrmA
    split
    · rw [Int.natAbs_ediv_of_dvd ((Int.dvd_neg).mpr (gcd_dl x y)), Int.natAbs_neg, Int.natAbs_natCast]
    · rw [Int.natAbs_ediv_of_dvd (gcd_dl x y), Int.natAbs_natCast]
  have eb : (nrmB x y).natAbs = y.natAbs / Nat.gcd x.natAbs y.natAbs := by
    unfold nrmB
    split
    · rw [Int.natAbs_ediv_of_dvd ((Int.dvd_neg).mpr (gcd_dr x y)), Int.natAbs_neg, Int.natAbs_natCast]
    · rw [Int.natAbs_ediv_of_dvd (gcd_dr x y), Int.natAbs_natCast]
  refine ⟨?_, ?_, ?_, ?_⟩
  · have nn : 0 ≤ nrmB x y := by
      unfold nrmB
      split
      · exact Int.ediv_nonneg (by omega) (by omega)
      · exact Int.ediv_nonneg (by omega) (by omega)
    have pos : 0 < (nrmB x y).natAbs := by
      rw [eb]
      exact Nat.div_pos (Nat.gcd_le_right _ (by omega)) g0
    omega
  · rw [ea, eb]
    rw [Nat.gcd_div (Nat.gcd_dvd_left _ _) (Nat.gcd_dvd_right _ _), Nat.div_self g0]
  · rw [ea]; exact Nat.div_le_self _ _
  · rw [eb]; exact Nat.div_le_self _ _
theorem nrm_id {a b : Int} (h : 0 < b) (g : Nat.gcd a.natAbs b.natAbs = 1) : nrmA a b = a ∧ nrmB a b = b := by
  unfold nrmA nrmB
  rw [if_neg (by omega), if_neg (by omega), g]
  simp
/-- a fraction in its one form -/
def IsF (a b : Int) : Prop := 0 < b ∧ Nat.gcd a.natAbs b.natAbs = 1
/-! ### how long a repr is -/
structure RO (p : PyData) (n k : Nat) : Prop where
  s : p.showable = true
  l : p.shown.length ≤ n
  d : p.depth ≤ k
theorem RO.mono {p : PyData} {n k n' k' : Nat} (h : RO p n k) (a : n ≤ n') (b : k ≤ k') : RO p n' k' := ⟨h.s, Nat.le_trans h.l a, Nat.le_trans h.d b⟩
theorem ro_int {a : Int} (h : Sz 1900 a) : RO (.int a) 1901 0 :=
  ⟨decide_eq_true (Nat.lt_trans (h.log2 (by decide)) (by decide)), by
    show (Str.ofString (toString a)).length ≤ 1901
    rw [ofString_length]
    exact int_text_length_le (k := 1900) (by decide) (h.log2 (by decide)), Nat.le_refl _⟩
theorem ro_bool (b : Bool) : RO (.bool b) 1901 0 := ⟨rfl, by cases b <;> decide +kernel, Nat.le_refl _⟩
theorem textFrom_le : ∀ (ts : List Str) (k : Nat) (acc : Str), (textFrom k acc ts).length ≤ acc.length + piled ts
  | [], k, acc => Nat.le_add_right _ _
  | t :: r, k, acc => by
    have ih := textFrom_le r (k + 1) (acc ++ (if k > 0 then ", " else "" : String) ++ t)
    have e : (acc ++ (if k > 0 then ", " else "" : String) ++ t).length = acc.length + (if k > 0 then 2 else 0) + t.length := by
      rw [strLen_append, strLen_append]
      split <;> rfl
    show (textFrom (k + 1) _ r).length ≤ _
    rw [piled_cons]
    rw [e] at ih
    have h2 : (if k > 0 then 2 else 0 : Nat) ≤ 2 := by split <;> decide
    omega
theorem piled_le {n : Nat} : ∀ ts : List Str, (∀ t ∈ ts, t.length ≤ n) → piled ts ≤ (n + 2) * ts.length
  | [], _ => Nat.le_refl _
  | t :: r, h => by
    rw [piled_cons, List.length_cons]
    have h1 := h t List.mem_cons_self
    have h2 := piled_le r fun u hu => h u (List.mem_cons_of_mem _ hu)
    rw [Nat.mul_succ]
    omega
theorem ro_all {n k : Nat} : ∀ ps : List PyData, (∀ p ∈ ps, RO p n k) → PyData.showableAll ps = true ∧ (∀ t ∈ PyData.shownAll ps, t.length ≤ n) ∧ (PyData.shownAll ps).length = ps.length ∧ PyData.depthAll ps ≤ k
  | [], _ => ⟨rfl, (fun t h => nomatch h), rfl, Nat.zero_le _⟩
  | p :: ps, h => by
    obtain ⟨a, b, c, d⟩ := ro_all ps fun q hq => h q (List.mem_cons_of_mem _ hq)
    have hp := h p List.mem_cons_self
    refine ⟨?_, ?_, ?_, ?_⟩
    · simp only [PyData.showableAll, hp.s, a, Bool.and_self]
    · intro t ht
      simp only [PyData.shownAll, List.mem_cons] at ht
      rcases ht with rfl | ht
      · exact hp.l
      · exact b t ht
    · simp only [PyData.shownAll, List.length_cons, c]
    · have := hp.d
      simp only [PyData.depthAll]
      omega
theorem ro_list {n k : Nat} {ps : List PyData} (h : ∀ p ∈ ps, RO p n k) : RO (.list ps) ((n + 2) * ps.length + 2) (k + 1) := by
  obtain ⟨a, b, c, d⟩ := ro_all ps h
  refine ⟨?_, ?_, ?_⟩
  · simp only [PyData.showable, a]
  · simp only [PyData.shown]
    unfold listText
    have e1 := textFrom_le (PyData.shownAll ps) 0 "["
    have e2 := piled_le _ b
    rw [c] at e2
    have l1 : ((("[" : String) : Str)).length = 1 := rfl
    have l2 : ((("]" : String) : Str)).length = 1 := rfl
    rw [strLen_append, l2]
    rw [l1] at e1
    omega
  · simp only [PyData.depth]
    omega
theorem ro_tup {n k : Nat} {ps : List PyData} (h : ∀ p ∈ ps, RO p n k) : RO (.tuple ps) ((n + 2) * ps.length + 3) (k + 1) := by
  obtain ⟨a, b, c, d⟩ := ro_all ps h
  refine ⟨?_, ?_, ?_⟩
  · simp only [PyData.showable, a]
  · simp only [PyData.shown]
    unfold tupleText
    have e2 := piled_le _ b
    rw [c] at e2
    have l1 : ((("(" : String) : Str)).length = 1 := rfl
    have l2 : (((if (PyData.shownAll ps).length == 1 then ",)" else ")" : String) : Str)).length ≤ 2 := by split <;> decide
    rw [strLen_append, strLen_append, l1]
    by_cases z : PyData.shownAll ps = []
    · rw [z]
      have : (Str.join ", " []).length = 0 := rfl
      rw [z] at l2
      omega
    · have := join_length_add _ z
      omega
  · simp only [PyData.depth]
    omega
def RD (d : D) : Prop := ∃ p, toPy d = some p ∧ RO p 4000 1
theorem rd_int {a : Int} (h : Sz 1900 a) : RD (.int a) := ⟨_, rfl, (ro_int h).mono (by decide) (by decide)⟩
theorem rd_bl (b : Bool) : RD (.bl b) := ⟨_, rfl, (ro_bool b).mono (by decide) (by decide)⟩
theorem rd_tell {a b : Int} (ha : Sz 1900 a) (hb : Sz 1900 b) : RD (tellD a b) := by
  unfold tellD
  split
  · exact rd_int ha
  · refine ⟨.tuple [.int a, .int b], rfl, (ro_tup (n := 1901) (k := 0) fun p hp => ?_).mono (by show (1901 + 2) * 2 + 3 ≤ 4000; decide) (by decide)⟩
    simp only [List.mem_cons, List.not_mem_nil, or_false] at hp
    rcases hp with rfl | rfl
    · exact ro_int ha
    · exact ro_int hb
theorem rd_all : ∀ ds : List D, (∀ d ∈ ds, RD d) → ∃ ps, toPys ds = some ps ∧ ps.length = ds.length ∧ ∀ p ∈ ps, RO p 4000 1
  | [], _ => ⟨[], rfl, rfl, fun p h => nomatch h⟩
  | d :: ds, h => by
    obtain ⟨ps, e, l, r⟩ := rd_all ds fun q hq => h q (List.mem_cons_of_mem _ hq)
    obtain ⟨p, e1, r1⟩ := h d List.mem_cons_self
    refine ⟨p :: ps, ?_, by rw [List.length_cons, List.length_cons, l], fun q hq => ?_⟩
    · simp only [toPys, e1, e]
    · rcases List.mem_cons.mp hq with rfl | hq
      · exact r1
      · exact r q hq
theorem rd_ok {d : D} (h : RD d) : ∃ p, toPy d = some p ∧ okRepr p := by
  obtain ⟨p, e, r⟩ := h
  exact ⟨p, e, r.s, Nat.le_trans r.l (by decide), Nat.le_trans r.d (by decide)⟩
theorem rd_list {ds : List D} (h : ∀ d ∈ ds, RD d) (l : ds.length ≤ 1000) : ∃ p, toPy (.lst ds) = some p ∧ okRepr p := by
  obtain ⟨ps, e, hl, r⟩ := rd_all ds h
  have R := ro_list r
  have hx : (4000 + 2) * ps.length ≤ (4000 + 2) * 1000 := Nat.mul_le_mul_left _ (by omega)
  exact ⟨.list ps, by simp only [toPy, e, Option.map], R.s, Nat.le_trans R.l (by omega), Nat.le_trans R.d (by decide)⟩
theorem eq_self_str (x : Str) : eqD (.str x) (.str x) = some true := by show some (decide (x = x)) = _; rw [decide_eq_true rfl]
/-! ### numbers read -/
def pairR (a b : List Nat) : D := if okI a && okI b && decide (2 ≤ valI b) && decide (Nat.gcd (valI a).natAbs (valI b).natAbs = 1) then .tup [.int (valI a), .int (valI b)] else .non
def readL (l : List Nat) : D := if 47 ∈ l then pairR (l.takeWhile (· != 47)) ((l.dropWhile (· != 47)).drop 1) else intD l
theorem okI_no {l : List Nat} (h : 47 ∈ l) : okI l = false := by
  unfold okI okD
  have : (digsL l).all dig = false := by
    rw [← Bool.not_eq_true]
    intro z
    have hm : 47 ∈ digsL l := by
      unfold digsL
      split
      · rename_i r
        rcases List.mem_cons.mp h with e | e
        · exact absurd e (by decide)
        · exact e
      · exact h
    have := List.all_eq_true.mp z 47 hm
    revert this
    decide
  rw [this]
  simp
theorem cut_47 (x : Str) : 47 ∉ TL.tl x ∨ ∃ a b : Str, x = a ++ "/" ++ b ∧ 47 ∉ TL.tl a := by
  have key : ∀ l : List Nat, 47 ∉ l ∨ ∃ a b : List Nat, l = a ++ 47 :: b ∧ 47 ∉ a := fun l => by
    induction l with
    | nil => exact .inl (by simp)
    | cons c r ih =>
      by_cases hc : c = 47
      · subst hc; exact .inr ⟨[], r, rfl, by simp⟩
      · rcases ih with h | ⟨a, b, e, h⟩
        · exact .inl (by simp only [List.mem_cons, not_or]; exact ⟨fun z => hc z.symm, h⟩)
        · exact .inr ⟨c :: a, b, by rw [e]; rfl, by simp only [List.mem_cons, not_or]; exact ⟨fun z => hc z.symm, h⟩⟩
  rcases key (TL.tl x) with h | ⟨a, b, e, h⟩
  · exact .inl h
  · refine .inr ⟨⟨a.toArray⟩, ⟨b.toArray⟩, T_ext ?_, by rw [TL.tl_mk]; exact h⟩
    refine e.trans ?_
    rw [TL.tl_append, TL.tl_append, T_slash, List.append_assoc]
    rfl
theorem readL_app {a b : List Nat} (h : 47 ∉ a) : readL (a ++ 47 :: b) = pairR a b := by
  have e1 : (a ++ 47 :: b).takeWhile (· != 47) = a := by
    induction a with
    | nil => rfl
    | cons c r ih =>
      simp only [List.mem_cons, not_or] at h
      have : (c != 47) = true := by simp; exact fun z => h.1 z.symm
      rw [List.cons_append, List.takeWhile_cons, this, if_pos rfl, ih h.2]
  have e2 : (a ++ 47 :: b).dropWhile (· != 47) = 47 :: b := by
    clear e1
    induction a with
    | nil => rfl
    | cons c r ih =>
      simp only [List.mem_cons, not_or] at h
      have : (c != 47) = true := by simp; exact fun z => h.1 z.symm
      rw [List.cons_append, List.dropWhile_cons, this, if_pos rfl, ih h.2]
  unfold readL
  rw [if_pos (by simp), e1, e2]
  rfl
theorem read_app {a b : Str} (h : 47 ∉ TL.tl a) : readL (TL.tl (a ++ "/" ++ b)) = pairR (TL.tl a) (TL.tl b) := by
  rw [TL.tl_append, TL.tl_append, T_slash, List.append_assoc]
  exact readL_app h
theorem int_no47 (a : Int) : 47 ∉ TL.tl (Str.ofString (toString a)) := by
  have hd : ∀ n, 47 ∉ TL.numL n := fun n hm => by have := TL.numL_digits n 47 hm; omega
  cases a with
  | ofNat n => rw [show TL.tl (Str.ofString (toString (Int.ofNat n))) = TL.numL n from T_num n]; exact hd n
  | negSucc m =>
    rw [show TL.tl (Str.ofString (toString (Int.negSucc m))) = 45 :: TL.numL (m + 1) from T_neg m]
    intro hm
    rcases List.mem_cons.mp hm with e | e
    · exact absurd e (by decide)
    · exact hd _ e
theorem read_int {a : Int} (h : a.natAbs < 10 ^ 60) : readL (TL.tl (Str.ofString (toString a))) = .int a := by
  unfold readL
  rw [if_neg (int_no47 a)]
  unfold intD
  rw [(back_int h).1, if_pos rfl, (back_int h).2]
theorem read_pair {a b : Int} (ha : a.natAbs < 10 ^ 60) (hb : b.natAbs < 10 ^ 60) (h2 : 2 ≤ b) (g : Nat.gcd a.natAbs b.natAbs = 1) : readL (TL.tl (Str.ofString (toString a) ++ "/" ++ Str.ofString (toString b))) = .tup [.int a, .int b] := by
  rw [read_app (int_no47 a)]
  unfold pairR
  rw [(back_int ha).1, (back_int hb).1, (back_int ha).2, (back_int hb).2, decide_eq_true h2, decide_eq_true g]
  rfl
theorem read_long {a : Int} (h : 10 ^ 60 ≤ a.natAbs) : readL (TL.tl (Str.ofString (toString a))) = .non := by
  unfold readL
  rw [if_neg (int_no47 a)]
  unfold intD
  rw [long_int h]
  rfl
theorem read_longB {a : Str} {b : Int} (ha : 47 ∉ TL.tl a) (h : 10 ^ 60 ≤ b.natAbs) : readL (TL.tl (a ++ "/" ++ Str.ofString (toString b))) = .non := by
  rw [read_app ha]
  unfold pairR
  rw [long_int h]
  simp
theorem read_longA {b : Str} {a : Int} (h : 10 ^ 60 ≤ a.natAbs) : readL (TL.tl (Str.ofString (toString a) ++ "/" ++ b)) = .non := by
  rw [read_app (int_no47 a)]
  unfold pairR
  rw [long_int h]
  simp
/-- what is read is small -/
theorem sz60 {a : Int} (h : a.natAbs < 10 ^ 60) : Sz 200 a := Nat.lt_of_lt_of_le h (by decide +kernel)
theorem readL_rd (l : List Nat) : RD (readL l) := by
  have nn : RD .non := ⟨.none, rfl, ⟨rfl, by show (("None" : String) : Str).length ≤ 4000; decide +kernel, Nat.zero_le _⟩⟩
  have ii : ∀ m, RD (intD m) := fun m => by
    unfold intD
    split
    · rename_i h; exact rd_int ((sz60 (valI_bound h)).mono (by decide))
    · exact nn
  unfold readL
  split
  · unfold pairR
    split
    · rename_i h
      simp only [Bool.and_eq_true, decide_eq_true_eq] at h
      obtain ⟨⟨⟨h1, h2⟩, h3⟩, h4⟩ := h
      have := rd_tell ((sz60 (valI_bound h1)).mono (show 200 ≤ 1900 by decide)) ((sz60 (valI_bound h2)).mono (show 200 ≤ 1900 by decide))
      unfold tellD at this
      rw [if_neg (by omega)] at this
      exact this
    · exact nn
  · exact ii l
theorem ro_str {x : Str} (h : ∀ c ∈ TL.tl x, c < 16 ^ 8) (l : x.length ≤ 300) : RO (.str x) 4000 0 :=
  ⟨rfl, by
    show (reprText x).length ≤ 4000
    have := PySem.StrLaws.reprText_len x h
    omega, Nat.le_refl _⟩
theorem rd_str {x : Str} (h : ∀ c ∈ TL.tl x, c < 16 ^ 8) (l : x.length ≤ 300) : RD (.str x) := ⟨_, rfl, (ro_str h l).mono (by decide) (by decide)⟩
theorem int_chars (a : Int) : ∀ c ∈ TL.tl (Str.ofString (toString a)), c < 16 ^ 8 := by
  have hd : ∀ n, ∀ c ∈ TL.numL n, c < 16 ^ 8 := fun n c hm => by have := TL.numL_digits n c hm; omega
  cases a with
  | ofNat n => rw [show TL.tl (Str.ofString (toString (Int.ofNat n))) = TL.numL n from T_num n]; exact hd n
  | negSucc m =>
    rw [show TL.tl (Str.ofString (toString (Int.negSucc m))) = 45 :: TL.numL (m + 1) from T_neg m]
    intro c hm
    rcases List.mem_cons.mp hm with e | e
    · rw [e]; decide
    · exact hd _ c e
theorem int_len60 {a : Int} (h : a.natAbs < 10 ^ 60) : (Str.ofString (toString a)).length ≤ 61 := by
  rw [PySem.ofString_length]
  exact int_text_length_le10 (k := 60) (by decide) h
end Z

set_option Elab.async false
set_option linter.all false
set_option maxRecDepth 100000
set_option maxHeartbeats 4000000
namespace Z
local macro_rules | `(tactic| walk_at "z at") => `(tactic| first | rfl | (simp only [atI, ixN, List.length_cons, List.length_nil, List.length_map]; rfl) | assumption)
local macro_rules | `(tactic| walk_at "z1") => `(tactic| first
  | with_reducible refine w_seq ?_ | with_reducible refine w_set ?_ | with_reducible refine w_ret ?_ | with_reducible refine w_if ?_ | with_reducible refine w_asg ?_ | with_reducible refine w_next ?_ | with_reducible refine w_setIx ?_ | with_reducible refine w_par ?_
  | ((with_reducible refine' w_var ?h ?_); (case h => exact rfl))
  | with_reducible refine w_c ?_ | with_reducible refine w_op ?_ | with_reducible refine w_un ?_ | with_reducible refine w_cons ?_ | with_reducible refine w_nil ?_ | with_reducible refine w_cb ?_
  | with_reducible refine w_call ?_ | with_reducible refine w_callK ?_ | with_reducible refine w_testB ?_ | with_reducible refine w_tru ?_ | with_reducible refine w_andD ?_ | with_reducible refine w_orD ?_ | with_reducible refine w_notD ?_
  | with_reducible refine w_andE ?_ | with_reducible refine w_orE ?_ | with_reducible refine w_notE ?_ | with_reducible refine w_ifE ?_ | with_reducible refine w_is ?_ | with_reducible refine w_isN ?_ | with_reducible refine w_notN ?_ | with_reducible refine w_tupOf ?_
  | with_reducible refine w_tup ?_ | with_reducible refine w_lst ?_ | with_reducible refine w_lstM ?_ | with_reducible refine w_sl ?_ | with_reducible refine w_part ?_ | with_reducible refine w_noPart ?_ | with_reducible refine w_repr ?_ | with_reducible refine w_seqI ?_
  | with_reducible refine w_rdI ?_ | with_reducible refine w_rdB ?_ | with_reducible refine w_rdAdd ?_ | with_reducible refine w_neg ?_ | with_reducible refine w_lenL ?_ | with_reducible refine w_lenT ?_ | with_reducible refine w_abs ?_ | with_reducible refine w_int ?_ | with_reducible refine w_intB ?_ | with_reducible refine w_gcd ?_
  | with_reducible refine w_gname ?_ | with_reducible refine w_gnil ?_ | with_reducible refine w_gcons ?_
  | with_reducible refine w_true ?_ | with_reducible refine w_false ?_
  | dsimp only [truthD, seqD, isNonD, permL, List.filterMap] | with_reducible refine w_drop ?_ | with_reducible refine w_retN ?_ | with_reducible refine w_nilP ?_ | with_reducible refine w_consP ?_ | with_reducible refine w_rng ?_ | with_reducible refine w_cont ?_ | with_reducible refine w_brk ?_)
local macro_rules | `(tactic| walk_at "z") => `(tactic| repeat walk_at "z1")
open PySem L2
def topS (i : Nat) : Stmt := PySem.Challenge.pw_lanecross_k04_numbers_written_and_read.main.body.getD i (.Pass ⟨0, 0, 0, 0⟩)
abbrev s_is_integer : Stmt := topS 2
abbrev s_is_within : Stmt := topS 3
abbrev s_is_row_of : Stmt := topS 4
abbrev s_is_number : Stmt := topS 5
abbrev s_digits_of : Stmt := topS 12
abbrev s_integer_text : Stmt := topS 13
abbrev s_numeral : Stmt := topS 14
abbrev s_integer_in : Stmt := topS 15
abbrev s_number_in : Stmt := topS 16
abbrev s_number_text : Stmt := topS 18
abbrev s_number_of : Stmt := topS 19
abbrev s__law_quill : Stmt := topS 21
abbrev s__law_scratch : Stmt := topS 22
abbrev s__law_pick : Stmt := topS 23
abbrev s__law_low : Stmt := topS 24
abbrev s__law_told : Stmt := topS 26
abbrev s__law_integer : Stmt := topS 27
abbrev s__law_read : Stmt := topS 28
abbrev s__law_number : Stmt := topS 29
abbrev s__law_bent : Stmt := topS 30
abbrev s__law_heard : Stmt := topS 31
abbrev s_law : Stmt := topS 32
theorem sc_is_integer : FnScope ["value"] ["value"] (defScope s_is_integer) := ⟨rfl, rfl, rfl, by decide +kernel, rfl, by decide +kernel, by decide +kernel⟩
theorem sc_is_within : FnScope ["value", "least", "most"] ["value", "least", "most"] (defScope s_is_within) := ⟨rfl, rfl, rfl, by decide +kernel, rfl, by decide +kernel, by decide +kernel⟩
theorem sc_is_row_of : FnScope ["value", "length"] ["value", "length"] (defScope s_is_row_of) := ⟨rfl, rfl, rfl, by decide +kernel, rfl, by decide +kernel, by decide +kernel⟩
theorem sc_is_number : FnScope ["value", "above", "below"] ["value"] (defScope s_is_number) := ⟨rfl, rfl, rfl, by decide +kernel, rfl, by decide +kernel, by decide +kernel⟩
theorem sc_digits_of : FnScope ["value", "block", "parts", "low"] ["value"] (defScope s_digits_of) := ⟨rfl, rfl, rfl, by decide +kernel, rfl, by decide +kernel, by decide +kernel⟩
theorem sc_integer_text : FnScope ["value"] ["value"] (defScope s_integer_text) := ⟨rfl, rfl, rfl, by decide +kernel, rfl, by decide +kernel, by decide +kernel⟩
theorem sc_numeral : FnScope ["number"] ["number"] (defScope s_numeral) := ⟨rfl, rfl, rfl, by decide +kernel, rfl, by decide +kernel, by decide +kernel⟩
theorem sc_integer_in : FnScope ["item", "digits"] ["item"] (defScope s_integer_in) := ⟨rfl, rfl, rfl, by decide +kernel, rfl, by decide +kernel, by decide +kernel⟩
theorem sc_number_in : FnScope ["item", "first", "bar", "last", "above", "below"] ["item"] (defScope s_number_in) := ⟨rfl, rfl, rfl, by decide +kernel, rfl, by decide +kernel, by decide +kernel⟩
theorem sc_number_text : FnScope ["value"] ["value"] (defScope s_number_text) := ⟨rfl, rfl, rfl, by decide +kernel, rfl, by decide +kernel, by decide +kernel⟩
theorem sc_number_of : FnScope ["text", "found"] ["text"] (defScope s_number_of) := ⟨rfl, rfl, rfl, by decide +kernel, rfl, by decide +kernel, by decide +kernel⟩
theorem sc__law_quill : FnScope ["_law_script", "_law_cell"] ["_law_script"] (defScope s__law_quill) := ⟨rfl, rfl, rfl, by decide +kernel, rfl, by decide +kernel, by decide +kernel⟩
theorem sc__law_scratch : FnScope ["_law_quill_here", "_law_many", "_law_left", "_law_turn", "_law_cell", "_law_mixed"] ["_law_quill_here", "_law_many"] (defScope s__law_scratch) := ⟨rfl, rfl, rfl, by decide +kernel, rfl, by decide +kernel, by decide +kernel⟩
theorem sc__law_pick : FnScope ["_law_quill_here", "_law_some"] ["_law_quill_here", "_law_some"] (defScope s__law_pick) := ⟨rfl, rfl, rfl, by decide +kernel, rfl, by decide +kernel, by decide +kernel⟩
theorem sc__law_low : FnScope ["_law_above", "_law_below", "_law_one", "_law_other", "_law_sign"] ["_law_above", "_law_below"] (defScope s__law_low) := ⟨rfl, rfl, rfl, by decide +kernel, rfl, by decide +kernel, by decide +kernel⟩
theorem sc__law_told : FnScope ["_law_pair_here", "_law_above", "_law_below"] ["_law_pair_here"] (defScope s__law_told) := ⟨rfl, rfl, rfl, by decide +kernel, rfl, by decide +kernel, by decide +kernel⟩
theorem sc__law_integer : FnScope ["_law_text", "_law_figures", "_law_sign"] ["_law_text"] (defScope s__law_integer) := ⟨rfl, rfl, rfl, by decide +kernel, rfl, by decide +kernel, by decide +kernel⟩
theorem sc__law_read : FnScope ["_law_text", "_law_parts", "_law_above", "_law_below"] ["_law_text"] (defScope s__law_read) := ⟨rfl, rfl, rfl, by decide +kernel, rfl, by decide +kernel, by decide +kernel⟩
theorem sc__law_number : FnScope ["_law_quill_here", "_law_most"] ["_law_quill_here"] (defScope s__law_number) := ⟨rfl, rfl, rfl, by decide +kernel, rfl, by decide +kernel, by decide +kernel⟩
theorem sc__law_bent : FnScope ["_law_quill_here", "_law_text", "_law_at", "_law_way", "_law_sign"] ["_law_quill_here", "_law_text"] (defScope s__law_bent) := ⟨rfl, rfl, rfl, by decide +kernel, rfl, by decide +kernel, by decide +kernel⟩
theorem sc__law_heard : FnScope ["_law_ask", "_law_found", "_law_caught", "error"] ["_law_ask"] (defScope s__law_heard) := ⟨rfl, rfl, rfl, by decide +kernel, rfl, by decide +kernel, by decide +kernel⟩
theorem sc_law : FnScope ["_law_script", "_law_quill_here", "_law_turn", "_law_pair_here", "_law_number_here", "_law_text", "_law_bend", "_law_bent_here", "_law_due", "_law_long", "_law_odd", "_law_bad"] ["_law_script"] (defScope s_law) := ⟨rfl, rfl, rfl, by decide +kernel, rfl, by decide +kernel, by decide +kernel⟩
abbrev s_LaneError : Stmt := topS 7
abbrev s_BadNumber : Stmt := topS 8
abbrev si_BadNumber : Stmt := inClass s_BadNumber 0
theorem sci_BadNumber : FnScope ["self", "part"] ["self", "part"] (defScope si_BadNumber) := ⟨rfl, rfl, rfl, by decide +kernel, rfl, by decide +kernel, by decide +kernel⟩
abbrev s_BadText : Stmt := topS 9
abbrev si_BadText : Stmt := inClass s_BadText 0
theorem sci_BadText : FnScope ["self", "line", "item"] ["self", "line", "item"] (defScope si_BadText) := ⟨rfl, rfl, rfl, by decide +kernel, rfl, by decide +kernel, by decide +kernel⟩
structure Ad where
  c_LaneError : Addr
  c_BadNumber : Addr
  c_BadText : Addr
  a_is_integer : Addr
  a_is_within : Addr
  a_is_row_of : Addr
  a_is_number : Addr
  a_digits_of : Addr
  a_integer_text : Addr
  a_numeral : Addr
  a_integer_in : Addr
  a_number_in : Addr
  a_number_text : Addr
  a_number_of : Addr
  a__law_quill : Addr
  a__law_scratch : Addr
  a__law_pick : Addr
  a__law_low : Addr
  a__law_told : Addr
  a__law_integer : Addr
  a__law_read : Addr
  a__law_number : Addr
  a__law_bent : Addr
  a__law_heard : Addr
  a_law : Addr
  k_law : Addr
  P_law : Addr
def qn_law : Str := ("law" : Str) ++ ".<locals>." ++ "<lambda>"
def Ad.ts (AA : Ad) : List Tb := [(AA.k_law, AA.P_law, qn_law)]
theorem tb_law {base : Heap} {mg : Str → Option Value} {AA : Ad} (TS : ∀ p ∈ AA.ts, LamX.TabB base mg p.1 p.2.1) : LamX.TabB base mg AA.k_law AA.P_law := TS (AA.k_law, AA.P_law, qn_law) (by simp [Ad.ts])
def Ad.all (AA : Ad) : List Addr := [AA.c_BadNumber, AA.c_BadText]
def FL : List Str := ["part", "line", "item"]
theorem in_BadNumber (AA : Ad) : AA.c_BadNumber ∈ AA.all := by simp [Ad.all]
theorem in_BadText (AA : Ad) : AA.c_BadText ∈ AA.all := by simp [Ad.all]
structure Txt (K : PySem.W.Frag) (mg : Str → Option Value) (AA : Ad) where
  gc_LaneError : mg "LaneError" = some (.ref AA.c_LaneError)
  b_LaneError : PySem.W.subIn K (.ref AA.c_LaneError) (.type "BaseException") = some true
  h_LaneError : PySem.W.hasDictIn K AA.c_LaneError = true
  t_LaneError : PySem.W.typeIn K (.ref AA.c_LaneError) = some (.type "type")
  gc_BadNumber : mg "BadNumber" = some (.ref AA.c_BadNumber)
  x_BadNumber : ExG K AA.c_LaneError AA.c_BadNumber FL
  i_BadNumber : Addr
  e_BadNumber : FuncData
  F_BadNumber : Fun K "__init__" "BadNumber.__init__" si_BadNumber i_BadNumber e_BadNumber
  iC_BadNumber : PySem.W.findIn K (.ref AA.c_BadNumber) "__init__" = some (some (.ref i_BadNumber))
  tI_BadNumber : PySem.W.typeIn K (.ref i_BadNumber) = some (.type "function")
  gc_BadText : mg "BadText" = some (.ref AA.c_BadText)
  x_BadText : ExG K AA.c_LaneError AA.c_BadText FL
  i_BadText : Addr
  e_BadText : FuncData
  F_BadText : Fun K "__init__" "BadText.__init__" si_BadText i_BadText e_BadText
  iC_BadText : PySem.W.findIn K (.ref AA.c_BadText) "__init__" = some (some (.ref i_BadText))
  tI_BadText : PySem.W.typeIn K (.ref i_BadText) = some (.type "function")
  nd : (AA.c_LaneError :: AA.all).Nodup
  t_MOST_DIGITS : Tok
  g_MOST_DIGITS : mg "MOST_DIGITS" = some (.int 60 t_MOST_DIGITS)
  ndt : (AA.ts.map (·.2.1)).Nodup
  d_is_integer : FuncData
  F_is_integer : Fun K "is_integer" "is_integer" s_is_integer AA.a_is_integer d_is_integer
  g_is_integer : mg "is_integer" = some (.ref AA.a_is_integer)
  d_is_within : FuncData
  F_is_within : Fun K "is_within" "is_within" s_is_within AA.a_is_within d_is_within
  g_is_within : mg "is_within" = some (.ref AA.a_is_within)
  d_is_row_of : FuncData
  F_is_row_of : Fun K "is_row_of" "is_row_of" s_is_row_of AA.a_is_row_of d_is_row_of
  g_is_row_of : mg "is_row_of" = some (.ref AA.a_is_row_of)
  d_is_number : FuncData
  F_is_number : Fun K "is_number" "is_number" s_is_number AA.a_is_number d_is_number
  g_is_number : mg "is_number" = some (.ref AA.a_is_number)
  d_digits_of : FuncData
  F_digits_of : Fun K "digits_of" "digits_of" s_digits_of AA.a_digits_of d_digits_of
  g_digits_of : mg "digits_of" = some (.ref AA.a_digits_of)
  d_integer_text : FuncData
  F_integer_text : Fun K "integer_text" "integer_text" s_integer_text AA.a_integer_text d_integer_text
  g_integer_text : mg "integer_text" = some (.ref AA.a_integer_text)
  d_numeral : FuncData
  F_numeral : Fun K "numeral" "numeral" s_numeral AA.a_numeral d_numeral
  g_numeral : mg "numeral" = some (.ref AA.a_numeral)
  d_integer_in : FuncData
  F_integer_in : Fun K "integer_in" "integer_in" s_integer_in AA.a_integer_in d_integer_in
  g_integer_in : mg "integer_in" = some (.ref AA.a_integer_in)
  d_number_in : FuncData
  F_number_in : Fun K "number_in" "number_in" s_number_in AA.a_number_in d_number_in
  g_number_in : mg "number_in" = some (.ref AA.a_number_in)
  d_number_text : FuncData
  F_number_text : Fun K "number_text" "number_text" s_number_text AA.a_number_text d_number_text
  g_number_text : mg "number_text" = some (.ref AA.a_number_text)
  d_number_of : FuncData
  F_number_of : Fun K "number_of" "number_of" s_number_of AA.a_number_of d_number_of
  g_number_of : mg "number_of" = some (.ref AA.a_number_of)
  d__law_quill : FuncData
  F__law_quill : Fun K "_law_quill" "_law_quill" s__law_quill AA.a__law_quill d__law_quill
  g__law_quill : mg "_law_quill" = some (.ref AA.a__law_quill)
  d__law_scratch : FuncData
  F__law_scratch : Fun K "_law_scratch" "_law_scratch" s__law_scratch AA.a__law_scratch d__law_scratch
  g__law_scratch : mg "_law_scratch" = some (.ref AA.a__law_scratch)
  d__law_pick : FuncData
  F__law_pick : Fun K "_law_pick" "_law_pick" s__law_pick AA.a__law_pick d__law_pick
  g__law_pick : mg "_law_pick" = some (.ref AA.a__law_pick)
  d__law_low : FuncData
  F__law_low : Fun K "_law_low" "_law_low" s__law_low AA.a__law_low d__law_low
  g__law_low : mg "_law_low" = some (.ref AA.a__law_low)
  d__law_told : FuncData
  F__law_told : Fun K "_law_told" "_law_told" s__law_told AA.a__law_told d__law_told
  g__law_told : mg "_law_told" = some (.ref AA.a__law_told)
  d__law_integer : FuncData
  F__law_integer : Fun K "_law_integer" "_law_integer" s__law_integer AA.a__law_integer d__law_integer
  g__law_integer : mg "_law_integer" = some (.ref AA.a__law_integer)
  d__law_read : FuncData
  F__law_read : Fun K "_law_read" "_law_read" s__law_read AA.a__law_read d__law_read
  g__law_read : mg "_law_read" = some (.ref AA.a__law_read)
  d__law_number : FuncData
  F__law_number : Fun K "_law_number" "_law_number" s__law_number AA.a__law_number d__law_number
  g__law_number : mg "_law_number" = some (.ref AA.a__law_number)
  d__law_bent : FuncData
  F__law_bent : Fun K "_law_bent" "_law_bent" s__law_bent AA.a__law_bent d__law_bent
  g__law_bent : mg "_law_bent" = some (.ref AA.a__law_bent)
  d__law_heard : FuncData
  F__law_heard : Fun K "_law_heard" "_law_heard" s__law_heard AA.a__law_heard d__law_heard
  g__law_heard : mg "_law_heard" = some (.ref AA.a__law_heard)
  d_law : FuncData
  F_law : FunC K "law" "law" s_law AA.a_law d_law AA.k_law
  g_law : mg "law" = some (.ref AA.a_law)
  n_abs : mg "abs" = none
  n_bool : mg "bool" = none
  n_divmod : mg "divmod" = none
  n_gcd : mg "gcd" = some (.builtin "math.gcd")
  n_int : mg "int" = none
  n_isinstance : mg "isinstance" = none
  n_len : mg "len" = none
  n_list : mg "list" = none
  n_min : mg "min" = none
  n_range : mg "range" = none
  n_repr : mg "repr" = none
  n_str : mg "str" = none
  n_tuple : mg "tuple" = none
section
variable {K : PySem.W.Frag} {mg : Str → Option Value} {AA : Ad}
theorem Txt.xs (T : Txt K mg AA) : ∀ C ∈ AA.all, ExG K AA.c_LaneError C FL := List.forall_mem_cons.mpr ⟨T.x_BadNumber, List.forall_mem_cons.mpr ⟨T.x_BadText, fun _ h => absurd h List.not_mem_nil⟩⟩
theorem bi_BadNumber (T : Txt K mg AA) : Binds K T.e_BadNumber ["self", "part"] [] := T.F_BadNumber.binds fun _ _ _ _ _ _ us hl => match us, hl with | [_, _], _ => rfl
theorem init_BadNumber {P : Program} {w : World} {base : Heap} (T : Txt K mg AA) : FnOk P w K mg base CX0 1 T.i_BadNumber T.e_BadNumber ["self", "part"] (spI1 AA.c_BadNumber "part") :=
  T.F_BadNumber.ok sci_BadNumber (fun _ _ _ _ ⟨_, _, h, _⟩ => by rw [h]; rfl) (fun cdv A outer s H vs Q E hr h => ⟨_, pss_one (ps_ost (pv 0) (pv 1) rfl), ost1 (p := "") rfl T.x_BadNumber.k (T.x_BadNumber.nf _ (by decide)) h⟩)
theorem bi_BadText (T : Txt K mg AA) : Binds K T.e_BadText ["self", "line", "item"] [] := T.F_BadText.binds fun _ _ _ _ _ _ us hl => match us, hl with | [_, _, _], _ => rfl
theorem init_BadText {P : Program} {w : World} {base : Heap} (T : Txt K mg AA) : FnOk P w K mg base CX0 1 T.i_BadText T.e_BadText ["self", "line", "item"] (spI2 AA.c_BadText "line" "item") :=
  T.F_BadText.ok sci_BadText (fun _ _ _ _ ⟨_, _, _, h, _⟩ => by rw [h]; rfl) (fun cdv A outer s H vs Q E hr h => ⟨_, pss_cons (ps_ost (pv 0) (pv 1) rfl) (pss_one (ps_ost (pv 0) (pv 2) rfl)), ost2 (p := "") rfl T.x_BadText.k (T.x_BadText.nf _ (by decide)) (T.x_BadText.nf _ (by decide)) h⟩)
theorem b_is_integer (T : Txt K mg AA) : Binds K T.d_is_integer ["value"] [] := T.F_is_integer.binds fun _ _ _ _ _ _ us hl => match us, hl with | [_], _ => rfl
theorem b_is_within (T : Txt K mg AA) : Binds K T.d_is_within ["value", "least", "most"] [] := T.F_is_within.binds fun _ _ _ _ _ _ us hl => match us, hl with | [_, _, _], _ => rfl
theorem b_is_row_of (T : Txt K mg AA) : Binds K T.d_is_row_of ["value", "length"] [] := T.F_is_row_of.binds fun _ _ _ _ _ _ us hl => match us, hl with | [_, _], _ => rfl
theorem b_is_number (T : Txt K mg AA) : Binds K T.d_is_number ["value"] [] := T.F_is_number.binds fun _ _ _ _ _ _ us hl => match us, hl with | [_], _ => rfl
theorem b_digits_of (T : Txt K mg AA) : Binds K T.d_digits_of ["value"] [] := T.F_digits_of.binds fun _ _ _ _ _ _ us hl => match us, hl with | [_], _ => rfl
theorem b_integer_text (T : Txt K mg AA) : Binds K T.d_integer_text ["value"] [] := T.F_integer_text.binds fun _ _ _ _ _ _ us hl => match us, hl with | [_], _ => rfl
theorem b_numeral (T : Txt K mg AA) : Binds K T.d_numeral ["number"] [] := T.F_numeral.binds fun _ _ _ _ _ _ us hl => match us, hl with | [_], _ => rfl
theorem b_integer_in (T : Txt K mg AA) : Binds K T.d_integer_in ["item"] [] := T.F_integer_in.binds fun _ _ _ _ _ _ us hl => match us, hl with | [_], _ => rfl
theorem b_number_in (T : Txt K mg AA) : Binds K T.d_number_in ["item"] [] := T.F_number_in.binds fun _ _ _ _ _ _ us hl => match us, hl with | [_], _ => rfl
theorem b_number_text (T : Txt K mg AA) : Binds K T.d_number_text ["value"] [] := T.F_number_text.binds fun _ _ _ _ _ _ us hl => match us, hl with | [_], _ => rfl
theorem b_number_of (T : Txt K mg AA) : Binds K T.d_number_of ["text"] [] := T.F_number_of.binds fun _ _ _ _ _ _ us hl => match us, hl with | [_], _ => rfl
theorem b__law_quill (T : Txt K mg AA) : Binds K T.d__law_quill ["_law_script"] [] := T.F__law_quill.binds fun _ _ _ _ _ _ us hl => match us, hl with | [_], _ => rfl
theorem b__law_scratch (T : Txt K mg AA) : Binds K T.d__law_scratch ["_law_quill_here", "_law_many"] [] := T.F__law_scratch.binds fun _ _ _ _ _ _ us hl => match us, hl with | [_, _], _ => rfl
theorem b__law_pick (T : Txt K mg AA) : Binds K T.d__law_pick ["_law_quill_here", "_law_some"] [] := T.F__law_pick.binds fun _ _ _ _ _ _ us hl => match us, hl with | [_, _], _ => rfl
theorem b__law_low (T : Txt K mg AA) : Binds K T.d__law_low ["_law_above", "_law_below"] [] := T.F__law_low.binds fun _ _ _ _ _ _ us hl => match us, hl with | [_, _], _ => rfl
theorem b__law_told (T : Txt K mg AA) : Binds K T.d__law_told ["_law_pair_here"] [] := T.F__law_told.binds fun _ _ _ _ _ _ us hl => match us, hl with | [_], _ => rfl
theorem b__law_integer (T : Txt K mg AA) : Binds K T.d__law_integer ["_law_text"] [] := T.F__law_integer.binds fun _ _ _ _ _ _ us hl => match us, hl with | [_], _ => rfl
theorem b__law_read (T : Txt K mg AA) : Binds K T.d__law_read ["_law_text"] [] := T.F__law_read.binds fun _ _ _ _ _ _ us hl => match us, hl with | [_], _ => rfl
theorem b__law_number (T : Txt K mg AA) : Binds K T.d__law_number ["_law_quill_here"] [] := T.F__law_number.binds fun _ _ _ _ _ _ us hl => match us, hl with | [_], _ => rfl
theorem b__law_bent (T : Txt K mg AA) : Binds K T.d__law_bent ["_law_quill_here", "_law_text"] [] := T.F__law_bent.binds fun _ _ _ _ _ _ us hl => match us, hl with | [_, _], _ => rfl
theorem b__law_heard (T : Txt K mg AA) : Binds K T.d__law_heard ["_law_ask"] [] := T.F__law_heard.binds fun _ _ _ _ _ _ us hl => match us, hl with | [_], _ => rfl
theorem b_law (T : Txt K mg AA) : Binds K T.d_law ["_law_script"] [] := T.F_law.to.binds fun _ _ _ _ _ _ us hl => match us, hl with | [_], _ => rfl
theorem bk_number_of_text (T : Txt K mg AA) : KwB K T.d_number_of ["text"] ["text"] [0] := kwB T.F_number_of fun _ _ _ _ _ _ us hl => match us, hl with | [_], _ => rfl
theorem bk_number_text_value (T : Txt K mg AA) : KwB K T.d_number_text ["value"] ["value"] [0] := kwB T.F_number_text fun _ _ _ _ _ _ us hl => match us, hl with | [_], _ => rfl
end
/-! ### what is an integer, a number, a spot -/
def isNumB : D → Bool
  | .int _ => true
  | .lst [.int a, .int b] => decide (2 ≤ b) && decide (Nat.gcd a.natAbs b.natAbs = 1)
  | .tup [.int a, .int b] => decide (2 ≤ b) && decide (Nat.gcd a.natAbs b.natAbs = 1)
  | _ => false
def pairB (x y : D) : Bool := match x, y with | .int a, .int b => decide (2 ≤ b) && decide (Nat.gcd a.natAbs b.natAbs = 1) | _, _ => false
def rowB (n : Int) (d : D) : Bool := match seqD d with | some xs => decide ((xs.length : Int) = n) | none => false
def topB (i : Int) (m : D) : Bool := match m with | .int b => decide (i ≤ b) | _ => true
def isSpotB (d : D) : Bool := match seqD d with | some [x, y] => isNumB x && isNumB y | _ => false
def boundB (d : D) : Bool := match d with | .non | .int _ => true | _ => false
def withinB (v l m : D) : Bool := match v with
  | .int i => (match l with | .int a => decide (a ≤ i) | _ => true) && (match m with | .int b => decide (i ≤ b) | _ => true)
  | _ => false
def sp_is_integer (AA : Ad) : SpD := spF1 isIntB
def sp_is_within (AA : Ad) : SpD := fun ds M F _ => ∃ v l m, ds = [v, l, m] ∧ plainD v = true ∧ boundB l = true ∧ boundB m = true ∧ F (.bl (withinB v l m)) M
def sp_is_row_of (AA : Ad) : SpD := fun ds M F _ => ∃ v n, ds = [v, .int n] ∧ plainD v = true ∧ F (.bl (rowB n v)) M
def sp_is_number (AA : Ad) : SpD := spF1 isNumB
def t_is_integer (AA : Ad) : TSD := (tRetD (tAndE (tIs (isTag .int) (tVarD 0)) (tNotE (tIs (isTag .bool) (tVarD 0)))))
def t_is_within (AA : Ad) : TSD := (tSeqD (tIfD (tNotD (tTruD (tCallD (sp_is_integer AA) (tConsD (tVarD 0) tNilD))))
    (tRetD (tCD (.bl false)))
    tNextD)
  (tRetD (tAndE (tOrE (tIsND (tVarD 1)) (tOpD (rdB fun i j => decide (j ≤ i)) (tVarD 0) (tVarD 1))) (tOrE (tIsND (tVarD 2)) (tOpD (rdB fun i j => decide (i ≤ j)) (tVarD 0) (tVarD 2))))))
def t_is_row_of (AA : Ad) : TSD := (tRetD (tAndE (tIs (isTag2 .list .tuple) (tVarD 0)) (tOpD rdEq (tCBD rdLen (tConsD (tVarD 0) tNilD)) (tVarD 1))))
def t_is_number (AA : Ad) : TSD := (tSeqD (tIfD (tNotD (tTruD (tCallD (sp_is_row_of AA) (tConsD (tVarD 0) (tConsD (tCD (.int 2)) tNilD)))))
    (tRetD (tCallD (sp_is_integer AA) (tConsD (tVarD 0) tNilD)))
    tNextD)
  (tSeqD (tAsgD (tVarD 0) (gTupD 2 (gConsD (gNameD 1) (gConsD (gNameD 2) gNilD))))
  (tRetD (tAndE (tCallD (sp_is_integer AA) (tConsD (tVarD 1) tNilD)) (tAndE (tCallD (sp_is_within AA) (tConsD (tVarD 2) (tConsD (tCD (.int 2)) (tConsD (tCD .non) tNilD)))) (tOpD rdEq (tCBD rdGcd (tConsD (tVarD 1) (tConsD (tVarD 2) tNilD))) (tCD (.int 1))))))))
theorem len1 {g : D → Bool} : ∀ ds M F E, spF1 g ds M F E → ds.length = 1 := fun ds M F E ⟨d, e, _⟩ => by rw [e]; rfl
theorem len_is_integer (AA : Ad) : ∀ ds M F E, sp_is_integer AA ds M F E → ds.length = 1 := len1
theorem len_is_number (AA : Ad) : ∀ ds M F E, sp_is_number AA ds M F E → ds.length = 1 := len1
theorem len_is_within (AA : Ad) : ∀ ds M F E, sp_is_within AA ds M F E → ds.length = 3 := fun ds M F E ⟨_, _, _, e, _⟩ => by rw [e]; rfl
theorem len_is_row_of (AA : Ad) : ∀ ds M F E, sp_is_row_of AA ds M F E → ds.length = 2 := fun ds M F E ⟨_, _, e, _⟩ => by rw [e]; rfl
theorem int_val {d : D} (h : plainD d = true) {W : WD} {Q : QD} {τ : EnvD} {M : MH} {n : Nat} (hv : getN τ n = some d) (k : Q (.bl (isIntB d)) M) : tAndE (tIs (isTag .int) (tVarD n)) (tNotE (tIs (isTag .bool) (tVarD n))) W τ M Q := by
  refine w_andE (w_is (w_var hv ?_))
  rw [tag_int h]
  cases d <;> first
    | exact w_false k
    | (refine w_true (w_notE (w_is (w_var hv ?_))); exact k)
theorem wp_is_integer (AA : Ad) : ∀ ds M F FE, sp_is_integer AA ds M F FE → t_is_integer AA (fun C fs _ M => FE C fs M) { nx := fun _ M => F .non M, rt := F } (startD ["value"] ds) M := by
  rintro ds M F FE ⟨d, rfl, hp, k⟩
  exact int_val (n := 0) (τ := [some d]) hp rfl k
theorem wp_is_within (AA : Ad) : ∀ ds M F FE, sp_is_within AA ds M F FE → t_is_within AA (fun C fs _ M => FE C fs M) { nx := fun _ M => F .non M, rt := F } (startD ["value", "least", "most"] ds) M := by
  rintro ds M F FE ⟨v, l, m, rfl, hp, hl, hm, k⟩
  unfold t_is_within
  walk_at "z"
  refine f1_do hp ?_
  walk_at "z"
  cases v <;> first
    | (refine w_true ?_; walk_at "z"; exact k)
    | skip
  rename_i i
  refine w_false ?_
  walk_at "z"
  cases l <;> first | (cases hl; done) | skip
  all_goals
    cases m <;> first | (cases hm; done) | skip
  · walk_at "z"; exact k
  · walk_at "z"; exact k
  · walk_at "z"
    refine w_dec (fun c => ?_) (fun c => ?_) <;> walk_at "z" <;> simpa [withinB, c] using k
  · walk_at "z"
    refine w_dec (fun c => ?_) (fun c => ?_) <;> walk_at "z" <;> simpa [withinB, c] using k
theorem wp_is_row_of (AA : Ad) : ∀ ds M F FE, sp_is_row_of AA ds M F FE → t_is_row_of AA (fun C fs _ M => FE C fs M) { nx := fun _ M => F .non M, rt := F } (startD ["value", "length"] ds) M := by
  rintro ds M F FE ⟨v, n, rfl, hp, k⟩
  unfold t_is_row_of
  walk_at "z"
  rw [tag_lt hp]
  walk_at "z"
  unfold rowB at k
  cases v <;> first
    | (refine w_false ?_; exact k)
    | (refine w_true ?_; walk_at "z"; exact w_eq rfl k)
theorem seqD_some {v : D} {xs : List D} (h : seqD v = some xs) : v = .lst xs ∨ v = .tup xs := by cases v <;> cases h <;> simp
theorem wp_is_number (AA : Ad) : ∀ ds M F FE, sp_is_number AA ds M F FE → t_is_number AA (fun C fs _ M => FE C fs M) { nx := fun _ M => F .non M, rt := F } (startD ["value", "above", "below"] ds) M := by
  rintro ds M F FE ⟨v, rfl, hp, k⟩
  unfold t_is_number
  walk_at "z"
  refine ⟨_, _, rfl, hp, ?_⟩
  walk_at "z"
  cases hs : seqD v with
  | none =>
    have e1 : rowB 2 v = false := by unfold rowB; rw [hs]
    rw [e1]
    refine w_true ?_
    walk_at "z"
    refine f1_do hp ?_
    have e2 : isIntB v = isNumB v := by cases v <;> first | rfl | (cases hs)
    rw [e2]
    exact k
  | some xs =>
    have hv := seqD_some hs
    have hxs : plainDs xs = true := seq_plain hp hs
    have h2 : ∀ x y, xs = [x, y] → pairB x y = isNumB v := fun x y e => by subst e; rcases hv with rfl | rfl <;> cases x <;> cases y <;> rfl
    have h3 : xs.length ≠ 2 → isNumB v = false := fun h => by rcases hv with rfl | rfl <;> (unfold isNumB; split <;> first | rfl | simp_all)
    have h4 : isIntB v = false := by rcases hv with rfl | rfl <;> rfl
    have hr : rowB 2 v = decide ((xs.length : Int) = 2) := by rcases hv with rfl | rfl <;> rfl
    rw [hr]
    refine w_ndec (fun c => ?_) (fun c => ?_)
    · walk_at "z"
      refine f1_do hp ?_
      rw [h4]
      rw [h3 (by omega)] at k
      exact k
    · obtain ⟨x, y, rfl⟩ : ∃ x y, xs = [x, y] := by
        match xs, c with
        | [x, y], _ => exact ⟨x, y, rfl⟩
        | [], c => simp at c
        | [_], c => simp at c
        | _ :: _ :: _ :: r, c => simp at c; omega
      rw [← h2 x y rfl] at k
      have hx : plainD x = true := plainDs_iff.mp hxs x (by simp)
      have hy : plainD y = true := plainDs_iff.mp hxs y (by simp)
      walk_at "z"
      refine w_gtup (xs := [x, y]) (by rcases hv with rfl | rfl <;> rfl) rfl ?_
      walk_at "z"
      refine f1_do hx ?_
      cases x <;> first | exact w_false k | skip
      refine w_true ?_
      walk_at "z"
      refine ⟨_, _, _, rfl, hy, rfl, rfl, ?_⟩
      cases y <;> first | exact w_false k | skip
      rename_i a b
      have e1 : withinB (.int b) (.int 2) .non = decide (2 ≤ b) := by show (decide (2 ≤ b) && true) = _; rw [Bool.and_true]
      rw [e1]
      refine w_dec (fun c => ?_) (fun c => ?_)
      · walk_at "z"
        refine w_eq rfl ?_
        have e2 : pairB (.int a) (.int b) = decide (((Nat.gcd a.natAbs b.natAbs : Nat) : Int) = 1) := by
          show (decide (2 ≤ b) && decide (Nat.gcd a.natAbs b.natAbs = 1)) = _
          rw [decide_eq_true c, Bool.true_and]
          exact decide_eq_decide.mpr ⟨fun h => by omega, fun h => by omega⟩
        rw [e2] at k
        exact k
      · have e2 : pairB (.int a) (.int b) = false := by
          show (decide (2 ≤ b) && _) = _
          rw [decide_eq_false c, Bool.false_and]
        rw [e2] at k
        exact k
def numV (d : D) : Option (Int × Int) := match d with | .int i => some (i, 1) | .lst [.int a, .int b] => some (a, b) | .tup [.int a, .int b] => some (a, b) | _ => none
theorem num_val {d : D} (h : isNumB d = true) : ∃ a b, numV d = some (a, b) ∧ 0 < b := by
  unfold isNumB at h
  split at h
  · exact ⟨_, 1, rfl, by decide⟩
  · rename_i a b
    simp only [Bool.and_eq_true, decide_eq_true_eq] at h
    exact ⟨a, b, rfl, by omega⟩
  · rename_i a b
    simp only [Bool.and_eq_true, decide_eq_true_eq] at h
    exact ⟨a, b, rfl, by omega⟩
  · cases h
/-! ### texts written -/
abbrev strI (a : Int) : Str := Str.ofString (toString a)
def Ext (M M' : MH) : Prop := ∀ a o, M a = some o → M' a = some o
theorem Ext.refl {M : MH} : Ext M M := fun _ _ h => h
theorem Ext.trans {M M1 M2 : MH} (h : Ext M M1) (g : Ext M1 M2) : Ext M M2 := fun a o e => g a o (h a o e)
def sp_digits_of (AA : Ad) : SpD := fun ds M F _ => ∃ n : Nat, ds = [.int n] ∧ n < 10 ^ 300 ∧ ∀ M', Ext M M' → F (.str (strI n)) M'
def sp_integer_text (AA : Ad) : SpD := fun ds M F _ => ∃ a : Int, ds = [.int a] ∧ a.natAbs < 10 ^ 300 ∧ ∀ M', Ext M M' → F (.str (strI a)) M'
def sp_numeral (AA : Ad) : SpD := fun ds M F _ => (∃ a : Int, ds = [.int a] ∧ a.natAbs < 10 ^ 300 ∧ ∀ M', Ext M M' → F (.str (strI a)) M') ∨
  ∃ (a b : Int) (d : D), ds = [d] ∧ (d = .lst [.int a, .int b] ∨ d = .tup [.int a, .int b]) ∧ a.natAbs < 10 ^ 300 ∧ b.natAbs < 10 ^ 300 ∧ ∀ M', Ext M M' → F (.str (strI a ++ "/" ++ strI b)) M'
def sp_number_text (AA : Ad) : SpD := fun ds M F E => ∃ d, ds = [d] ∧ plainD d = true ∧ (isNumB d = false → E AA.c_BadNumber [("part", .str "value")] M) ∧
  (isNumB d = true → (∀ a, d = .int a → a.natAbs < 10 ^ 300 ∧ ∀ M', Ext M M' → F (.str (strI a)) M') ∧
    ∀ a b, (d = .lst [.int a, .int b] ∨ d = .tup [.int a, .int b]) → a.natAbs < 10 ^ 300 ∧ b.natAbs < 10 ^ 300 ∧ ∀ M', Ext M M' → F (.str (strI a ++ "/" ++ strI b)) M')
def t_digits_of (AA : Ad) : TSD := (tSeqD (tSetD 1 (tOpD (rdIC CPow fun i j => i ^ j.toNat) (tCD (.int 10)) (tCD (.int 60))))
  (tSeqD (tSetD 2 (tLstM tNilD))
  (tSeqD (tWhileD (tTestB (tOpD (rdB fun i j => decide (j ≤ i)) (tVarD 0) (tVarD 1)))
    (tSeqD (tAsgD (tCBD rdDivmod (tConsD (tVarD 0) (tConsD (tVarD 1) tNilD))) (gTupD 2 (gConsD (gNameD 0) (gConsD (gNameD 3) gNilD))))
  (tDropD (tAppD 2 (tM1D rdZfill (tCBD rdStr (tConsD (tVarD 3) tNilD)) (tCD (.int 60)))))))
  (tSeqD (tDropD (tAppD 2 (tCBD rdStr (tConsD (tVarD 0) tNilD))))
  (tRetD (tM1D rdJoin (tCD (.str "")) (tUnD rdRevL (tVarD 2))))))))
def t_integer_text (AA : Ad) : TSD := (tSeqD (tIfD (tTestB (tOpD (rdB fun i j => decide (i < j)) (tVarD 0) (tCD (.int 0))))
    (tRetD (tOpD rdAdd (tCD (.str "-")) (tCallD (sp_digits_of AA) (tConsD (tUnD rdNeg (tVarD 0)) tNilD))))
    tNextD)
  (tRetD (tCallD (sp_digits_of AA) (tConsD (tVarD 0) tNilD))))
def t_numeral (AA : Ad) : TSD := (tSeqD (tIfD (tTruD (tIs (isTag .int) (tVarD 0)))
    (tRetD (tCallD (sp_integer_text AA) (tConsD (tVarD 0) tNilD)))
    tNextD)
  (tRetD (tOpD rdAdd (tOpD rdAdd (tCallD (sp_integer_text AA) (tConsD (tOpD rdIx (tVarD 0) (tCD (.int 0))) tNilD)) (tCD (.str "/"))) (tCallD (sp_integer_text AA) (tConsD (tOpD rdIx (tVarD 0) (tCD (.int 1))) tNilD)))))
def t_number_text (AA : Ad) : TSD := (tSeqD (tIfD (tNotD (tTruD (tCallD (sp_is_number AA) (tConsD (tVarD 0) tNilD))))
    (tRaiseD AA.c_BadNumber (fl1 "part") (tConsD (tCD (.str "value")) tNilD))
    tNextD)
  (tRetD (tCallD (sp_numeral AA) (tConsD (tVarD 0) tNilD))))
theorem joinL_nil : ∀ ls : List (List Nat), TL.joinL [] ls = ls.flatten
  | [] => rfl
  | [p] => by simp [TL.joinL]
  | p :: q :: r => by
    have := joinL_nil (q :: r)
    simp [TL.joinL] at this ⊢
    rw [this]
theorem T_join (ys : List Str) : TL.tl (Txt.join "" ys) = (ys.map TL.tl).flatten := by
  rw [TL.join_eq, TL.tl_join, show TL.tl ("" : Str) = [] from by decide +kernel, joinL_nil]
theorem sum_len : ∀ ys : List Str, (ys.map (·.length)).sum = (ys.map TL.tl).flatten.length
  | [] => rfl
  | y :: ys => by
    rw [List.map_cons, List.sum_cons, List.map_cons, List.flatten_cons, List.length_append, sum_len ys, TL.len_tl]
theorem lg_of {a : Int} {k : Nat} (h : a.natAbs < 2 ^ k) (hk : k ≤ 1900) : a.natAbs.log2 < 1920 := Nat.lt_trans (Sz.log2 h hk) (by decide)
theorem p300 : (10 : Nat) ^ 300 ≤ 2 ^ 1000 := by decide +kernel
section
variable {W : WD} {τ : EnvD} {M : MH} {Q : QD} {i : Nat} {te to : TED} {p : Addr} {xs : List D} {x y : Str}
theorem w_app (h1 : getN τ i = some (.ref p)) (h2 : M p = some (.lst xs)) (h : te W τ M fun d M1 => match M1 p with | some (.lst xs) => xs.length < 16777216 ∧ Q .non (mput M1 p (.lst (xs ++ [d]))) | _ => False) : tAppD i te W τ M Q := ⟨p, h1, ⟨xs, h2⟩, h⟩
theorem w_m1 {rd : R2D} (h : to W τ M fun d M1 => (∃ a, d = .str a) ∧ te W τ M1 fun y M2 => rd d y M2 Q) : tM1D rd to te W τ M Q := h
theorem w_strI {a : Int} (h : a.natAbs.log2 < 1920) (k : Q (.str (strI a)) M) : rdStr [.int a] M Q := ⟨h, k⟩
theorem w_zf {r : Int} (h : PadOk r = true) (k : Q (.str (Txt.zfill x r)) M) : rdZfill (.str x) (.int r) M Q := ⟨h, k⟩
theorem w_dm {a b : Int} (h0 : 0 < b) (hl : b.natAbs.log2 < 9000) (k : Q (.tup [.int (a / b), .int (a % b)]) M) : rdDivmod [.int a, .int b] M Q := ⟨h0, hl, k⟩
theorem w_jn {ds : List D} {ys : List Str} (h : strsD ds = some ys) (l : (ys.map (·.length)).sum + ys.length * x.length ≤ 16777216) (k : Q (.str (Txt.join x ys)) M) : rdJoin (.str x) (.lst ds) M Q := by
  unfold rdJoin
  dsimp only
  rw [h]
  exact ⟨l, k⟩
theorem w_revR (h : M p = some (.lst xs)) (k : Q (.lst xs.reverse) M) : rdRevL (.ref p) M Q := by
  unfold rdRevL
  dsimp only
  rw [h]
  exact k
theorem w_addS (h : x.length + y.length ≤ 16777216) (k : Q (.str (x ++ y)) M) : rdAdd (.str x) (.str y) M Q := ⟨decide_eq_true h, k⟩
end
theorem padL_len {r : Nat} (h : r < 10 ^ 60) : (padL 60 r).length = 60 := by
  have := TL.numL_len (show 0 < 60 by decide) h
  unfold padL
  rw [List.length_append, List.length_replicate]
  omega
theorem wp_digits_of (AA : Ad) : ∀ ds M F FE, sp_digits_of AA ds M F FE → t_digits_of AA (fun C fs _ M => FE C fs M) { nx := fun _ M => F .non M, rt := F } (startD ["value", "block", "parts", "low"] ds) M := by
  rintro ds M F FE ⟨n, rfl, hn, k⟩
  have hlen : (TL.numL n).length ≤ 300 := TL.numL_len (by decide) hn
  have hn2 : n < 2 ^ 1000 := Nat.lt_of_lt_of_le hn p300
  unfold t_digits_of
  walk_at "z"
  refine w_rdIC (by show CPow 10 60; unfold CPow; omega) ?_
  have pB : (10 : Int) ^ (60 : Int).toNat = ((10 ^ 60 : Nat) : Int) := by decide +kernel
  rw [pB]
  have B0 : 0 < 10 ^ 60 := Nat.pow_pos (by decide)
  have Bl : 10 ^ 60 < 2 ^ 200 := by decide +kernel
  have Bp : 10 ^ 60 = 10 ^ (59 + 1) := rfl
  have blk := num_block 59
  rw [← Bp] at blk
  have zf := @T_zfill
  have pl := @padL_len
  generalize 10 ^ 60 = B at B0 Bl blk zf pl
  have BI : ∀ q : Nat, (B : Int) ≤ (q : Int) → B ≤ q := fun q h => by omega
  walk_at "z"
  refine w_small (Nat.le_of_ble_eq_true rfl) fun p hp => ?_
  walk_at "z"
  refine ⟨fun τ' M' => ∃ (q : Nat) (bs : List Str) (x3 : Option D), τ' = [some (.int q), some (.int B), some (.ref p), x3] ∧ M' = mput M p (.lst (bs.map D.str)) ∧ TL.numL n = TL.numL q ++ (bs.reverse.map TL.tl).flatten ∧ q ≤ n ∧ (bs.reverse.map TL.tl).flatten.length = 60 * bs.length, fun τ' _ => match τ' with | [some (.int q), _, _, _] => q.toNat | _ => 0, ⟨n, [], none, rfl, rfl, by simp, Nat.le_refl _, rfl⟩, ?_⟩
  rintro τ' M' ⟨q, bs, x3, rfl, rfl, e, hq, hl⟩
  have hbs : bs.length ≤ 5 := by
    have := congrArg List.length e
    rw [List.length_append, hl] at this
    omega
  have hlb : (bs.map D.str).length < 16777216 := by rw [List.length_map]; omega
  walk_at "z"
  refine w_dec (fun c => ?_) (fun c => ?_)
  · have c' := BI q c
    have q0 : 0 < q / B := Nat.div_pos c' B0
    have r0 : q % B < B := Nat.mod_lt _ B0
    have eq1 : (q : Int) / (B : Int) = ((q / B : Nat) : Int) := rfl
    have eq2 : (q : Int) % (B : Int) = ((q % B : Nat) : Int) := rfl
    have eb : TL.numL q = TL.numL (q / B) ++ padL 60 (q % B) := by
      rw [← blk (q / B) (q % B) q0 r0]
      congr 1
      rw [Nat.mul_comm]
      exact (Nat.div_add_mod q B).symm
    walk_at "z"
    refine w_dm (by omega) (Nat.lt_trans (Sz.log2 (n := 200) (by unfold Sz; omega) (by decide)) (by decide)) ?_
    rw [eq1, eq2]
    refine w_gtup (xs := [.int ((q / B : Nat) : Int), .int ((q % B : Nat) : Int)]) rfl rfl (w_gcons (w_gname (w_gcons (w_gname (w_gnil ?_)))))
    walk_at "z"
    refine w_app (p := p) rfl mput_same (w_m1 ?_)
    walk_at "z"
    refine w_strI (Nat.lt_trans (Sz.log2 (n := 200) (by unfold Sz; omega) (by decide)) (by decide)) ⟨⟨_, rfl⟩, ?_⟩
    walk_at "z"
    refine w_zf (by decide +kernel) ?_
    rw [mput_same]
    dsimp only
    refine ⟨hlb, ?_⟩
    rw [mput_mput]
    refine ⟨⟨q / B, bs ++ [Txt.zfill (strI ((q % B : Nat) : Int)) 60], _, rfl, by rw [List.map_append]; rfl, ?_, by have := Nat.div_le_self q B; omega, ?_⟩, ?_⟩
    · rw [e, eb, List.reverse_append, List.map_append, List.flatten_append, List.append_assoc]
      congr 1
      have z := zf r0
      simp only [List.reverse_singleton, List.map_cons, List.map_nil, List.flatten_cons, List.flatten_nil, List.append_nil]
      rw [z]
    · rw [List.reverse_append, List.map_append, List.flatten_append, List.length_append, hl, List.length_append]
      have z := congrArg List.length (zf r0)
      rw [pl r0] at z
      simp only [List.reverse_singleton, List.map_cons, List.map_nil, List.flatten_cons, List.flatten_nil, List.append_nil, List.length_singleton]
      rw [z]
      omega
    · show ((q / B : Nat) : Int).toNat < (q : Int).toNat
      have : q / B < q := Nat.div_lt_self (by omega) (by
        by_cases h1 : B = 1
        · exfalso
          have := pl (r := 0) B0
          subst h1
          have z0 := zf (r := 0) B0
          have := blk 1 0 (by decide) (by decide)
          rw [show 1 * 1 + 0 = 1 from rfl, TL.numL_lt (show 1 < 10 by decide)] at this
          have := congrArg List.length this
          rw [List.length_append, pl B0] at this
          simp at this
        · omega)
      omega
  · have c' : q < B := by omega
    walk_at "z"
    refine w_app (p := p) rfl mput_same ?_
    walk_at "z"
    refine w_strI (Nat.lt_trans (Sz.log2 (n := 200) (by unfold Sz; omega) (by decide)) (by decide)) ?_
    rw [mput_same]
    dsimp only
    refine ⟨hlb, ?_⟩
    rw [mput_mput]
    walk_at "z"
    refine w_m1 ?_
    walk_at "z"
    refine ⟨⟨_, rfl⟩, ?_⟩
    walk_at "z"
    refine w_revR mput_same ?_
    have ed : (bs.map D.str ++ [D.str (strI (q : Int))]).reverse = ((strI (q : Int)) :: bs.reverse).map D.str := by
      rw [List.reverse_append, List.map_cons, List.map_reverse]
      rfl
    have et : ((strI (q : Int)) :: bs.reverse).map TL.tl = TL.numL q :: bs.reverse.map TL.tl := by
      rw [List.map_cons, T_num]
    have ej : Txt.join "" ((strI (q : Int)) :: bs.reverse) = strI (n : Int) := T_ext (by
      rw [T_join, et, List.flatten_cons, ← e]
      exact (T_num n).symm)
    rw [ed]
    refine w_jn (strsD_map _) ?_ ?_
    · rw [sum_len, et, List.flatten_cons, ← e, show ("" : Str).length = 0 from by decide +kernel]
      omega
    · rw [ej]
      exact k _ fun a o h => by rw [mput_ne fun z => by rw [z, hp] at h; cases h]; exact h
end Z

set_option Elab.async false
set_option linter.all false
set_option maxRecDepth 100000
set_option maxHeartbeats 4000000
namespace Z
local macro_rules | `(tactic| walk_at "z at") => `(tactic| first | rfl | (simp only [atI, ixN, List.length_cons, List.length_nil, List.length_map]; rfl) | assumption)
local macro_rules | `(tactic| walk_at "z1") => `(tactic| first
  | with_reducible refine w_seq ?_ | with_reducible refine w_set ?_ | with_reducible refine w_ret ?_ | with_reducible refine w_if ?_ | with_reducible refine w_asg ?_ | with_reducible refine w_next ?_ | with_reducible refine w_setIx ?_ | with_reducible refine w_par ?_
  | ((with_reducible refine' w_var ?h ?_); (case h => exact rfl))
  | with_reducible refine w_c ?_ | with_reducible refine w_op ?_ | with_reducible refine w_un ?_ | with_reducible refine w_cons ?_ | with_reducible refine w_nil ?_ | with_reducible refine w_cb ?_
  | with_reducible refine w_call ?_ | with_reducible refine w_callK ?_ | with_reducible refine w_testB ?_ | with_reducible refine w_tru ?_ | with_reducible refine w_andD ?_ | with_reducible refine w_orD ?_ | with_reducible refine w_notD ?_
  | with_reducible refine w_andE ?_ | with_reducible refine w_orE ?_ | with_reducible refine w_notE ?_ | with_reducible refine w_ifE ?_ | with_reducible refine w_is ?_ | with_reducible refine w_isN ?_ | with_reducible refine w_notN ?_ | with_reducible refine w_tupOf ?_
  | with_reducible refine w_tup ?_ | with_reducible refine w_lst ?_ | with_reducible refine w_lstM ?_ | with_reducible refine w_sl ?_ | with_reducible refine w_part ?_ | with_reducible refine w_noPart ?_ | with_reducible refine w_repr ?_ | with_reducible refine w_seqI ?_
  | with_reducible refine w_rdI ?_ | with_reducible refine w_rdB ?_ | with_reducible refine w_rdAdd ?_ | with_reducible refine w_neg ?_ | with_reducible refine w_lenL ?_ | with_reducible refine w_lenT ?_ | with_reducible refine w_abs ?_ | with_reducible refine w_int ?_ | with_reducible refine w_intB ?_ | with_reducible refine w_gcd ?_
  | with_reducible refine w_gname ?_ | with_reducible refine w_gnil ?_ | with_reducible refine w_gcons ?_
  | with_reducible refine w_true ?_ | with_reducible refine w_false ?_
  | dsimp only [truthD, seqD, isNonD, permL, List.filterMap] | with_reducible refine w_drop ?_ | with_reducible refine w_retN ?_ | with_reducible refine w_nilP ?_ | with_reducible refine w_consP ?_ | with_reducible refine w_rng ?_ | with_reducible refine w_cont ?_ | with_reducible refine w_brk ?_)
local macro_rules | `(tactic| walk_at "z") => `(tactic| repeat walk_at "z1")
open PySem L2
theorem strI_len {a : Int} (h : a.natAbs < 10 ^ 300) : (strI a).length ≤ 301 := by
  rw [PySem.ofString_length]
  exact int_text_length_le10 (k := 300) (by decide) h
theorem minus_str (m : Nat) : ("-" : Str) ++ strI ((m + 1 : Nat) : Int) = strI (-((m + 1 : Nat) : Int)) := T_ext (by
  rw [TL.tl_append, T_minus, T_num, T_neg]
  rfl)
theorem wp_integer_text (AA : Ad) : ∀ ds M F FE, sp_integer_text AA ds M F FE → t_integer_text AA (fun C fs _ M => FE C fs M) { nx := fun _ M => F .non M, rt := F } (startD ["value"] ds) M := by
  rintro ds M F FE ⟨a, rfl, hn, k⟩
  unfold t_integer_text
  walk_at "z"
  refine w_dec (fun c => ?_) (fun c => ?_)
  · walk_at "z"
    obtain ⟨m, rfl⟩ : ∃ m : Nat, a = -((m + 1 : Nat) : Int) := ⟨a.natAbs - 1, by omega⟩
    have e : -(-((m + 1 : Nat) : Int)) = ((m + 1 : Nat) : Int) := by omega
    rw [e]
    have hm : m + 1 < 10 ^ 300 := by
      have : (-((m + 1 : Nat) : Int)).natAbs = m + 1 := by omega
      rw [this] at hn
      exact hn
    refine ⟨m + 1, rfl, hm, fun M' x => ?_⟩
    walk_at "z"
    have h1 := strI_len (a := ((m + 1 : Nat) : Int)) hm
    have h2 : ("-" : Str).length = 1 := by decide +kernel
    refine w_addS (by omega) ?_
    rw [minus_str]
    exact k M' x
  · walk_at "z"
    obtain ⟨n, rfl⟩ : ∃ n : Nat, a = n := ⟨a.natAbs, by omega⟩
    exact ⟨n, rfl, hn, k⟩
theorem wp_numeral (AA : Ad) : ∀ ds M F FE, sp_numeral AA ds M F FE → t_numeral AA (fun C fs _ M => FE C fs M) { nx := fun _ M => F .non M, rt := F } (startD ["number"] ds) M := by
  have sl : ("/" : Str).length = 1 := by decide +kernel
  rintro ds M F FE (⟨a, rfl, ha, k⟩ | ⟨a, b, d, rfl, rfl | rfl, ha, hb, k⟩)
  · unfold t_numeral
    walk_at "z"
    refine w_true ?_
    walk_at "z"
    exact ⟨a, rfl, ha, k⟩
  all_goals
    unfold t_numeral
    walk_at "z"
    refine w_false ?_
    walk_at "z"
  · refine w_ixL (x := .int a) rfl ?_
    walk_at "z"
    refine ⟨a, rfl, ha, fun M1 x1 => ?_⟩
    walk_at "z"
    refine w_addS (by have := strI_len ha; omega) ?_
    walk_at "z"
    refine w_ixL (x := .int b) rfl ?_
    walk_at "z"
    refine ⟨b, rfl, hb, fun M2 x2 => ?_⟩
    refine w_addS (by have := strI_len ha; have := strI_len hb; rw [strLen_append]; omega) ?_
    exact k M2 (x1.trans x2)
  · refine w_ixT (x := .int a) rfl ?_
    walk_at "z"
    refine ⟨a, rfl, ha, fun M1 x1 => ?_⟩
    walk_at "z"
    refine w_addS (by have := strI_len ha; omega) ?_
    walk_at "z"
    refine w_ixT (x := .int b) rfl ?_
    walk_at "z"
    refine ⟨b, rfl, hb, fun M2 x2 => ?_⟩
    refine w_addS (by have := strI_len ha; have := strI_len hb; rw [strLen_append]; omega) ?_
    exact k M2 (x1.trans x2)
theorem wp_number_text (AA : Ad) : ∀ ds M F FE, sp_number_text AA ds M F FE → t_number_text AA (fun C fs _ M => FE C fs M) { nx := fun _ M => F .non M, rt := F } (startD ["value"] ds) M := by
  rintro ds M F FE ⟨d, rfl, hp, e, k⟩
  unfold t_number_text
  walk_at "z"
  refine f1_do hp ?_
  walk_at "z"
  cases h : isNumB d with
  | false =>
    refine w_true ?_
    refine w_raise ?_
    walk_at "z"
    exact e h
  | true =>
    refine w_false ?_
    walk_at "z"
    obtain ⟨k1, k2⟩ := k h
    cases d <;> first | (cases h; done) | skip
    · obtain ⟨h1, h2⟩ := k1 _ rfl
      exact .inl ⟨_, rfl, h1, h2⟩
    all_goals
      rename_i xs
      obtain ⟨a, b, rfl⟩ : ∃ a b : Int, xs = [.int a, .int b] := by
        unfold isNumB at h
        split at h <;> first
          | (cases h; done)
          | (rename_i a b e; cases e; done)
          | (rename_i a e; cases e; done)
          | (rename_i a b e; cases e; exact ⟨_, _, rfl⟩)
    · obtain ⟨h1, h2, h3⟩ := k2 a b (.inl rfl)
      exact .inr ⟨a, b, _, rfl, .inl rfl, h1, h2, h3⟩
    · obtain ⟨h1, h2, h3⟩ := k2 a b (.inr rfl)
      exact .inr ⟨a, b, _, rfl, .inr rfl, h1, h2, h3⟩
/-! ### texts read -/
def sp_integer_in (AA : Ad) : SpD := fun ds M F _ => ∃ x : Str, ds = [.str x] ∧ x.length ≤ 16777216 ∧ F (intD (TL.tl x)) M
def sp_number_in (AA : Ad) : SpD := fun ds M F _ => ∃ x : Str, ds = [.str x] ∧ x.length ≤ 1000000 ∧ F (readL (TL.tl x)) M
def sp_number_of (AA : Ad) : SpD := fun ds M F E => ∃ d, ds = [d] ∧ plainD d = true ∧ ((∀ x, d ≠ .str x) → E AA.c_BadText [("item", .int 0), ("line", .int 0)] M) ∧
  ∀ x, d = .str x → x.length ≤ 1000000 ∧ (readL (TL.tl x) = .non → E AA.c_BadText [("item", .int 0), ("line", .int 0)] M) ∧ (readL (TL.tl x) ≠ .non → F (readL (TL.tl x)) M)
def t_integer_in (AA : Ad) : TSD := (tSeqD (tSetD 1 (tM1D rdRemovepre (tVarD 0) (tCD (.str "-"))))
  (tSeqD (tIfD (tOrD (tNotD (tAndD (tTruD (tUnD rdIsascii (tVarD 1))) (tTruD (tUnD rdIsdigit (tVarD 1))))) (tTestB (tOpD (rdB fun i j => decide (j < i)) (tCBD rdLenS (tConsD (tVarD 1) tNilD)) (tCD (.int 60)))))
    (tRetD (tCD .non))
    tNextD)
  (tSeqD (tIfD (tAndD (tTestB (tOpD rdEq (tOpD rdIxS (tVarD 1) (tCD (.int 0))) (tCD (.str "0")))) (tTestB (tOpD rdNe (tVarD 0) (tCD (.str "0")))))
    (tRetD (tCD .non))
    tNextD)
  (tRetD (tCBD rdIntS (tConsD (tVarD 0) tNilD))))))
def t_number_in (AA : Ad) : TSD := (tSeqD (tAsgD (tM1D rdPartition (tVarD 0) (tCD (.str "/"))) (gTupD 3 (gConsD (gNameD 1) (gConsD (gNameD 2) (gConsD (gNameD 3) gNilD)))))
  (tSeqD (tSetD 4 (tCallD (sp_integer_in AA) (tConsD (tVarD 1) tNilD)))
  (tSeqD (tIfD (tOrD (tTestB (tOpD rdEq (tVarD 2) (tCD (.str "")))) (tTestB (tIsND (tVarD 4))))
    (tRetD (tVarD 4))
    tNextD)
  (tSeqD (tSetD 5 (tCallD (sp_integer_in AA) (tConsD (tVarD 3) tNilD)))
  (tSeqD (tIfD (tOrD (tTestB (tIsND (tVarD 5))) (tOrD (tTestB (tOpD (rdB fun i j => decide (i < j)) (tVarD 5) (tCD (.int 2)))) (tTestB (tOpD rdNe (tCBD rdGcd (tConsD (tVarD 4) (tConsD (tVarD 5) tNilD))) (tCD (.int 1))))))
    (tRetD (tCD .non))
    tNextD)
  (tRetD (tTupD (tConsD (tVarD 4) (tConsD (tVarD 5) tNilD)))))))))
def t_number_of (AA : Ad) : TSD := (tSeqD (tIfD (tNotD (tTruD (tIs (isTag .str) (tVarD 0))))
    (tRaiseD AA.c_BadText (fl2 "line" "item") (tConsD (tCD (.int 0)) (tConsD (tCD (.int 0)) tNilD)))
    tNextD)
  (tSeqD (tSetD 1 (tCallD (sp_number_in AA) (tConsD (tVarD 0) tNilD)))
  (tSeqD (tIfD (tTestB (tIsND (tVarD 1)))
    (tRaiseD AA.c_BadText (fl2 "line" "item") (tConsD (tCD (.int 0)) (tConsD (tCD (.int 0)) tNilD)))
    tNextD)
  (tRetD (tVarD 1)))))
section
variable {W : WD} {τ : EnvD} {M : MH} {Q : QD} {F : QD} {x y : Str}
theorem w_rmp (h : x.length ≤ 16777216) (k : Q (.str (Txt.removeprefix x y)) M) : rdRemovepre (.str x) (.str y) M Q := ⟨h, k⟩
theorem w_asc (k : Q (.bl (Txt.isascii x)) M) : rdIsascii (.str x) M Q := k
theorem w_isd (k : Q (.bl (Txt.isdigit x)) M) : rdIsdigit (.str x) M Q := k
theorem w_lenS (h : x.length ≤ 16777216) (k : Q (.int x.length) M) : rdLenS [.str x] M Q := ⟨h, k⟩
theorem w_ixS0 {c : Nat} {r : List Nat} (h : x.length ≤ 16777216) (e : TL.tl x = c :: r) (k : Q (.str ⟨#[c]⟩) M) : rdIxS (.str x) (.int 0) M Q := by
  refine ⟨h, ?_⟩
  rw [show x.cps.toList = c :: r from e, show atI (c :: r) 0 = some c from atI_nat rfl]
  exact k
theorem w_intS (h : okI (TL.tl x) = true) (k : Q (.int (valI (TL.tl x))) M) : rdIntS [.str x] M Q := ⟨_, (int_ok x h).1, (int_ok x h).2, k⟩
end
theorem one_eq (c : Nat) : eqD (.str ⟨#[c]⟩) (.str "0") = some (decide (c = 48)) := by
  show some (decide ((⟨#[c]⟩ : Str) = "0")) = _
  congr 1
  rw [decide_eq_decide]
  constructor
  · intro h
    have := congrArg TL.tl h
    rw [T_zero] at this
    exact (List.cons.inj this).1
  · intro h
    subst h
    exact T_ext (by rw [T_zero])
theorem txt_eq0 (x : Str) : eqD (.str x) (.str "0") = some (decide (TL.tl x = [48])) := by
  show some (decide (x = "0")) = _
  congr 1
  rw [decide_eq_decide]
  exact ⟨fun h => h ▸ T_zero, fun h => T_ext (by rw [h, T_zero])⟩
theorem intD_no {l : List Nat} (h : okD (digsL l) = false) : intD l = .non := by
  unfold intD okI
  rw [h]
  rfl
theorem wp_integer_in (AA : Ad) : ∀ ds M F FE, sp_integer_in AA ds M F FE → t_integer_in AA (fun C fs _ M => FE C fs M) { nx := fun _ M => F .non M, rt := F } (startD ["item", "digits"] ds) M := by
  rintro ds M F FE ⟨x, rfl, hl, k⟩
  unfold t_integer_in
  walk_at "z"
  refine w_m1 ?_
  walk_at "z"
  refine ⟨⟨_, rfl⟩, ?_⟩
  walk_at "z"
  refine w_rmp hl ?_
  have ed := T_removepre x
  have hld : (Txt.removeprefix x "-").length ≤ 16777216 := by
    rw [T_len, ed]
    have := digsL_len (TL.tl x)
    rw [T_len] at hl
    omega
  have ead := ascii_digits (Txt.removeprefix x "-")
  rw [ed] at ead
  have kn : okD (digsL (TL.tl x)) = false → F .non M := fun h => by
    rw [intD_no h] at k
    exact k
  have hlen := T_len (Txt.removeprefix x "-")
  rw [ed] at hlen
  generalize Txt.removeprefix x "-" = d at ed hld ead hlen
  walk_at "z"
  refine w_asc ?_
  dsimp only
  cases ha : Txt.isascii d with
  | false =>
    refine w_false (w_true (w_true ?_))
    walk_at "z"
    refine kn ?_
    rw [ha, Bool.false_and] at ead
    unfold okD
    rw [← ead]
    rfl
  | true =>
    refine w_true ?_
    walk_at "z"
    refine w_isd ?_
    dsimp only
    cases hd : Txt.isdigit d with
    | false =>
      refine w_true (w_true ?_)
      walk_at "z"
      refine kn ?_
      rw [ha, hd] at ead
      unfold okD
      rw [← ead]
      rfl
    | true =>
      refine w_false ?_
      walk_at "z"
      refine w_lenS hld ?_
      walk_at "z"
      rw [ha, hd] at ead
      refine w_dec (fun c => ?_) (fun c => ?_)
      · walk_at "z"
        refine kn ?_
        unfold okD
        rw [decide_eq_false (by omega), Bool.and_false]
      · have ok : okD (digsL (TL.tl x)) = true := by
          unfold okD
          rw [← ead, decide_eq_true (show (digsL (TL.tl x)).length ≤ 60 by omega)]
          rfl
        obtain ⟨c0, r0, e0⟩ : ∃ c r, digsL (TL.tl x) = c :: r := by
          cases h : digsL (TL.tl x) with
          | nil => exact absurd h (okD_spec ok).1
          | cons c r => exact ⟨c, r, rfl⟩
        walk_at "z"
        refine w_ixS0 hld (by rw [ed]; exact e0) ?_
        walk_at "z"
        refine w_eq (one_eq c0) ?_
        have fin : zeroL (TL.tl x) = false → tRetD (tCBD rdIntS (tConsD (tVarD 0) tNilD)) (fun C fs _ M => FE C fs M) { nx := fun _ M => F .non M, rt := F } [some (.str x), some (.str d)] M := fun z => by
          have okx : okI (TL.tl x) = true := by unfold okI; rw [ok, z]; rfl
          walk_at "z"
          refine w_intS okx ?_
          unfold intD at k
          rw [okx, if_pos rfl] at k
          exact k
        have zl : zeroL (TL.tl x) = (decide (c0 = 48) && !decide (TL.tl x = [48])) := by
          unfold zeroL
          rw [e0]
          congr 1
          simp
        refine w_dec (fun z => ?_) (fun z => ?_)
        · walk_at "z"
          refine w_ne (txt_eq0 x) ?_
          rw [decide_eq_true z, Bool.true_and] at zl
          rw [← zl]
          cases hz : zeroL (TL.tl x) with
          | true =>
            refine w_true ?_
            walk_at "z"
            unfold intD okI at k
            rw [hz, Bool.not_true, Bool.and_false] at k
            exact k
          | false =>
            refine w_false ?_
            walk_at "z"
            exact fin hz
        · rw [decide_eq_false z, Bool.false_and] at zl
          walk_at "z"
          exact fin zl
theorem wp_number_in (AA : Ad) : ∀ ds M F FE, sp_number_in AA ds M F FE → t_number_in AA (fun C fs _ M => FE C fs M) { nx := fun _ M => F .non M, rt := F } (startD ["item", "first", "bar", "last", "above", "below"] ds) M := by
  rintro ds M F FE ⟨x, rfl, hl, k⟩
  have s47 : TL.tl ("/" : Str) = 47 :: [] := T_slash
  have b0 : (("/" : Str).length == 0) = false := by decide +kernel
  unfold t_number_in
  refine w_seq (w_asg (w_m1 ?_))
  walk_at "z"
  refine ⟨⟨_, rfl⟩, ?_⟩
  walk_at "z"
  refine ⟨b0, by omega, ?_⟩
  rcases cut_47 x with h | ⟨a, b, rfl, h⟩
  · rw [TL.partition_none s47 h]
    refine w_gtup (xs := [.str x, .str Str.empty, .str Str.empty]) rfl rfl (w_gcons (w_gname (w_gcons (w_gname (w_gcons (w_gname (w_gnil ?_)))))))
    walk_at "z"
    refine ⟨x, rfl, by omega, ?_⟩
    walk_at "z"
    refine w_eq (b := true) (by decide +kernel) ?_
    refine w_true ?_
    walk_at "z"
    unfold readL at k
    rw [if_neg h] at k
    exact k
  · rw [TL.partition_app s47 h]
    rw [read_app h] at k
    have hla : a.length ≤ 1000000 ∧ b.length ≤ 1000000 := by
      rw [strLen_append, strLen_append] at hl
      omega
    refine w_gtup (xs := [.str a, .str "/", .str b]) rfl rfl (w_gcons (w_gname (w_gcons (w_gname (w_gcons (w_gname (w_gnil ?_)))))))
    walk_at "z"
    refine ⟨a, rfl, by omega, ?_⟩
    walk_at "z"
    refine w_eq (b := false) (by decide +kernel) ?_
    refine w_false ?_
    walk_at "z"
    unfold pairR at k
    cases ha : okI (TL.tl a) with
    | false =>
      have e : intD (TL.tl a) = .non := by unfold intD; rw [ha]; rfl
      rw [e]
      refine w_true ?_
      walk_at "z"
      rw [ha] at k
      exact k
    | true =>
      have e : intD (TL.tl a) = .int (valI (TL.tl a)) := by unfold intD; rw [ha]; rfl
      rw [e]
      refine w_false ?_
      walk_at "z"
      refine ⟨b, rfl, by omega, ?_⟩
      walk_at "z"
      cases hb : okI (TL.tl b) with
      | false =>
        have e : intD (TL.tl b) = .non := by unfold intD; rw [hb]; rfl
        rw [e]
        refine w_true ?_
        walk_at "z"
        rw [hb, Bool.and_false] at k
        exact k
      | true =>
        have e : intD (TL.tl b) = .int (valI (TL.tl b)) := by unfold intD; rw [hb]; rfl
        rw [e]
        refine w_false ?_
        walk_at "z"
        rw [ha, hb] at k
        refine w_dec (fun c => ?_) (fun c => ?_)
        · walk_at "z"
          rw [decide_eq_false (by omega)] at k
          exact k
        · walk_at "z"
          rw [decide_eq_true (show 2 ≤ valI (TL.tl b) by omega)] at k
          refine w_ne (b := decide (((Nat.gcd (valI (TL.tl a)).natAbs (valI (TL.tl b)).natAbs : Nat) : Int) = 1)) rfl ?_
          by_cases g : Nat.gcd (valI (TL.tl a)).natAbs (valI (TL.tl b)).natAbs = 1
          · rw [decide_eq_true (show ((Nat.gcd (valI (TL.tl a)).natAbs (valI (TL.tl b)).natAbs : Nat) : Int) = 1 by omega)]
            refine w_false ?_
            walk_at "z"
            rw [decide_eq_true g] at k
            exact w_small (Nat.le_of_ble_eq_true rfl) k
          · rw [decide_eq_false (show ¬ ((Nat.gcd (valI (TL.tl a)).natAbs (valI (TL.tl b)).natAbs : Nat) : Int) = 1 by omega)]
            refine w_true ?_
            walk_at "z"
            rw [decide_eq_false g] at k
            exact k
theorem wp_number_of (AA : Ad) : ∀ ds M F FE, sp_number_of AA ds M F FE → t_number_of AA (fun C fs _ M => FE C fs M) { nx := fun _ M => F .non M, rt := F } (startD ["text", "found"] ds) M := by
  rintro ds M F FE ⟨d, rfl, hp, e, k⟩
  unfold t_number_of
  walk_at "z"
  by_cases hx : ∃ x, d = .str x
  · obtain ⟨x, rfl⟩ := hx
    obtain ⟨k1, k2, k3⟩ := k x rfl
    walk_at "z"
    refine w_false ?_
    walk_at "z"
    refine ⟨x, rfl, k1, ?_⟩
    walk_at "z"
    refine w_bool (fun hn => ?_) (fun hn => ?_)
    · have hr : readL (TL.tl x) = .non := by cases h : readL (TL.tl x) <;> rw [h] at hn <;> first | rfl | (cases hn)
      refine w_raise ?_
      walk_at "z"
      exact k2 hr
    · walk_at "z"
      exact k3 fun h => by rw [h] at hn; cases hn
  · have hx' : ∀ x, d ≠ .str x := fun x h => hx ⟨x, h⟩
    have ht : isTag .str d = some false := by cases d <;> first | rfl | exact absurd rfl (hx' _) | (simp [plainD] at hp)
    rw [ht]
    walk_at "z"
    refine w_true ?_
    refine w_raise ?_
    walk_at "z"
    exact e hx'
end Z

set_option Elab.async false
set_option linter.all false
set_option maxRecDepth 100000
set_option maxHeartbeats 4000000
namespace Z
local macro_rules | `(tactic| walk_at "z at") => `(tactic| first | rfl | (simp only [atI, ixN, List.length_cons, List.length_nil, List.length_map]; rfl) | assumption)
local macro_rules | `(tactic| walk_at "z1") => `(tactic| first
  | with_reducible refine w_seq ?_ | with_reducible refine w_set ?_ | with_reducible refine w_ret ?_ | with_reducible refine w_if ?_ | with_reducible refine w_asg ?_ | with_reducible refine w_next ?_ | with_reducible refine w_setIx ?_ | with_reducible refine w_par ?_
  | ((with_reducible refine' w_var ?h ?_); (case h => exact rfl))
  | with_reducible refine w_c ?_ | with_reducible refine w_op ?_ | with_reducible refine w_un ?_ | with_reducible refine w_cons ?_ | with_reducible refine w_nil ?_ | with_reducible refine w_cb ?_
  | with_reducible refine w_call ?_ | with_reducible refine w_callK ?_ | with_reducible refine w_testB ?_ | with_reducible refine w_tru ?_ | with_reducible refine w_andD ?_ | with_reducible refine w_orD ?_ | with_reducible refine w_notD ?_
  | with_reducible refine w_andE ?_ | with_reducible refine w_orE ?_ | with_reducible refine w_notE ?_ | with_reducible refine w_ifE ?_ | with_reducible refine w_is ?_ | with_reducible refine w_isN ?_ | with_reducible refine w_notN ?_ | with_reducible refine w_tupOf ?_
  | with_reducible refine w_tup ?_ | with_reducible refine w_lst ?_ | with_reducible refine w_lstM ?_ | with_reducible refine w_sl ?_ | with_reducible refine w_part ?_ | with_reducible refine w_noPart ?_ | with_reducible refine w_repr ?_ | with_reducible refine w_seqI ?_
  | with_reducible refine w_rdI ?_ | with_reducible refine w_rdB ?_ | with_reducible refine w_rdAdd ?_ | with_reducible refine w_neg ?_ | with_reducible refine w_lenL ?_ | with_reducible refine w_lenT ?_ | with_reducible refine w_abs ?_ | with_reducible refine w_int ?_ | with_reducible refine w_intB ?_ | with_reducible refine w_gcd ?_
  | with_reducible refine w_gname ?_ | with_reducible refine w_gnil ?_ | with_reducible refine w_gcons ?_
  | with_reducible refine w_true ?_ | with_reducible refine w_false ?_
  | dsimp only [truthD, seqD, isNonD, permL, List.filterMap] | with_reducible refine w_drop ?_ | with_reducible refine w_retN ?_ | with_reducible refine w_nilP ?_ | with_reducible refine w_consP ?_ | with_reducible refine w_rng ?_ | with_reducible refine w_cont ?_ | with_reducible refine w_brk ?_)
local macro_rules | `(tactic| walk_at "z") => `(tactic| repeat walk_at "z1")
open PySem L2
/-! ### the law's own reckoning, its own reading -/
def sp__law_low (AA : Ad) : SpD := fun ds M F _ => ∃ a b : Int, ds = [.int a, .int b] ∧ b ≠ 0 ∧ Sz 1800 b ∧ F (frD (nrmA a b) (nrmB a b)) M
def sp__law_told (AA : Ad) : SpD := fun ds M F _ => ∃ a b : Int, ds = [frD a b] ∧ b ≠ 0 ∧ Sz 1800 b ∧ F (tellD (nrmA a b) (nrmB a b)) M
def t__law_low (AA : Ad) : TSD := (tSeqD (tParD 2 3 (tConsD (tCBD rdAbs (tConsD (tVarD 0) tNilD)) (tConsD (tCBD rdAbs (tConsD (tVarD 1) tNilD)) tNilD)))
  (tSeqD (tWhileD (tTestB (tOpD (rdB fun i j => decide (j < i)) (tVarD 3) (tCD (.int 0))))
    (tParD 2 3 (tConsD (tVarD 3) (tConsD (tOpD (rdIC (fun _ j => 0 < j) fun i j => i % j) (tCBD rdInt (tConsD (tVarD 2) tNilD)) (tVarD 3)) tNilD))))
  (tSeqD (tSetD 4 (tIfE (tTestB (tOpD (rdB fun i j => decide (j < i)) (tVarD 1) (tCD (.int 0)))) (tCD (.int 1)) (tUnD rdNeg (tCD (.int 1)))))
  (tRetD (tTupD (tConsD (tOpD (rdIC DivOk fun i j => i.fdiv j) (tOpD rdMul (tVarD 4) (tVarD 0)) (tVarD 2)) (tConsD (tOpD (rdIC DivOk fun i j => i.fdiv j) (tOpD rdMul (tVarD 4) (tVarD 1)) (tVarD 2)) tNilD)))))))
def t__law_told (AA : Ad) : TSD := (tSeqD (tAsgD (tCallD (sp__law_low AA) (tConsD (tOpD rdIx (tVarD 0) (tCD (.int 0))) (tConsD (tOpD rdIx (tVarD 0) (tCD (.int 1))) tNilD))) (gTupD 2 (gConsD (gNameD 1) (gConsD (gNameD 2) gNilD))))
  (tRetD (tIfE (tTestB (tOpD rdEq (tVarD 2) (tCD (.int 1)))) (tVarD 1) (tTupD (tConsD (tVarD 1) (tConsD (tVarD 2) tNilD))))))
theorem wp__law_low (AA : Ad) : ∀ ds M F FE, sp__law_low AA ds M F FE → t__law_low AA (fun C fs _ M => FE C fs M) { nx := fun _ M => F .non M, rt := F } (startD ["_law_above", "_law_below", "_law_one", "_law_other", "_law_sign"] ds) M := by
  rintro ds M F FE ⟨a, b, rfl, hb, sz, k⟩
  unfold t__law_low
  walk_at "z"
  refine ⟨fun τ' M' => M' = M ∧ ∃ x y : Nat, τ' = [some (.int a), some (.int b), some (.int x), some (.int y), none] ∧ Nat.gcd x y = Nat.gcd a.natAbs b.natAbs, fun τ' _ => match τ' with | [_, _, _, some (.int y), _] => y.toNat | _ => 0, ⟨rfl, a.natAbs, b.natAbs, ?_, rfl⟩, ?_⟩
  · have ab : ∀ z : Int, (if z < 0 then -z else z) = (z.natAbs : Int) := fun z => by split <;> omega
    show [some (D.int a), some (D.int b), some (D.int _), some (D.int _), none] = _
    rw [ab, ab]
  · rintro τ' M' ⟨rfl, x, y, rfl, g⟩
    walk_at "z"
    refine w_dec (fun c => ?_) (fun c => ?_)
    · walk_at "z"
      refine w_rdIC c ?_
      walk_at "z"
      have e : (x : Int) % (y : Int) = ((x % y : Nat) : Int) := by omega
      refine ⟨⟨rfl, y, x % y, by rw [e]; rfl, ?_⟩, ?_⟩
      · rw [← g, Nat.gcd_comm x y, Nat.gcd_rec y x, Nat.gcd_comm]
      · show ((x : Int) % (y : Int)).toNat < (y : Int).toNat
        rw [e]
        have := Nat.mod_lt x (show 0 < y by omega)
        omega
    · have y0 : y = 0 := by omega
      subst y0
      rw [Nat.gcd_zero_right] at g
      subst g
      have g0 := gcd_pos (a := a) hb
      have gz : Sz 1800 (Nat.gcd a.natAbs b.natAbs : Int) := sz.le (by
        have := Nat.gcd_le_right a.natAbs (show 0 < b.natAbs by omega)
        omega)
      have dv : ∀ x, DivOk x (Nat.gcd a.natAbs b.natAbs : Int) := fun x => gz.div (by omega) (by decide) x
      unfold nrmA nrmB at k
      walk_at "z"
      refine w_dec (fun c2 => ?_) (fun c2 => ?_)
      · walk_at "z"
        refine w_rdMul (mulOk_l ⟨by omega, by omega⟩) ?_
        walk_at "z"
        refine w_rdIC (dv _) ?_
        walk_at "z"
        refine w_rdMul (mulOk_l ⟨by omega, by omega⟩) ?_
        walk_at "z"
        refine w_rdIC (dv _) ?_
        walk_at "z"
        refine w_small (by show 2 ≤ 16777216; decide) ?_
        rw [Int.one_mul, Int.one_mul, fdiv_pos' g0, fdiv_pos' g0]
        rw [if_neg (by omega), if_neg (by omega)] at k
        exact k
      · walk_at "z"
        refine w_rdMul (mulOk_l ⟨by omega, by omega⟩) ?_
        walk_at "z"
        refine w_rdIC (dv _) ?_
        walk_at "z"
        refine w_rdMul (mulOk_l ⟨by omega, by omega⟩) ?_
        walk_at "z"
        refine w_rdIC (dv _) ?_
        walk_at "z"
        refine w_small (by show 2 ≤ 16777216; decide) ?_
        have e : ∀ x : Int, -1 * x = -x := fun x => by omega
        rw [e, e, fdiv_pos' g0, fdiv_pos' g0]
        rw [if_pos (by omega), if_pos (by omega)] at k
        exact k
theorem wp__law_told (AA : Ad) : ∀ ds M F FE, sp__law_told AA ds M F FE → t__law_told AA (fun C fs _ M => FE C fs M) { nx := fun _ M => F .non M, rt := F } (startD ["_law_pair_here", "_law_above", "_law_below"] ds) M := by
  rintro ds M F FE ⟨a, b, rfl, hb, sz, k⟩
  unfold t__law_told frD
  walk_at "z"
  refine w_ixT (x := .int a) rfl ?_
  walk_at "z"
  refine w_ixT (x := .int b) rfl ?_
  walk_at "z"
  refine ⟨a, b, rfl, hb, sz, ?_⟩
  refine w_gtup rfl rfl ?_
  walk_at "z"
  refine w_eq rfl ?_
  unfold tellD at k
  refine w_dec (fun c => ?_) (fun c => ?_)
  · rw [if_pos c] at k
    walk_at "z"
    exact k
  · rw [if_neg c] at k
    walk_at "z"
    exact w_small (by show 2 ≤ 16777216; decide) k

def sp__law_integer (AA : Ad) : SpD := fun ds M F _ => ∃ x : Str, ds = [.str x] ∧ x.length ≤ 16777216 ∧ (∀ c ∈ TL.tl x, c < 128) ∧ F (intD (TL.tl x)) M
def sp__law_read (AA : Ad) : SpD := fun ds M F _ => ∃ x : Str, ds = [.str x] ∧ x.length ≤ 1000000 ∧ (∀ c ∈ TL.tl x, c < 128) ∧ F (readL (TL.tl x)) M
def t__law_integer (AA : Ad) : TSD := (tSeqD (tSetD 1 (tIfE (tTestB (tOpD rdEq (tSlS (tVarD 0) tNoPartD (tPartD (tCD (.int 1)))) (tCD (.str "-")))) (tSlS (tVarD 0) (tPartD (tCD (.int 1))) tNoPartD) (tVarD 0)))
  (tSeqD (tIfD (tOrD (tTestB (tOpD rdEq (tVarD 1) (tCD (.str "")))) (tOrD (tTestB (tOpD (rdB fun i j => decide (j < i)) (tCBD rdLenS (tConsD (tVarD 1) tNilD)) (tCD (.int 60)))) (tTestB (tOpD rdNe (tLcD (iStrD (tVarD 1)) (gNameD 2) (tTestB (tOpD rdNotIn (tVarD 2) (tCD (.str "0123456789")))) (tVarD 2) [2]) (tLstD tNilD)))))
    (tRetD (tCD .non))
    tNextD)
  (tRetD (tIfE (tAndD (tTestB (tOpD rdEq (tOpD rdIxS (tVarD 1) (tCD (.int 0))) (tCD (.str "0")))) (tTestB (tOpD rdNe (tVarD 0) (tCD (.str "0"))))) (tCD .non) (tCBD rdIntS (tConsD (tVarD 0) tNilD))))))
def t__law_read (AA : Ad) : TSD := (tSeqD (tSetD 1 (tM1D rdSplit (tVarD 0) (tCD (.str "/"))))
  (tSeqD (tIfD (tTestB (tOpD rdEq (tCBD rdLen (tConsD (tVarD 1) tNilD)) (tCD (.int 1))))
    (tRetD (tCallD (sp__law_integer AA) (tConsD (tVarD 0) tNilD)))
    tNextD)
  (tSeqD (tIfD (tTestB (tOpD rdNe (tCBD rdLen (tConsD (tVarD 1) tNilD)) (tCD (.int 2))))
    (tRetD (tCD .non))
    tNextD)
  (tSeqD (tParD 2 3 (tConsD (tCallD (sp__law_integer AA) (tConsD (tOpD rdIx (tVarD 1) (tCD (.int 0))) tNilD)) (tConsD (tCallD (sp__law_integer AA) (tConsD (tOpD rdIx (tVarD 1) (tCD (.int 1))) tNilD)) tNilD)))
  (tSeqD (tIfD (tOrD (tTestB (tIsND (tVarD 2))) (tOrD (tTestB (tIsND (tVarD 3))) (tTestB (tOpD (rdB fun i j => decide (i < j)) (tVarD 3) (tCD (.int 2))))))
    (tRetD (tCD .non))
    tNextD)
  (tRetD (tIfE (tTestB (tOpD rdEq (tCallD (sp__law_low AA) (tConsD (tVarD 2) (tConsD (tVarD 3) tNilD))) (tTupD (tConsD (tVarD 2) (tConsD (tVarD 3) tNilD))))) (tTupD (tConsD (tVarD 2) (tConsD (tVarD 3) tNilD))) (tCD .non))))))))
theorem w_slS {W : WD} {τ : EnvD} {M : MH} {Q : QD} {te : TED} {tl th : WD → EnvD → MH → (Option Int → MH → Prop) → Prop} (h : te W τ M fun d M1 => tl W τ M1 fun l M2 => th W τ M2 fun u M3 => match d with | .str x => x.length ≤ 16777216 ∧ Q (.str (cutS x l u)) M3 | _ => False) : tSlS te tl th W τ M Q := h
local macro_rules | `(tactic| walk_at "z1") => `(tactic| first | with_reducible refine w_slS ?_ | with_reducible refine w_m1 ?_)
theorem T_head (x : Str) (k : Nat) : TL.tl (cutS x none (some (k : Int))) = (TL.tl x).take k := by
  show ((x.cps.toList.drop (HT.sIx x.length 0 none)).take (HT.sIx x.length x.length (some (k : Int)) - HT.sIx x.length 0 none)) = _
  rw [HT.sIx_none, HT.sIx_nat, List.drop_zero, Nat.sub_zero]
  have : x.length = (TL.tl x).length := T_len x
  rw [this]
  show (TL.tl x).take (min k (TL.tl x).length) = _
  rcases Nat.le_total k (TL.tl x).length with h | h
  · rw [Nat.min_eq_left h]
  · rw [Nat.min_eq_right h, List.take_length, List.take_of_length_le h]
theorem T_tail (x : Str) (k : Nat) : TL.tl (cutS x (some (k : Int)) none) = (TL.tl x).drop k := by
  show ((x.cps.toList.drop (HT.sIx x.length 0 (some (k : Int)))).take (HT.sIx x.length x.length none - HT.sIx x.length 0 (some (k : Int)))) = _
  rw [HT.sIx_none, HT.sIx_nat]
  have : x.length = (TL.tl x).length := T_len x
  rw [this]
  show ((TL.tl x).drop (min k (TL.tl x).length)).take _ = _
  rcases Nat.le_total k (TL.tl x).length with h | h
  · rw [Nat.min_eq_left h]
    exact List.take_of_length_le (by rw [List.length_drop] <;> omega)
  · rw [Nat.min_eq_right h, List.drop_length, List.drop_of_length_le h, List.take_nil]
theorem minus_eq (x : Str) : eqD (.str (cutS x none (some 1))) (.str "-") = some (negL (TL.tl x)) := by
  show some (decide (cutS x none (some 1) = "-")) = _
  congr 1
  have e := T_head x 1
  have key : (cutS x none (some 1) = "-") ↔ (TL.tl x).take 1 = [45] :=
    ⟨fun h => by rw [← e]; exact h ▸ T_minus, fun h => T_ext (by rw [T_minus, ← h]; exact e)⟩
  rw [decide_eq_decide.mpr key]
  have key2 : ∀ l : List Nat, decide (l.take 1 = [45]) = negL l := fun l => by
    cases l with
    | nil => rfl
    | cons c r =>
      by_cases hc : c = 45
      · subst hc; rfl
      · have : negL (c :: r) = false := by unfold negL; split <;> simp_all
        rw [this]
        simp [hc]
  exact key2 _
theorem figures {W : WD} {τ : EnvD} {M : MH} {Q : QD} {x : Str} (h0 : getN τ 0 = some (.str x)) (hl : x.length ≤ 16777216) (k : ∀ d : Str, TL.tl d = digsL (TL.tl x) → Q (.str d) M) :
    tIfE (tTestB (tOpD rdEq (tSlS (tVarD 0) tNoPartD (tPartD (tCD (.int 1)))) (tCD (.str "-")))) (tSlS (tVarD 0) (tPartD (tCD (.int 1))) tNoPartD) (tVarD 0) W τ M Q := by
  refine w_ifE (w_testB (w_op (w_slS (w_var h0 (w_noPart (w_part (w_c ⟨hl, ?_⟩)))))))
  refine w_c (w_eq (minus_eq x) ?_)
  cases hn : negL (TL.tl x) with
  | true =>
    refine w_true (w_slS (w_var h0 (w_part (w_c (w_noPart ⟨hl, ?_⟩)))))
    refine k _ ?_
    have e := T_tail x 1
    refine e.trans ?_
    unfold negL at hn
    split at hn
    · rename_i r e2
      rw [e2]
      rfl
    · cases hn
  | false =>
    refine w_false (w_var h0 ?_)
    refine k x ?_
    have key2 : ∀ l : List Nat, negL l = false → l = digsL l := fun l h => by
      unfold negL at h
      unfold digsL
      split at h
      · cases h
      · rfl
    exact key2 _ hn
theorem empty_eq (d : Str) : eqD (.str d) (.str "") = some (TL.tl d).isEmpty := by
  show some (decide (d = "")) = _
  congr 1
  cases h : TL.tl d with
  | nil => exact decide_eq_true (T_ext (by rw [h, T_empty]))
  | cons c r => exact decide_eq_false fun z => by rw [z, T_empty] at h; cases h
theorem canLay_strs : ∀ cs : List Str, (∀ c ∈ cs, PyData.strOk c = true) → PyData.canLayAll0 (cs.map PyData.str) = true
  | [], _ => rfl
  | c :: cs, h => by
    have h1 := h c List.mem_cons_self
    have h2 := canLay_strs cs fun d hd => h d (List.mem_cons_of_mem _ hd)
    simp only [List.map_cons, PyData.canLayAll0, PyData.canLay0, h2, h1, Bool.and_true]
theorem depth_strs : ∀ cs : List Str, PyData.depthAll (cs.map PyData.str) = 0
  | [] => rfl
  | c :: cs => by simp only [List.map_cons, PyData.depthAll, PyData.depth, depth_strs cs, Nat.max_self]
theorem toPys_strs : ∀ cs : List Str, toPys (cs.map D.str) = some (cs.map PyData.str)
  | [] => rfl
  | c :: cs => by simp only [List.map_cons, toPys, toPy, toPys_strs cs]
theorem eq_strs_nil (cs : List Str) (hc : ∀ c ∈ cs, PyData.strOk c = true) : eqD (.lst (cs.map D.str)) (.lst []) = some cs.isEmpty := by
  have s1 : SeqAt.shaped (.list (cs.map PyData.str)) = true := by
    unfold SeqAt.shaped
    simp only [PyData.canLay0, canLay_strs cs hc, PyData.depth, depth_strs]
    rfl
  have s2 : SeqAt.shaped (.list []) = true := by decide
  unfold eqD
  simp only [toPy, toPys_strs, toPys, Option.map, s1, s2, Bool.and_self, if_true]
  cases cs <;> simp [PyData.eqv, PyData.eqvAll]
theorem T_digits : TL.tl "0123456789" = [48, 49, 50, 51, 52, 53, 54, 55, 56, 57] := by decide +kernel
theorem in_digits (c : Nat) : decide (c ∈ ("0123456789" : Str).cps.toList) = dig c := by
  rw [show ("0123456789" : Str).cps.toList = _ from T_digits]
  unfold dig
  rw [← Bool.decide_and]
  refine decide_eq_decide.mpr ?_
  simp only [List.mem_cons, List.not_mem_nil, or_false]
  omega
def nonDig (v : D) : Bool := match v with | .str y => !(TL.tl y).all dig | _ => false
theorem filt (l : List Nat) : ((l.map fun c => D.str ⟨#[c]⟩).filter nonDig).map (fun x => x) = ((l.filter fun c => !dig c).map fun c => (⟨#[c]⟩ : Str)).map D.str := by
  rw [List.map_id']
  induction l with
  | nil => rfl
  | cons c r ih =>
    have e : nonDig (.str ⟨#[c]⟩) = !dig c := by show (!([c].all dig)) = _; simp
    rw [List.map_cons, List.filter_cons, List.filter_cons, e]
    cases dig c <;> simp [ih]
theorem filt_nil (l : List Nat) : ((l.filter fun c => !dig c).map fun c => (⟨#[c]⟩ : Str)).isEmpty = l.all dig := by
  induction l with
  | nil => rfl
  | cons c r ih =>
    rw [List.filter_cons, List.all_cons]
    cases dig c <;> simp_all
theorem wp__law_integer (AA : Ad) : ∀ ds M F FE, sp__law_integer AA ds M F FE → t__law_integer AA (fun C fs _ M => FE C fs M) { nx := fun _ M => F .non M, rt := F } (startD ["_law_text", "_law_figures", "_law_sign"] ds) M := by
  rintro ds M F FE ⟨x, rfl, hl, hasc, k⟩
  unfold t__law_integer
  refine w_seq (w_set (figures rfl hl fun d ed => ?_))
  have hld : d.length ≤ 16777216 := by
    rw [T_len, ed]
    have := digsL_len (TL.tl x)
    rw [T_len] at hl
    omega
  have hlen := T_len d
  rw [ed] at hlen
  have kn : okD (digsL (TL.tl x)) = false → F .non M := fun h => by
    rw [intD_no h] at k
    exact k
  have dl : (signsD d).length ≤ 16777216 := by
    unfold signsD
    rw [List.length_map]
    exact hld
  walk_at "z"
  refine w_eq (empty_eq d) ?_
  rw [ed]
  cases he : (digsL (TL.tl x)).isEmpty with
  | true =>
    refine w_true ?_
    refine w_true ?_
    walk_at "z"
    refine kn ?_
    unfold okD
    rw [he]
    rfl
  | false =>
    refine w_false ?_
    walk_at "z"
    refine w_lenS hld ?_
    walk_at "z"
    refine w_dec (fun c => ?_) (fun c => ?_)
    · refine w_true ?_
      walk_at "z"
      refine kn ?_
      unfold okD
      rw [decide_eq_false (by omega), Bool.and_false]
    · walk_at "z"
      refine lc_pure (signsD d) (fun x => x) nonDig dl M ?_ ?_ (fun R h => w_var rfl h)
      · intro y hy M2 R r
        obtain ⟨c0, rfl⟩ : ∃ c, y = .str ⟨#[c]⟩ := by
          unfold signsD at hy
          obtain ⟨c, _, e⟩ := List.mem_map.mp hy
          exact ⟨c, e.symm⟩
        refine w_gname (r _ (fun R2 h => ?_) fun _ R3 h => w_var rfl h)
        refine w_testB (w_op (w_var rfl (w_c ?_)))
        refine ⟨c0, rfl, ?_⟩
        rw [in_digits]
        have : nonDig (.str ⟨#[c0]⟩) = !dig c0 := by show (!([c0].all dig)) = _; simp
        rw [this] at h
        exact h
      · rw [show (signsD d).filter nonDig = ((TL.tl d).map fun c => D.str ⟨#[c]⟩).filter nonDig from rfl, filt]
        walk_at "z"
        refine w_small (Nat.le_of_ble_eq_true rfl) ?_
        refine w_ne (eq_strs_nil _ ?_) ?_
        · intro y hy
          obtain ⟨c1, hc1, rfl⟩ := List.mem_map.mp hy
          have h1 := hasc c1 (by
            have := (List.mem_filter.mp hc1).1
            rw [ed] at this
            unfold digsL at this
            split at this
            · rename_i q e; rw [e]; exact List.mem_cons_of_mem _ this
            · exact this)
          show (#[c1] : Array Nat).all (fun c => decide (c < 0x110000)) = true
          simp
          omega
        rw [filt_nil, ed]
        cases ha : (digsL (TL.tl x)).all dig with
        | false =>
          refine w_true ?_
          walk_at "z"
          refine kn ?_
          unfold okD
          rw [ha]
          simp
        | true =>
          refine w_false ?_
          walk_at "z"
          have ok : okD (digsL (TL.tl x)) = true := by
            unfold okD
            rw [he, ha, decide_eq_true (show (digsL (TL.tl x)).length ≤ 60 by omega)]
            rfl
          obtain ⟨c0, r0, e0⟩ : ∃ c r, digsL (TL.tl x) = c :: r := by
            cases h : digsL (TL.tl x) with
            | nil => exact absurd h (okD_spec ok).1
            | cons c r => exact ⟨c, r, rfl⟩
          have fin : zeroL (TL.tl x) = false → F (.int (valI (TL.tl x))) M ∧ okI (TL.tl x) = true := fun z => by
            have okx : okI (TL.tl x) = true := by unfold okI; rw [ok, z]; rfl
            unfold intD at k
            rw [okx, if_pos rfl] at k
            exact ⟨k, okx⟩
          have zl : zeroL (TL.tl x) = (decide (c0 = 48) && !decide (TL.tl x = [48])) := by
            unfold zeroL
            rw [e0]
            congr 1
            simp
          refine w_ixS0 hld (by rw [ed]; exact e0) ?_
          walk_at "z"
          refine w_eq (one_eq c0) ?_
          refine w_dec (fun z => ?_) (fun z => ?_)
          · walk_at "z"
            refine w_ne (txt_eq0 x) ?_
            rw [decide_eq_true z, Bool.true_and] at zl
            rw [← zl]
            cases hz : zeroL (TL.tl x) with
            | true =>
              refine w_true ?_
              walk_at "z"
              unfold intD okI at k
              rw [hz, Bool.not_true, Bool.and_false] at k
              exact k
            | false =>
              refine w_false ?_
              walk_at "z"
              exact w_intS (fin hz).2 (fin hz).1
          · rw [decide_eq_false z, Bool.false_and] at zl
            walk_at "z"
            exact w_intS (fin zl).2 (fin zl).1
theorem eq_pair (a b c d : Int) : eqD (.tup [.int a, .int b]) (.tup [.int c, .int d]) = some (decide (a = c) && decide (b = d)) := by
  have s1 : ∀ x y : Int, SeqAt.shaped (.tuple [.int x, .int y]) = true := fun x y => rfl
  unfold eqD
  simp only [toPy, toPys, Option.map, s1, Bool.and_self, if_true]
  simp [PyData.eqv, PyData.eqvAll]
  rfl
theorem spl_ne (S : List Nat) : ∀ (l : List Nat) (k : Nat) (acc : List Nat), TL.spl S k acc l ≠ [] := by
  intro l
  induction l with
  | nil => intro k acc h; rw [TL.spl_nil] at h; cases h
  | cons c r ih =>
    intro k acc
    cases k with
    | zero =>
      unfold TL.spl
      split
      · exact fun h => by cases h
      · exact ih 0 _
    | succ k => exact ih k acc
theorem slash_ok : (("/" : Str).length == 0) = false := by decide +kernel
theorem slash_kind : ("/" : Str).cps.all (· < 256) = true := by decide +kernel
theorem split_tl (x : Str) : (Txt.split x "/").map TL.tl = TL.spl [47] 0 [] (TL.tl x) := by
  have := TL.split_spl x "/" (by rw [T_slash]; simp) (TL.kind_ok slash_kind)
  rw [T_slash] at this
  exact this
theorem split_none {x : Str} (h : 47 ∉ TL.tl x) : Txt.split x "/" = [x] := TL.map_tl_inj (by
  rw [split_tl, TL.spl_last1 h]
  rfl)
theorem split_app {a b : Str} (h : 47 ∉ TL.tl a) : (Txt.split (a ++ "/" ++ b) "/").map TL.tl = TL.tl a :: TL.spl [47] 0 [] (TL.tl b) := by
  rw [split_tl, TL.tl_append, TL.tl_append, T_slash, List.append_assoc]
  exact TL.spl_part1 h
theorem split_two {a b : Str} (h : 47 ∉ TL.tl a) (g : 47 ∉ TL.tl b) : Txt.split (a ++ "/" ++ b) "/" = [a, b] := TL.map_tl_inj (by
  rw [split_app h, TL.spl_last1 g]
  rfl)
theorem split_more {a b : Str} (h : 47 ∉ TL.tl a) (g : 47 ∈ TL.tl b) : 3 ≤ (Txt.split (a ++ "/" ++ b) "/").length := by
  have e := congrArg List.length (split_app (b := b) h)
  rw [List.length_map, List.length_cons] at e
  rcases cut_47 b with z | ⟨c, d, rfl, z⟩
  · exact absurd g z
  · have e2 : TL.spl [47] 0 [] (TL.tl (c ++ "/" ++ d)) = TL.tl c :: TL.spl [47] 0 [] (TL.tl d) := by
      rw [TL.tl_append, TL.tl_append, T_slash, List.append_assoc]
      exact TL.spl_part1 z
    rw [e2, List.length_cons] at e
    have := List.length_pos_iff.mpr (spl_ne [47] (TL.tl d) 0 [])
    omega
theorem wp__law_read (AA : Ad) : ∀ ds M F FE, sp__law_read AA ds M F FE → t__law_read AA (fun C fs _ M => FE C fs M) { nx := fun _ M => F .non M, rt := F } (startD ["_law_text", "_law_parts", "_law_above", "_law_below"] ds) M := by
  rintro ds M F FE ⟨x, rfl, hl, hasc, k⟩
  unfold t__law_read
  refine w_seq (w_set (w_m1 (w_var rfl ⟨⟨_, rfl⟩, w_c ⟨slash_ok, by omega, ?_⟩⟩)))
  rcases cut_47 x with h | ⟨a, b, rfl, h⟩
  · rw [split_none h]
    walk_at "z"
    refine w_eq (b := true) rfl ?_
    refine w_true ?_
    walk_at "z"
    refine ⟨x, rfl, by omega, hasc, ?_⟩
    unfold readL at k
    rw [if_neg h] at k
    exact k
  · rw [read_app h] at k
    have hla : a.length ≤ 1000000 ∧ b.length ≤ 1000000 := by
      rw [strLen_append, strLen_append] at hl
      omega
    have ha : ∀ c ∈ TL.tl a, c < 128 := fun c hc => hasc c (by rw [TL.tl_append, TL.tl_append]; simp [hc])
    have hb : ∀ c ∈ TL.tl b, c < 128 := fun c hc => hasc c (by rw [TL.tl_append, TL.tl_append]; simp [hc])
    by_cases g : 47 ∈ TL.tl b
    · have e3 := split_more h g
      have kn : F .non M := by
        unfold pairR at k
        rw [okI_no g] at k
        simpa using k
      generalize Txt.split (a ++ "/" ++ b) "/" = l at e3
      walk_at "z"
      refine w_eq (b := false) (by
        show some (decide (((l.map D.str).length : Int) = 1)) = some false
        rw [decide_eq_false]
        rw [List.length_map]
        omega) ?_
      refine w_false ?_
      walk_at "z"
      refine w_ne (b := false) (by
        show some (decide (((l.map D.str).length : Int) = 2)) = some false
        rw [decide_eq_false]
        rw [List.length_map]
        omega) ?_
      refine w_true ?_
      walk_at "z"
      exact kn
    · rw [split_two h g]
      walk_at "z"
      refine w_eq (b := false) rfl ?_
      refine w_false ?_
      walk_at "z"
      refine w_ne (b := true) rfl ?_
      refine w_false ?_
      walk_at "z"
      refine w_ixL (x := .str a) rfl ?_
      walk_at "z"
      refine ⟨a, rfl, by omega, ha, ?_⟩
      walk_at "z"
      refine w_ixL (x := .str b) rfl ?_
      walk_at "z"
      refine ⟨b, rfl, by omega, hb, ?_⟩
      walk_at "z"
      unfold pairR at k
      cases oa : okI (TL.tl a) with
      | false =>
        have e : intD (TL.tl a) = .non := by unfold intD; rw [oa]; rfl
        rw [e]
        refine w_true ?_
        walk_at "z"
        rw [oa] at k
        exact k
      | true =>
        have e : intD (TL.tl a) = .int (valI (TL.tl a)) := by unfold intD; rw [oa]; rfl
        rw [e]
        refine w_false ?_
        walk_at "z"
        cases ob : okI (TL.tl b) with
        | false =>
          have e : intD (TL.tl b) = .non := by unfold intD; rw [ob]; rfl
          rw [e]
          refine w_true ?_
          refine w_true ?_
          walk_at "z"
          rw [ob, Bool.and_false] at k
          exact k
        | true =>
          have e : intD (TL.tl b) = .int (valI (TL.tl b)) := by unfold intD; rw [ob]; rfl
          rw [e]
          refine w_false ?_
          walk_at "z"
          rw [oa, ob] at k
          have sb := sz60 (valI_bound ob)
          generalize valI (TL.tl a) = u at k
          generalize valI (TL.tl b) = v at k sb
          refine w_dec (fun c => ?_) (fun c => ?_)
          · walk_at "z"
            rw [decide_eq_false (by omega)] at k
            exact k
          · walk_at "z"
            rw [decide_eq_true (show 2 ≤ v by omega)] at k
            refine ⟨u, v, rfl, by omega, sb.mono (by decide), ?_⟩
            walk_at "z"
            refine w_small (Nat.le_of_ble_eq_true rfl) ?_
            refine w_eq (eq_pair _ _ _ _) ?_
            have nk := nrm_ok (x := u) (y := v) (by omega)
            by_cases g : Nat.gcd u.natAbs v.natAbs = 1
            · rw [(nrm_id (show 0 < v by omega) g).1, (nrm_id (show 0 < v by omega) g).2, decide_eq_true rfl, decide_eq_true rfl]
              refine w_true ?_
              walk_at "z"
              rw [decide_eq_true g] at k
              exact w_small (Nat.le_of_ble_eq_true rfl) k
            · have e2 : (decide (nrmA u v = u) && decide (nrmB u v = v)) = false := by
                rw [← Bool.not_eq_true]
                intro z
                simp only [Bool.and_eq_true, decide_eq_true_eq] at z
                have := nk.2.1
                rw [z.1, z.2] at this
                exact g this
              rw [e2]
              refine w_false ?_
              walk_at "z"
              rw [decide_eq_false g] at k
              exact k
end Z

set_option Elab.async false
set_option linter.all false
set_option maxRecDepth 100000
set_option maxHeartbeats 4000000
namespace Z
local macro_rules | `(tactic| walk_at "z at") => `(tactic| first | rfl | (simp only [atI, ixN, List.length_cons, List.length_nil, List.length_map]; rfl) | assumption)
local macro_rules | `(tactic| walk_at "z1") => `(tactic| first
  | with_reducible refine w_seq ?_ | with_reducible refine w_set ?_ | with_reducible refine w_ret ?_ | with_reducible refine w_if ?_ | with_reducible refine w_asg ?_ | with_reducible refine w_next ?_ | with_reducible refine w_setIx ?_ | with_reducible refine w_par ?_
  | ((with_reducible refine' w_var ?h ?_); (case h => exact rfl))
  | with_reducible refine w_c ?_ | with_reducible refine w_op ?_ | with_reducible refine w_un ?_ | with_reducible refine w_cons ?_ | with_reducible refine w_nil ?_ | with_reducible refine w_cb ?_
  | with_reducible refine w_call ?_ | with_reducible refine w_callK ?_ | with_reducible refine w_testB ?_ | with_reducible refine w_tru ?_ | with_reducible refine w_andD ?_ | with_reducible refine w_orD ?_ | with_reducible refine w_notD ?_
  | with_reducible refine w_andE ?_ | with_reducible refine w_orE ?_ | with_reducible refine w_notE ?_ | with_reducible refine w_ifE ?_ | with_reducible refine w_is ?_ | with_reducible refine w_isN ?_ | with_reducible refine w_notN ?_ | with_reducible refine w_tupOf ?_
  | with_reducible refine w_tup ?_ | with_reducible refine w_lst ?_ | with_reducible refine w_lstM ?_ | with_reducible refine w_sl ?_ | with_reducible refine w_part ?_ | with_reducible refine w_noPart ?_ | with_reducible refine w_repr ?_ | with_reducible refine w_seqI ?_
  | with_reducible refine w_rdI ?_ | with_reducible refine w_rdB ?_ | with_reducible refine w_rdAdd ?_ | with_reducible refine w_neg ?_ | with_reducible refine w_lenL ?_ | with_reducible refine w_lenT ?_ | with_reducible refine w_abs ?_ | with_reducible refine w_int ?_ | with_reducible refine w_intB ?_ | with_reducible refine w_gcd ?_
  | with_reducible refine w_gname ?_ | with_reducible refine w_gnil ?_ | with_reducible refine w_gcons ?_
  | with_reducible refine w_true ?_ | with_reducible refine w_false ?_
  | dsimp only [truthD, seqD, isNonD, permL, List.filterMap] | with_reducible refine w_drop ?_ | with_reducible refine w_retN ?_ | with_reducible refine w_nilP ?_ | with_reducible refine w_consP ?_ | with_reducible refine w_rng ?_ | with_reducible refine w_cont ?_ | with_reducible refine w_brk ?_)
local macro_rules | `(tactic| walk_at "z") => `(tactic| repeat walk_at "z1")
local macro_rules | `(tactic| walk_at "z1") => `(tactic| first | with_reducible refine w_slS ?_ | with_reducible refine w_m1 ?_)
open PySem L2
/-! ### what is drawn -/
def asc (x : Str) : Prop := ∀ c ∈ TL.tl x, c < 128
def sp__law_number (AA : Ad) : SpD := spDraw 5 (fun r => r = []) (fun _ d => ∃ a b : Int, d = frD a b ∧ IsF a b ∧ a.natAbs < 10 ^ 60 ∧ b.natAbs < 10 ^ 60)
def sp__law_bent (AA : Ad) : SpD := spDraw 4 (fun r => ∃ x : Str, r = [.str x] ∧ x.length ≤ 1000 ∧ asc x) (fun _ d => ∃ y : Str, d = .str y ∧ y.length ≤ 3000 ∧ asc y)
def spg__law_heard (AA : Ad) : SpG := fun tl M F _ => ∀ (E : ED) (Q : QD), (∀ l i M', F (.lst [.str "text", l, i]) M' → E AA.c_BadText [("item", i), ("line", l)] M') → (∀ p M', F (.lst [.str "number", p]) M' → E AA.c_BadNumber [("part", p)] M') → (∀ d M', F d M' → Q d M') → tl E M Q
def t__law_quill (AA : Ad) : TSD := (tRetD (tLstM (tConsD (tLcD (iSeqD (tSlD (tVarD 0) tNoPartD (tPartD (tCD (.int 61))))) (gNameD 1) tYesD (tCBD rdInt (tConsD (tVarD 1) tNilD)) [1]) (tConsD (tCD (.int 0)) (tConsD (tCD (.int 0)) tNilD)))))
def t__law_scratch (AA : Ad) : TSD := (tSeqD (tIfD (tTestB (tOpD (rdB fun i j => decide (j < i)) (tOpD rdIx (tVarD 0) (tCD (.int 2))) (tCD (.int 0))))
    (tSeqD (tSetD 2 (tCBD rdInt (tConsD (tOpD rdIx (tVarD 0) (tCD (.int 2))) tNilD)))
  (tSeqD (tSetIx (tOpD (rdIC DivOk fun i j => i.fdiv j) (tVarD 2) (tVarD 1)) (tVarD 0) (tCD (.int 2)))
  (tRetD (tOpD (rdIC (fun _ j => 0 < j) fun i j => i % j) (tCBD rdInt (tConsD (tVarD 2) tNilD)) (tVarD 1)))))
    tNextD)
  (tSeqD (tSetD 3 (tOpD rdIx (tVarD 0) (tCD (.int 1))))
  (tSeqD (tSetIx (tOpD rdAdd (tVarD 3) (tCD (.int 1))) (tVarD 0) (tCD (.int 1)))
  (tSeqD (tSetD 4 (tOpD rdAdd (tOpD rdMul (tCD (.int 108161)) (tVarD 3)) (tCD (.int 8161))))
  (tSeqD (tIfD (tTestB (tOpD rdNe (tOpD rdIx (tVarD 0) (tCD (.int 0))) (tLstD tNilD)))
    (tSetD 4 (tOpD rdIx (tOpD rdIx (tVarD 0) (tCD (.int 0))) (tOpD (rdIC (fun _ j => 0 < j) fun i j => i % j) (tCBD rdInt (tConsD (tVarD 3) tNilD)) (tCBD rdLen (tConsD (tOpD rdIx (tVarD 0) (tCD (.int 0))) tNilD)))))
    tNextD)
  (tSeqD (tIfD (tAndD (tTestB (tOpD (rdB fun i j => decide (i < j)) (tVarD 3) (tCBD rdLen (tConsD (tOpD rdIx (tVarD 0) (tCD (.int 0))) tNilD)))) (tTestB (tOpD (rdB fun i j => decide (j ≤ i)) (tCBD rdAbs (tConsD (tVarD 4) tNilD)) (tOpD (rdIC CPow fun i j => i ^ j.toNat) (tCD (.int 10)) (tCD (.int 18))))))
    (tSeqD (tSetD 2 (tOpD rdAdd (tOpD rdMul (tCD (.int 2)) (tOpD (rdI fun i j => i - j) (tCBD rdAbs (tConsD (tCBD rdInt (tConsD (tVarD 4) tNilD)) tNilD)) (tOpD (rdIC CPow fun i j => i ^ j.toNat) (tCD (.int 10)) (tCD (.int 18))))) (tCBD rdInt (tConsD (tOpD (rdB fun i j => decide (i < j)) (tVarD 4) (tCD (.int 0))) tNilD))))
  (tSeqD (tSetIx (tOpD (rdIC DivOk fun i j => i.fdiv j) (tVarD 2) (tVarD 1)) (tVarD 0) (tCD (.int 2)))
  (tRetD (tOpD (rdIC (fun _ j => 0 < j) fun i j => i % j) (tCBD rdInt (tConsD (tVarD 2) tNilD)) (tVarD 1)))))
    tNextD)
  (tSeqD (tSetD 5 (tOpD (rdIC (fun _ j => 0 < j) fun i j => i % j) (tCBD rdInt (tConsD (tOpD (rdIC CPow fun i j => i ^ j.toNat) (tOpD rdAdd (tOpD rdAdd (tOpD (rdIC (fun _ j => 0 < j) fun i j => i % j) (tCBD rdInt (tConsD (tVarD 4) tNilD)) (tCD (.int 2147483563))) (tOpD rdMul (tCD (.int 85147)) (tVarD 3))) (tCD (.int 8161))) (tCD (.int 5))) tNilD)) (tCD (.int 2147483587))))
  (tSeqD (tSetD 5 (tOpD (rdIC (fun _ j => 0 < j) fun i j => i % j) (tCBD rdInt (tConsD (tOpD (rdIC CPow fun i j => i ^ j.toNat) (tOpD rdAdd (tOpD rdAdd (tOpD rdMul (tVarD 5) (tOpD rdAdd (tOpD rdMul (tCD (.int 2)) (tVarD 3)) (tCD (.int 8161)))) (tOpD rdMul (tOpD rdMul (tCD (.int 108161)) (tVarD 3)) (tVarD 3))) (tCD (.int 85147))) (tCD (.int 3))) tNilD)) (tCD (.int 2147483579))))
  (tRetD (tOpD (rdIC (fun _ j => 0 < j) fun i j => i % j) (tCBD rdInt (tConsD (tOpD (rdIC DivOk fun i j => i.fdiv j) (tVarD 5) (tCD (.int 64))) tNilD)) (tVarD 1)))))))))))
def t__law_pick (AA : Ad) : TSD := (tRetD (tOpD rdIx (tVarD 1) (tCallD spSieve (tConsD (tVarD 0) (tConsD (tCBD rdLen (tConsD (tVarD 1) tNilD)) tNilD)))))
def t__law_number (AA : Ad) : TSD := (tSeqD (tSetD 1 (tCallD spPick (tConsD (tVarD 0) (tConsD (tLstD (tConsD (tCD (.int 9)) (tConsD (tCD (.int 99)) (tConsD (tOpD (rdIC CPow fun i j => i ^ j.toNat) (tCD (.int 10)) (tCD (.int 20))) (tConsD (tOpD (rdIC CPow fun i j => i ^ j.toNat) (tCD (.int 10)) (tCD (.int 60))) tNilD))))) tNilD))))
  (tRetD (tCallD (sp__law_low AA) (tConsD (tOpD rdMul (tCallD spSieve (tConsD (tVarD 0) (tConsD (tVarD 1) tNilD))) (tCallD spPick (tConsD (tVarD 0) (tConsD (tLstD (tConsD (tCD (.int 1)) (tConsD (tUnD rdNeg (tCD (.int 1))) tNilD))) tNilD)))) (tConsD (tOpD rdAdd (tCD (.int 1)) (tCallD spSieve (tConsD (tVarD 0) (tConsD (tCallD spPick (tConsD (tVarD 0) (tConsD (tLstD (tConsD (tCD (.int 1)) (tConsD (tCD (.int 6)) (tConsD (tCBD rdMin2 (tConsD (tVarD 1) (tConsD (tOpD (rdIC CPow fun i j => i ^ j.toNat) (tCD (.int 10)) (tCD (.int 59))) tNilD))) tNilD)))) tNilD))) tNilD)))) tNilD)))))
def t__law_bent (AA : Ad) : TSD := (tSeqD (tParD 2 3 (tConsD (tCallD spSieve (tConsD (tVarD 0) (tConsD (tOpD rdAdd (tCBD rdLenS (tConsD (tVarD 1) tNilD)) (tCD (.int 1))) tNilD))) (tConsD (tCallD spSieve (tConsD (tVarD 0) (tConsD (tCD (.int 4)) tNilD))) tNilD)))
  (tSeqD (tSetD 4 (tCallD spPick (tConsD (tVarD 0) (tConsD (tLstD (tConsD (tCD (.str "-")) (tConsD (tCD (.str "/")) (tConsD (tCD (.str "0")) (tConsD (tCD (.str "1")) (tConsD (tCD (.str "2")) (tConsD (tCD (.str " ")) (tConsD (tCD (.str "+")) (tConsD (tCD (.str ".")) (tConsD (tCD (.str "a")) (tConsD (tOpD rdMulS (tCD (.str "9")) (tCD (.int 58))) (tConsD (tCD (.str "\n")) (tConsD (tCD (.str "/2")) (tConsD (tCD (.str "/1")) (tConsD (tCD (.str "/0")) (tConsD (tCD (.str "/-2")) (tConsD (tCD (.str "--")) tNilD))))))))))))))))) tNilD))))
  (tSeqD (tIfD (tTestB (tOpD rdEq (tVarD 3) (tCD (.int 0))))
    (tRetD (tOpD rdAdd (tOpD rdAdd (tSlS (tVarD 1) tNoPartD (tPartD (tVarD 2))) (tVarD 4)) (tSlS (tVarD 1) (tPartD (tVarD 2)) tNoPartD)))
    tNextD)
  (tSeqD (tIfD (tTestB (tOpD rdEq (tVarD 3) (tCD (.int 1))))
    (tRetD (tOpD rdAdd (tSlS (tVarD 1) tNoPartD (tPartD (tVarD 2))) (tSlS (tVarD 1) (tPartD (tOpD rdAdd (tVarD 2) (tCD (.int 1)))) tNoPartD)))
    tNextD)
  (tRetD (tIfE (tTestB (tOpD rdEq (tVarD 3) (tCD (.int 2)))) (tOpD rdAdd (tOpD rdAdd (tSlS (tVarD 1) tNoPartD (tPartD (tVarD 2))) (tVarD 4)) (tSlS (tVarD 1) (tPartD (tOpD rdAdd (tVarD 2) (tCD (.int 1)))) tNoPartD)) (tCallD spPick (tConsD (tVarD 0) (tConsD (tLstD (tConsD (tCD (.str "")) (tConsD (tCD (.str "-")) (tConsD (tCD (.str "/")) (tConsD (tCD (.str "1/")) (tConsD (tCD (.str "/2")) (tConsD (tCD (.str "2/4")) (tConsD (tCD (.str "3/1")) (tConsD (tCD (.str "-0")) (tConsD (tCD (.str "-1/2")) (tConsD (tCD (.str "0/2")) (tConsD (tCD (.str "1/2/3")) (tConsD (tCD (.str "00")) (tConsD (tCD (.str "1 /2")) (tConsD (tCD (.str "6/-4")) (tConsD (tOpD rdAdd (tOpD rdMulS (tCD (.str "7")) (tCD (.int 60))) (tCD (.str "/2"))) tNilD)))))))))))))))) tNilD)))))))))
def t__law_heard (AA : Ad) (f_ : Addr) (tl_ : ED → MH → QD → Prop) : TSD := (tSeqD (tAsgD (tTupD (tConsD (tCD .non) (tConsD (tCD .non) tNilD))) (gTupD 2 (gConsD (gNameD 1) (gConsD (gNameD 2) gNilD))))
  (tSeqD (tTryK (subV AA.all) 3 2
    (tSetD 1 (tActD f_ tl_)))
  (tSeqD (tIfD (tTruD (tIs (isE1 AA.all AA.c_LaneError AA.c_BadText) (tVarD 2)))
    (tRetD (tLstD (tConsD (tCD (.str "text")) (tConsD (tFldA AA.all "line" (tVarD 2)) (tConsD (tFldA AA.all "item" (tVarD 2)) tNilD)))))
    tNextD)
  (tSeqD (tIfD (tTruD (tIs (isE1 AA.all AA.c_LaneError AA.c_BadNumber) (tVarD 2)))
    (tRetD (tLstD (tConsD (tCD (.str "number")) (tConsD (tFldA AA.all "part" (tVarD 2)) tNilD))))
    tNextD)
  (tRetD (tIfE (tTestB (tIsND (tVarD 2))) (tVarD 1) (tLstD (tConsD (tCD (.str "other")) tNilD))))))))
theorem wp__law_quill (AA : Ad) : ∀ ds M F FE, spGrit ds M F FE → t__law_quill AA (fun C fs _ M => FE C fs M) { nx := fun _ M => F .non M, rt := F } (startD ["_law_script", "_law_cell"] ds) M := fun ds M F FE h => wp_grit (n := 61) rfl _ ds M F FE h
theorem wp__law_pick (AA : Ad) : ∀ ds M F FE, spPick ds M F FE → t__law_pick AA (fun C fs _ M => FE C fs M) { nx := fun _ M => F .non M, rt := F } (startD ["_law_quill_here", "_law_some"] ds) M := fun ds M F FE h => wp_pick rfl _ ds M F FE h
theorem wp__law_scratch (AA : Ad) : ∀ ds M F FE, spSieve ds M F FE → t__law_scratch AA (fun C fs _ M => FE C fs M) { nx := fun _ M => F .non M, rt := F } (startD ["_law_quill_here", "_law_many", "_law_left", "_law_turn", "_law_cell", "_law_mixed"] ds) M :=
  fun ds M F FE h => wp_sieve (c1 := 108161) (c2 := 8161) (m1 := 2147483563) (c3 := 85147) (m2 := 2147483587) (m3 := 2147483579) (dv := 64) ⟨by decide, by decide⟩ rfl (by decide) _ ds M F FE h
theorem low_do {AA : Ad} {M : MH} {F : QD} {E : ED} {a b : Int} (hb : b ≠ 0) (s : Sz 1800 b) (k : F (frD (nrmA a b) (nrmB a b)) M) : sp__law_low AA [.int a, .int b] M F E := ⟨a, b, rfl, hb, s, k⟩
theorem told_do {AA : Ad} {M : MH} {F : QD} {E : ED} {a b : Int} (h : IsF a b) (s : Sz 1800 b) (k : F (tellD a b) M) : sp__law_told AA [frD a b] M F E := ⟨a, b, rfl, by have := h.1; omega, s, by rw [(nrm_id h.1 h.2).1, (nrm_id h.1 h.2).2]; exact k⟩
theorem w_min2 {i j : Int} {M : MH} {Q : QD} (k : Q (.int (if j < i then j else i)) M) : rdMin2 [.int i, .int j] M Q := k
theorem lg60 {z : Int} (h0 : 0 ≤ z) (h1 : z ≤ 10 ^ 60) : z.natAbs.log2 < 9000 := Nat.lt_trans (Sz.log2 (x := z) (n := 200) (by unfold Sz; omega) (by decide)) (by decide)
theorem wp__law_number (AA : Ad) : ∀ ds M F FE, sp__law_number AA ds M F FE → t__law_number AA (fun C fs _ M => FE C fs M) { nx := fun _ M => F .non M, rt := F } (startD ["_law_quill_here", "_law_most"] ds) M := by
  rintro ds M F FE ⟨p, t, rest, rfl, rfl, hN, ht, k⟩
  have p20 : (10 : Int) ^ (20 : Int).toNat = 10 ^ 20 := rfl
  have p60 : (10 : Int) ^ (60 : Int).toNat = 10 ^ 60 := rfl
  have p59 : (10 : Int) ^ (59 : Int).toNat = 10 ^ 59 := rfl
  unfold t__law_number
  walk_at "z"
  refine w_rdIC (by show CPow 10 20; unfold CPow; omega) ?_
  walk_at "z"
  refine w_rdIC (by show CPow 10 60; unfold CPow; omega) ?_
  walk_at "z"
  refine w_small (Nat.le_of_ble_eq_true rfl) ?_
  walk_at "z"
  refine pick_do hN (by omega) (Nat.le_of_ble_eq_true rfl) (Nat.le_of_ble_eq_true rfl) fun d M1 hd n1 u1 => ?_
  obtain ⟨m, rfl, m0, m1⟩ : ∃ m : Int, d = .int m ∧ 9 ≤ m ∧ m ≤ 10 ^ 60 := by
    simp only [List.mem_cons, List.not_mem_nil, or_false] at hd
    rcases hd with rfl | rfl | rfl | rfl <;> exact ⟨_, rfl, by decide +kernel, by decide +kernel⟩
  walk_at "z"
  refine sieve_do n1 (by omega) (by omega) (lg60 (by omega) m1) fun x M2 x0 x1 n2 u2 => ?_
  walk_at "z"
  refine w_small (Nat.le_of_ble_eq_true rfl) ?_
  walk_at "z"
  refine pick_do n2 (by omega) (Nat.le_of_ble_eq_true rfl) (Nat.le_of_ble_eq_true rfl) fun d M3 hd n3 u3 => ?_
  obtain ⟨s, rfl, hs⟩ : ∃ s : Int, d = .int s ∧ (s = 1 ∨ s = -1) := by
    simp only [List.mem_cons, List.not_mem_nil, or_false] at hd
    rcases hd with rfl | rfl
    · exact ⟨_, rfl, .inl rfl⟩
    · exact ⟨_, rfl, .inr rfl⟩
  have sx : Sz 200 x := by unfold Sz; omega
  have ss : Sz 2 s := by unfold Sz; omega
  refine w_rdMul (mulOk_sz sx ss (by decide) (by decide)) ?_
  have hxs : (x * s).natAbs < 10 ^ 60 := by rcases hs with rfl | rfl <;> omega
  generalize x * s = a at hxs
  walk_at "z"
  refine w_rdIC (by show CPow 10 59; unfold CPow; omega) ?_
  walk_at "z"
  refine w_min2 ?_
  walk_at "z"
  refine w_small (Nat.le_of_ble_eq_true rfl) ?_
  walk_at "z"
  refine pick_do n3 (by omega) (Nat.le_of_ble_eq_true rfl) (Nat.le_of_ble_eq_true rfl) fun d M4 hd n4 u4 => ?_
  obtain ⟨w, rfl, w0, w1⟩ : ∃ w : Int, d = .int w ∧ 1 ≤ w ∧ w ≤ 10 ^ 59 := by
    simp only [List.mem_cons, List.not_mem_nil, or_false] at hd
    rcases hd with rfl | rfl | rfl
    · exact ⟨_, rfl, by decide +kernel, by decide +kernel⟩
    · exact ⟨_, rfl, by decide +kernel, by decide +kernel⟩
    · refine ⟨_, rfl, ?_, ?_⟩ <;> rw [p59] <;> split <;> omega
  walk_at "z"
  refine sieve_do n4 (by omega) (by omega) (lg60 (by omega) (by omega)) fun y M5 y0 y1 n5 u5 => ?_
  walk_at "z"
  have sb : Sz 200 (1 + y) := by unfold Sz; omega
  refine low_do (by omega) (sb.mono (by decide)) ?_
  obtain ⟨o1, o2, o3, o4⟩ := nrm_ok (x := a) (y := 1 + y) (by omega)
  exact k _ _ (n5.mono (by omega)) ((((u1.trans u2).trans u3).trans u4).trans u5) ⟨_, _, rfl, ⟨o1, o2⟩, by omega, by omega⟩
def okS (n : Nat) (d : D) : Bool := match d with | .str s => decide (s.length ≤ n) && (TL.tl s).all (fun c => decide (c < 128)) | _ => false
theorem okS_is {n : Nat} {d : D} (h : okS n d = true) : ∃ s : Str, d = .str s ∧ s.length ≤ n ∧ asc s := by
  unfold okS at h
  split at h
  · rename_i s
    simp only [Bool.and_eq_true, decide_eq_true_eq, List.all_eq_true] at h
    exact ⟨s, rfl, h.1, h.2⟩
  · cases h
theorem okS_all {n : Nat} {l : List D} (h : l.all (okS n) = true) {d : D} (hd : d ∈ l) : ∃ s : Str, d = .str s ∧ s.length ≤ n ∧ asc s := okS_is (List.all_eq_true.mp h d hd)
theorem cut_h (x : Str) (k : Nat) : (cutS x none (some (k : Int))).length ≤ x.length := cutS_length _ _ _
theorem cut_t (x : Str) (k : Nat) : (cutS x (some (k : Int)) none).length ≤ x.length := cutS_length _ _ _
theorem asc_h {x : Str} (h : asc x) (k : Nat) : asc (cutS x none (some (k : Int))) := fun c hc => h c (by rw [T_head] at hc; exact List.mem_of_mem_take hc)
theorem asc_t {x : Str} (h : asc x) (k : Nat) : asc (cutS x (some (k : Int)) none) := fun c hc => h c (by rw [T_tail] at hc; exact List.mem_of_mem_drop hc)
theorem asc_app {x y : Str} (h : asc x) (g : asc y) : asc (x ++ y) := fun c hc => by
  rw [TL.tl_append] at hc
  rcases List.mem_append.mp hc with z | z
  · exact h c z
  · exact g c z
theorem w_mulS {a : Str} {n : Int} {M : MH} {Q : QD} (h : decide (2 ≤ n ∧ n ≤ 1000 ∧ 0 < a.length ∧ a.length ≤ 1000 ∧ (repS a n.toNat).length ≤ 1000000) = true) (k : Q (.str (repS a n.toNat)) M) : rdMulS (.str a) (.int n) M Q := ⟨h, k⟩
theorem wp__law_bent (AA : Ad) : ∀ ds M F FE, sp__law_bent AA ds M F FE → t__law_bent AA (fun C fs _ M => FE C fs M) { nx := fun _ M => F .non M, rt := F } (startD ["_law_quill_here", "_law_text", "_law_at", "_law_way", "_law_sign"] ds) M := by
  rintro ds M F FE ⟨p, t, rest, rfl, ⟨x, rfl, hx, ax⟩, hN, ht, k⟩
  unfold t__law_bent
  walk_at "z"
  refine w_lenS (by omega) ?_
  walk_at "z"
  refine sieve_do hN (by omega) (by omega) (lg60 (by omega) (Int.le_trans (show (x.length : Int) + 1 ≤ 1001 by omega) (by decide +kernel))) fun n M1 n0 n1 N1 u1 => ?_
  obtain ⟨i, rfl⟩ : ∃ i : Nat, n = i := ⟨n.toNat, by omega⟩
  walk_at "z"
  refine sieve_do N1 (by omega) (by decide) (by decide) fun w M2 w0 w1 N2 u2 => ?_
  walk_at "z"
  refine w_mulS (by decide +kernel) ?_
  walk_at "z"
  refine w_small (Nat.le_of_ble_eq_true rfl) ?_
  walk_at "z"
  refine pick_do N2 (by omega) (Nat.le_of_ble_eq_true rfl) (Nat.le_of_ble_eq_true rfl) fun d M3 hd N3 u3 => ?_
  obtain ⟨s, rfl, ls, as⟩ := okS_all (n := 100) (by decide +kernel) hd
  have h1 := cut_h x i
  have h2 := cut_t x i
  have h3 := cut_t x (i + 1)
  have a1 := asc_h ax i
  have a2 := asc_t ax i
  have a3 := asc_t ax (i + 1)
  have ei : ((i : Int) + 1) = ((i + 1 : Nat) : Int) := rfl
  have U := (u1.trans u2).trans u3
  walk_at "z"
  refine w_eq rfl ?_
  refine w_dec (fun c => ?_) (fun c => ?_)
  · walk_at "z"
    refine ⟨by omega, ?_⟩
    walk_at "z"
    refine w_addS (by omega) ?_
    walk_at "z"
    refine ⟨by omega, ?_⟩
    refine w_addS (by rw [strLen_append]; omega) ?_
    exact k _ _ (N3.mono (by omega)) U ⟨_, rfl, by rw [strLen_append, strLen_append]; omega, asc_app (asc_app a1 as) a2⟩
  · walk_at "z"
    refine w_eq rfl ?_
    refine w_dec (fun c => ?_) (fun c => ?_)
    · walk_at "z"
      refine ⟨by omega, ?_⟩
      walk_at "z"
      rw [ei]
      refine ⟨by omega, ?_⟩
      refine w_addS (by omega) ?_
      exact k _ _ (N3.mono (by omega)) U ⟨_, rfl, by rw [strLen_append]; omega, asc_app a1 a3⟩
    · walk_at "z"
      refine w_eq rfl ?_
      refine w_dec (fun c => ?_) (fun c => ?_)
      · walk_at "z"
        refine ⟨by omega, ?_⟩
        walk_at "z"
        refine w_addS (by omega) ?_
        walk_at "z"
        rw [ei]
        refine ⟨by omega, ?_⟩
        refine w_addS (by rw [strLen_append]; omega) ?_
        exact k _ _ (N3.mono (by omega)) U ⟨_, rfl, by rw [strLen_append, strLen_append]; omega, asc_app (asc_app a1 as) a3⟩
      · walk_at "z"
        refine w_mulS (by decide +kernel) ?_
        walk_at "z"
        refine w_addS (by decide +kernel) ?_
        walk_at "z"
        refine w_small (Nat.le_of_ble_eq_true rfl) ?_
        walk_at "z"
        refine pick_do N3 (by omega) (Nat.le_of_ble_eq_true rfl) (Nat.le_of_ble_eq_true rfl) fun d M4 hd N4 u4 => ?_
        obtain ⟨s, rfl, ls, as⟩ := okS_all (n := 100) (by decide +kernel) hd
        exact k _ _ (N4.mono (by omega)) (U.trans u4) ⟨s, rfl, by omega, as⟩
theorem wp__law_heard (AA : Ad) (nd : (AA.c_LaneError :: AA.all).Nodup) : ∀ f_ tl_ M F FE, spg__law_heard AA tl_ M F FE → t__law_heard AA f_ tl_ (fun C fs _ M => FE C fs M) { nx := fun _ M => F .non M, rt := F } (startD ["_law_ask", "_law_found", "_law_caught", "error"] [.ref f_]) M := by
  rintro f_ tl_ M F FE h
  have n12 : AA.c_BadNumber ≠ AA.c_BadText := by
    have h2 := (List.nodup_cons.mp nd).2
    unfold Ad.all at h2
    exact fun z => (List.nodup_cons.mp h2).1 (by rw [z]; exact List.mem_cons_self)
  have nL : AA.c_LaneError ∉ AA.all := (List.nodup_cons.mp nd).1
  have i1 : AA.c_BadNumber ∈ AA.all := in_BadNumber AA
  have i2 : AA.c_BadText ∈ AA.all := in_BadText AA
  have nL1 : AA.c_BadNumber ≠ AA.c_LaneError := fun z => nL (z ▸ i1)
  have nL2 : AA.c_BadText ≠ AA.c_LaneError := fun z => nL (z ▸ i2)
  have s11 : ∀ fs, isE1 AA.all AA.c_LaneError AA.c_BadNumber (.exn AA.c_BadNumber fs) = some true := fun fs => by show subX _ _ _ _ = _; rw [subX_in i1]; simp
  have s22 : ∀ fs, isE1 AA.all AA.c_LaneError AA.c_BadText (.exn AA.c_BadText fs) = some true := fun fs => by show subX _ _ _ _ = _; rw [subX_in i2]; simp
  have s21 : ∀ fs, isE1 AA.all AA.c_LaneError AA.c_BadText (.exn AA.c_BadNumber fs) = some false := fun fs => by show subX _ _ _ _ = _; rw [subX_in i1]; simp [n12, nL2]
  unfold t__law_heard
  walk_at "z"
  refine w_small (Nat.le_of_ble_eq_true rfl) ?_
  refine w_gtup (xs := [.non, .non]) rfl rfl (w_gcons (w_gname (w_gcons (w_gname (w_gnil ?_)))))
  refine w_seq (w_tryK ?_)
  walk_at "z"
  refine ⟨rfl, h _ _ (fun l i M' k => try_in i2 ⟨by show 3 < 4; decide, ?_⟩) (fun p M' k => try_in i1 ⟨by show 3 < 4; decide, ?_⟩) (fun d M' k => ?_)⟩
  · walk_at "z"
    rw [s22]
    walk_at "z"
    refine w_fldA ?_
    walk_at "z"
    refine ⟨i2, ?_⟩
    rw [show List.lookup ("line" : Str) ([("item", i), ("line", l)] : List (Str × D)) = some l from rfl]
    walk_at "z"
    refine w_fldA ?_
    walk_at "z"
    refine ⟨i2, ?_⟩
    rw [show List.lookup ("item" : Str) ([("item", i), ("line", l)] : List (Str × D)) = some i from rfl]
    walk_at "z"
    exact w_small (Nat.le_of_ble_eq_true rfl) k
  · walk_at "z"
    rw [s21]
    walk_at "z"
    rw [s11]
    walk_at "z"
    refine w_fldA ?_
    walk_at "z"
    refine ⟨i1, ?_⟩
    rw [show List.lookup ("part" : Str) ([("part", p)] : List (Str × D)) = some p from rfl]
    walk_at "z"
    exact w_small (Nat.le_of_ble_eq_true rfl) k
  · walk_at "z"
    rw [show isE1 AA.all AA.c_LaneError AA.c_BadText .non = some false from rfl]
    walk_at "z"
    rw [show isE1 AA.all AA.c_LaneError AA.c_BadNumber .non = some false from rfl]
    walk_at "z"
    exact k
end Z

set_option Elab.async false
set_option linter.all false
set_option maxRecDepth 100000
set_option maxHeartbeats 4000000
namespace Z
local macro_rules | `(tactic| walk_at "z at") => `(tactic| first | rfl | (simp only [atI, ixN, List.length_cons, List.length_nil, List.length_map]; rfl) | assumption)
local macro_rules | `(tactic| walk_at "z1") => `(tactic| first
  | with_reducible refine w_seq ?_ | with_reducible refine w_set ?_ | with_reducible refine w_ret ?_ | with_reducible refine w_if ?_ | with_reducible refine w_asg ?_ | with_reducible refine w_next ?_ | with_reducible refine w_setIx ?_ | with_reducible refine w_par ?_
  | ((with_reducible refine' w_var ?h ?_); (case h => exact rfl))
  | with_reducible refine w_c ?_ | with_reducible refine w_op ?_ | with_reducible refine w_un ?_ | with_reducible refine w_cons ?_ | with_reducible refine w_nil ?_ | with_reducible refine w_cb ?_
  | with_reducible refine w_call ?_ | with_reducible refine w_callK ?_ | with_reducible refine w_testB ?_ | with_reducible refine w_tru ?_ | with_reducible refine w_andD ?_ | with_reducible refine w_orD ?_ | with_reducible refine w_notD ?_
  | with_reducible refine w_andE ?_ | with_reducible refine w_orE ?_ | with_reducible refine w_notE ?_ | with_reducible refine w_ifE ?_ | with_reducible refine w_is ?_ | with_reducible refine w_isN ?_ | with_reducible refine w_notN ?_ | with_reducible refine w_tupOf ?_
  | with_reducible refine w_tup ?_ | with_reducible refine w_lst ?_ | with_reducible refine w_lstM ?_ | with_reducible refine w_sl ?_ | with_reducible refine w_part ?_ | with_reducible refine w_noPart ?_ | with_reducible refine w_repr ?_ | with_reducible refine w_seqI ?_
  | with_reducible refine w_rdI ?_ | with_reducible refine w_rdB ?_ | with_reducible refine w_rdAdd ?_ | with_reducible refine w_neg ?_ | with_reducible refine w_lenL ?_ | with_reducible refine w_lenT ?_ | with_reducible refine w_abs ?_ | with_reducible refine w_int ?_ | with_reducible refine w_intB ?_ | with_reducible refine w_gcd ?_
  | with_reducible refine w_gname ?_ | with_reducible refine w_gnil ?_ | with_reducible refine w_gcons ?_
  | with_reducible refine w_true ?_ | with_reducible refine w_false ?_
  | dsimp only [truthD, seqD, isNonD, permL, List.filterMap] | with_reducible refine w_drop ?_ | with_reducible refine w_retN ?_ | with_reducible refine w_nilP ?_ | with_reducible refine w_consP ?_ | with_reducible refine w_rng ?_ | with_reducible refine w_cont ?_ | with_reducible refine w_brk ?_)
local macro_rules | `(tactic| walk_at "z") => `(tactic| repeat walk_at "z1")
local macro_rules | `(tactic| walk_at "z1") => `(tactic| first | with_reducible refine w_slS ?_ | with_reducible refine w_m1 ?_)
open PySem L2
/-! ### the law -/
def t_law (AA : Ad) : TSD := (tSeqD (tSetD 1 (tCallD spGrit (tConsD (tVarD 0) tNilD)))
  (tSeqD (tForD (iRngD (tConsD (tCD (.int 4)) tNilD)) (gNameD 2)
    (tSeqD (tSetD 3 (tCallD (sp__law_number AA) (tConsD (tVarD 1) tNilD)))
  (tSeqD (tSetD 4 (tCallD (sp__law_told AA) (tConsD (tVarD 3) tNilD)))
  (tSeqD (tSetD 5 (tIfE (tTestB (tOpD rdEq (tOpD rdIx (tVarD 3) (tCD (.int 1))) (tCD (.int 1)))) (tCBD rdStr (tConsD (tOpD rdIx (tVarD 3) (tCD (.int 0))) tNilD)) (tFs (tOpD rdIx (tVarD 3) (tCD (.int 0))) "/" (tOpD rdIx (tVarD 3) (tCD (.int 1))))))
  (tSeqD (tIfD (tTestB (tOpD rdNe (tReprD (tLstD (tConsD (tCallD (sp_number_text AA) (tConsD (tVarD 4) tNilD)) (tConsD (tCallKD (sp_number_text AA) [0] (tConsD (tVarD 4) tNilD)) (tConsD (tCallD (sp_number_of AA) (tConsD (tVarD 5) tNilD)) (tConsD (tCallKD (sp_number_of AA) [0] (tConsD (tVarD 5) tNilD)) tNilD)))))) (tReprD (tLstD (tConsD (tVarD 5) (tConsD (tVarD 5) (tConsD (tVarD 4) (tConsD (tVarD 4) tNilD))))))))
    (tRetD (tCD (.bl false)))
    tNextD)
  (tForD (iRngD (tConsD (tCD (.int 4)) tNilD)) (gNameD 6)
    (tSeqD (tSetD 7 (tCallD (sp__law_bent AA) (tConsD (tVarD 1) (tConsD (tVarD 5) tNilD))))
  (tSeqD (tSetD 8 (tCallD (sp__law_read AA) (tConsD (tVarD 7) tNilD)))
  (tIfD (tTestB (tOpD rdNe (tReprD (tLamD AA.P_law qn_law [7] ["_law_bent_here"] none (spg__law_heard AA) (tCallD (sp_number_of AA) (tConsD (tVarD 0) tNilD)))) (tReprD (tIfE (tTestB (tIsND (tVarD 8))) (tLstD (tConsD (tCD (.str "text")) (tConsD (tCD (.int 0)) (tConsD (tCD (.int 0)) tNilD)))) (tVarD 8)))))
    (tRetD (tCD (.bl false)))
    tNextD)))))))))
  (tSeqD (tSetD 9 (tOpD rdAdd (tOpD rdMul (tOpD (rdIC CPow fun i j => i ^ j.toNat) (tCD (.int 10)) (tCD (.int 60))) (tOpD rdAdd (tCD (.int 1)) (tCallD spSieve (tConsD (tVarD 1) (tConsD (tOpD (rdIC CPow fun i j => i ^ j.toNat) (tCD (.int 10)) (tCD (.int 9))) tNilD))))) (tCallD spSieve (tConsD (tVarD 1) (tConsD (tCD (.int 99)) tNilD)))))
  (tSeqD (tForD (iSeqD (tTupD (tConsD (tTupD (tConsD (tVarD 9) (tConsD (tCBD rdStr (tConsD (tVarD 9) tNilD)) tNilD))) (tConsD (tTupD (tConsD (tTupD (tConsD (tUnD rdNeg (tCD (.int 1))) (tConsD (tVarD 9) tNilD))) (tConsD (tOpD rdAdd (tCD (.str "-1/")) (tCBD rdStr (tConsD (tVarD 9) tNilD))) tNilD))) (tConsD (tTupD (tConsD (tTupD (tConsD (tOpD rdAdd (tOpD rdMul (tCD (.int 2)) (tVarD 9)) (tCD (.int 1))) (tConsD (tCD (.int 2)) tNilD))) (tConsD (tOpD rdAdd (tCBD rdStr (tConsD (tOpD rdAdd (tOpD rdMul (tCD (.int 2)) (tVarD 9)) (tCD (.int 1))) tNilD)) (tCD (.str "/2"))) tNilD))) tNilD))))) (gTupD 2 (gConsD (gNameD 4) (gConsD (gNameD 5) gNilD)))
    (tIfD (tOrD (tTestB (tOpD rdNe (tCallD (sp_number_text AA) (tConsD (tVarD 4) tNilD)) (tVarD 5))) (tTestB (tOpD rdNe (tLamD AA.P_law qn_law [5] ["_law_text"] none (spg__law_heard AA) (tCallD (sp_number_of AA) (tConsD (tVarD 0) tNilD))) (tLstD (tConsD (tCD (.str "text")) (tConsD (tCD (.int 0)) (tConsD (tCD (.int 0)) tNilD)))))))
    (tRetD (tCD (.bl false)))
    tNextD))
  (tSeqD (tSetD 10 (tCallD spPick (tConsD (tVarD 1) (tConsD (tLstD (tConsD (tCD .non) (tConsD (tCD (.int 7)) (tConsD (tTupD (tConsD (tCD (.int 7)) (tConsD (tCD (.int 2)) tNilD))) (tConsD (tCD (.bl true)) (tConsD (tLstD (tConsD (tCD (.str "7")) tNilD)) (tConsD (tCD (.dct [])) tNilD))))))) tNilD))))
  (tSeqD (tSetD 11 (tCallD spPick (tConsD (tVarD 1) (tConsD (tLstD (tConsD (tCD .non) (tConsD (tCD (.str "7")) (tConsD (tTupD (tConsD (tCD (.int 2)) (tConsD (tCD (.int 4)) tNilD))) (tConsD (tTupD (tConsD (tCD (.int 3)) (tConsD (tCD (.int 1)) tNilD))) (tConsD (tCD (.bl true)) (tConsD (tLstD tNilD) (tConsD (tTupD (tConsD (tCD (.int 1)) (tConsD (tCD (.int 0)) tNilD))) tNilD)))))))) tNilD))))
  (tSeqD (tIfD (tTestB (tOpD rdNe (tLamD AA.P_law qn_law [10] ["_law_odd"] none (spg__law_heard AA) (tCallD (sp_number_of AA) (tConsD (tVarD 0) tNilD))) (tLstD (tConsD (tCD (.str "text")) (tConsD (tCD (.int 0)) (tConsD (tCD (.int 0)) tNilD))))))
    (tRetD (tCD (.bl false)))
    tNextD)
  (tRetD (tOpD rdEq (tLamD AA.P_law qn_law [11] ["_law_bad"] none (spg__law_heard AA) (tCallD (sp_number_text AA) (tConsD (tVarD 0) tNilD))) (tLstD (tConsD (tCD (.str "number")) (tConsD (tCD (.str "value")) tNilD))))))))))))
theorem len_law (AA : Ad) : ∀ ds M F E, spLawT AA.ts ds M F E → ds.length = 1 := fun ds M F E ⟨_, e, _⟩ => by rw [e]; rfl
section
variable {AA : Ad} {Pt : Addr} {qn : Str} {js : List Nat} {N : List Str} {o : Option Int} {tb : TED} {W : WD} {τ : EnvD} {M : MH} {Q : QD} {cds : List D} {x l i : D}
theorem lam_keep {f : Addr} {mo o' : MO} (hP : M Pt = some o') (hf : M f = none) : mput M f mo Pt = some o' := by
  rw [mput_ne fun z => by rw [z, hf] at hP; cases hP]
  exact hP
theorem heard_txt (hP : M Pt = some (.tbl qn)) (hc : takeN τ js = some cds) (k : Q (.lst [.str "text", l, i]) M)
    (h : ∀ (E : ED) (Q' : QD) (M' : MH), E AA.c_BadText [("item", i), ("line", l)] M' → tb (fun C fs _ M => E C fs M) (startD N (ownD o ++ cds)) M' Q') : tLamD Pt qn js N o (spg__law_heard AA) tb W τ M Q :=
  ⟨hP, cds, hc, fun f mo hf E Q' h1 _ _ => ⟨mput_same, lam_keep hP hf, h E Q' _ (h1 l i _ (by show Q _ (mdel (mput M f mo) f); rw [mdel_mput hf]; exact k))⟩⟩
theorem heard_num (hP : M Pt = some (.tbl qn)) (hc : takeN τ js = some cds) (k : Q (.lst [.str "number", x]) M)
    (h : ∀ (E : ED) (Q' : QD) (M' : MH), E AA.c_BadNumber [("part", x)] M' → tb (fun C fs _ M => E C fs M) (startD N (ownD o ++ cds)) M' Q') : tLamD Pt qn js N o (spg__law_heard AA) tb W τ M Q :=
  ⟨hP, cds, hc, fun f mo hf E Q' _ h2 _ => ⟨mput_same, lam_keep hP hf, h E Q' _ (h2 x _ (by show Q _ (mdel (mput M f mo) f); rw [mdel_mput hf]; exact k))⟩⟩
theorem heard_val (hP : M Pt = some (.tbl qn)) (hc : takeN τ js = some cds) (k : Q x M)
    (h : ∀ (E : ED) (Q' : QD) (M' : MH), Q' x M' → tb (fun C fs _ M => E C fs M) (startD N (ownD o ++ cds)) M' Q') : tLamD Pt qn js N o (spg__law_heard AA) tb W τ M Q :=
  ⟨hP, cds, hc, fun f mo hf E Q' _ _ h3 => ⟨mput_same, lam_keep hP hf, h E Q' _ (h3 x _ (by show Q _ (mdel (mput M f mo) f); rw [mdel_mput hf]; exact k))⟩⟩
end
theorem tbl_keep {M M' : MH} {p P : Addr} {t : Int} {q : Str} (hN : NutAt M p t) (u : Upd1 M p M') (h : M P = some (.tbl q)) : M' P = some (.tbl q) := by
  obtain ⟨_, _, _, z, _⟩ := hN
  rw [u P fun e => by rw [e, z] at h; cases h]
  exact h
theorem nut_ext {M M' : MH} {p : Addr} {t : Int} (h : NutAt M p t) (x : Ext M M') : NutAt M' p t := by
  obtain ⟨c, u, f, e, r⟩ := h
  exact ⟨c, u, f, x _ _ e, r⟩
theorem up300 {a : Int} (h : a.natAbs < 10 ^ 60) : a.natAbs < 10 ^ 300 := Nat.lt_of_lt_of_le h (Nat.pow_le_pow_right (by decide) (by decide))
def txtOf (a b : Int) : Str := if b = 1 then strI a else strI a ++ "/" ++ strI b
theorem asc_int (a : Int) : asc (strI a) := by
  have hd : ∀ n, ∀ c ∈ TL.numL n, c < 128 := fun n c hm => by have := TL.numL_digits n c hm; omega
  cases a with
  | ofNat n => unfold asc; rw [show TL.tl (strI (Int.ofNat n)) = TL.numL n from T_num n]; exact hd n
  | negSucc m =>
    unfold asc
    rw [show TL.tl (strI (Int.negSucc m)) = 45 :: TL.numL (m + 1) from T_neg m]
    intro c hm
    rcases List.mem_cons.mp hm with e | e
    · rw [e]; decide
    · exact hd _ c e
theorem asc_slash : asc "/" := by unfold asc; rw [T_slash]; decide
theorem slash_len : ("/" : Str).length = 1 := by decide +kernel
theorem rd_asc {x : Str} (h : asc x) (l : x.length ≤ 300) : RD (.str x) := rd_str (fun c hc => Nat.lt_of_lt_of_le (h c hc) (by decide)) l
theorem txt_ok {a b : Int} (h : IsF a b) (ha : a.natAbs < 10 ^ 60) (hb : b.natAbs < 10 ^ 60) : readL (TL.tl (txtOf a b)) = tellD a b ∧ asc (txtOf a b) ∧ (txtOf a b).length ≤ 200 ∧ plainD (tellD a b) = true ∧ isNumB (tellD a b) = true := by
  have la : (strI a).length ≤ 61 := int_len60 ha
  have lb : (strI b).length ≤ 61 := int_len60 hb
  unfold txtOf tellD
  by_cases e : b = 1
  · rw [if_pos e, if_pos e]
    exact ⟨read_int ha, asc_int a, by omega, rfl, rfl⟩
  · rw [if_neg e, if_neg e]
    have b2 : 2 ≤ b := by have := h.1; omega
    refine ⟨read_pair ha hb b2 h.2, asc_app (asc_app (asc_int a) asc_slash) (asc_int b), ?_, rfl, ?_⟩
    · rw [strLen_append, strLen_append, slash_len]
      omega
    · show (decide (2 ≤ b) && decide (Nat.gcd a.natAbs b.natAbs = 1)) = true
      rw [decide_eq_true b2, decide_eq_true h.2]
      rfl
section
variable {AA : Ad} {M : MH} {F : QD} {E : ED} {a b : Int} {d : D} {x : Str}
theorem text_do (hp : plainD (tellD a b) = true) (hn : isNumB (tellD a b) = true) (ha : a.natAbs < 10 ^ 300) (hb : b.natAbs < 10 ^ 300) (k : ∀ M', Ext M M' → F (.str (txtOf a b)) M') : sp_number_text AA [tellD a b] M F E := by
  refine ⟨_, rfl, hp, fun z => absurd (hn.symm.trans z) (by decide), fun _ => ?_⟩
  unfold tellD txtOf at *
  by_cases e : b = 1
  · rw [if_pos e] at *
    exact ⟨fun a' z => (by cases z; exact ⟨ha, k⟩), fun a' b' z => (by rcases z with z | z <;> cases z)⟩
  · rw [if_neg e] at *
    refine ⟨fun a' z => (by cases z), fun a' b' z => ?_⟩
    rcases z with z | z
    · cases z
    · cases z; exact ⟨ha, hb, k⟩
theorem text_bad (hp : plainD d = true) (hn : isNumB d = false) (k : E AA.c_BadNumber [("part", .str "value")] M) : sp_number_text AA [d] M F E :=
  ⟨_, rfl, hp, fun _ => k, fun z => absurd (hn.symm.trans z) (by decide)⟩
theorem of_do (hl : x.length ≤ 1000000) (hr : readL (TL.tl x) ≠ .non) (k : F (readL (TL.tl x)) M) : sp_number_of AA [.str x] M F E :=
  ⟨_, rfl, rfl, fun z => absurd rfl (z x), fun y e => by cases e; exact ⟨hl, fun z => absurd z hr, fun _ => k⟩⟩
theorem of_bad (hl : x.length ≤ 1000000) (hr : readL (TL.tl x) = .non) (k : E AA.c_BadText [("item", .int 0), ("line", .int 0)] M) : sp_number_of AA [.str x] M F E :=
  ⟨_, rfl, rfl, fun z => absurd rfl (z x), fun y e => by cases e; exact ⟨hl, fun _ => k, fun z => absurd hr z⟩⟩
theorem of_odd (hp : plainD d = true) (hd : ∀ x, d ≠ .str x) (k : E AA.c_BadText [("item", .int 0), ("line", .int 0)] M) : sp_number_of AA [d] M F E :=
  ⟨_, rfl, hp, fun _ => k, fun y e => absurd e (hd y)⟩
theorem number_do {r : Addr} {t : Int} (hN : NutAt M r t) (ht : t + 5 ≤ 8000000) (k : ∀ a b M', NutAt M' r (t + 5) → Upd1 M r M' → IsF a b → a.natAbs < 10 ^ 60 → b.natAbs < 10 ^ 60 → F (frD a b) M') : sp__law_number AA [.ref r] M F E :=
  draw_do hN ht rfl fun x M' n u ⟨a, b, e, h, s1, s2⟩ => by subst e; exact k a b M' n u h s1 s2
theorem bent_do {r : Addr} {t : Int} (hN : NutAt M r t) (ht : t + 4 ≤ 8000000) (hx : x.length ≤ 1000) (ax : asc x) (k : ∀ y M', NutAt M' r (t + 4) → Upd1 M r M' → y.length ≤ 3000 → asc y → F (.str y) M') : sp__law_bent AA [.ref r, .str x] M F E :=
  draw_do hN ht ⟨x, rfl, hx, ax⟩ fun d M' n u ⟨y, e, h1, h2⟩ => by subst e; exact k y M' n u h1 h2
/-- a number too long to be read, and its text -/
def LP (AA : Ad) (x : D) : Prop := ∃ (num : D) (tx : Str), x = .tup [num, .str tx] ∧ (∀ M F E, (∀ M', Ext M M' → F (.str tx) M') → sp_number_text AA [num] M F E) ∧ readL (TL.tl tx) = .non ∧ tx.length ≤ 1000
end
theorem strI_one : strI (-1) = "-1" := by decide +kernel
theorem strI_two : strI 2 = "2" := by decide +kernel
theorem minus1_app : ("-1" : Str) ++ "/" = "-1/" := by decide +kernel
theorem slash2_app : ("/" : Str) ++ "2" = "/2" := by decide +kernel
theorem str_assoc (x y z : Str) : x ++ y ++ z = x ++ (y ++ z) := T_ext (by rw [TL.tl_append, TL.tl_append, TL.tl_append, TL.tl_append, List.append_assoc])
theorem lp1 (AA : Ad) {L : Int} (h0 : 10 ^ 60 ≤ L) (h1 : L < 10 ^ 100) : LP AA (.tup [.int L, .str (strI L)]) := by
  have hL : L.natAbs < 10 ^ 300 := Nat.lt_of_lt_of_le (show L.natAbs < 10 ^ 100 by omega) (Nat.pow_le_pow_right (by decide) (by decide))
  refine ⟨_, _, rfl, fun M F E k => ⟨_, rfl, rfl, fun z => (by cases z), fun _ => ⟨fun a e => (by cases e; exact ⟨hL, k⟩), fun a b z => (by rcases z with z | z <;> cases z)⟩⟩, read_long (by omega), ?_⟩
  have := strI_len hL
  omega
theorem lp2 (AA : Ad) {L : Int} (h0 : 10 ^ 60 ≤ L) (h1 : L < 10 ^ 100) : LP AA (.tup [.tup [.int (-1), .int L], .str ("-1/" ++ strI L)]) := by
  have hL : L.natAbs < 10 ^ 300 := Nat.lt_of_lt_of_le (show L.natAbs < 10 ^ 100 by omega) (Nat.pow_le_pow_right (by decide) (by decide))
  have e : strI (-1) ++ "/" ++ strI L = "-1/" ++ strI L := by rw [strI_one, minus1_app]
  have z60 : (2 : Int) ≤ 10 ^ 60 := by decide +kernel
  have hn : isNumB (.tup [.int (-1), .int L]) = true := by
    show (decide (2 ≤ L) && decide (Nat.gcd (-1 : Int).natAbs L.natAbs = 1)) = true
    rw [decide_eq_true (show 2 ≤ L by omega)]
    simp
  refine ⟨_, _, rfl, fun M F E k => ⟨_, rfl, rfl, fun z => absurd (hn.symm.trans z) (by decide), fun _ => ⟨fun a e => (by cases e), fun a b z => ?_⟩⟩, ?_, ?_⟩
  · rcases z with z | z
    · cases z
    · cases z
      exact ⟨by decide +kernel, hL, by rw [e]; exact k⟩
  · rw [← e]
    exact read_longB (int_no47 _) (by omega)
  · rw [← e, strLen_append, strLen_append, slash_len, strI_one]
    have := strI_len hL
    have : ("-1" : Str).length = 2 := by decide +kernel
    omega
theorem lp3 (AA : Ad) {L : Int} (h0 : 10 ^ 60 ≤ L) (h1 : L < 10 ^ 100) : LP AA (.tup [.tup [.int (2 * L + 1), .int 2], .str (strI (2 * L + 1) ++ "/2")]) := by
  have p1 : (10 : Int) ^ 101 = 10 ^ 100 * 10 := by decide +kernel
  have hL : (2 * L + 1).natAbs < 10 ^ 300 := Nat.lt_of_lt_of_le (show (2 * L + 1).natAbs < 10 ^ 101 by omega) (Nat.pow_le_pow_right (by decide) (by decide))
  have e : strI (2 * L + 1) ++ "/" ++ strI 2 = strI (2 * L + 1) ++ "/2" := by rw [str_assoc, strI_two, slash2_app]
  have hn : isNumB (.tup [.int (2 * L + 1), .int 2]) = true := by
    show (decide ((2 : Int) ≤ 2) && decide (Nat.gcd (2 * L + 1).natAbs (2 : Int).natAbs = 1)) = true
    have g : Nat.gcd (2 * L + 1).natAbs (2 : Int).natAbs = 1 := by
      show Nat.gcd (2 * L + 1).natAbs 2 = 1
      rw [Nat.gcd_comm, Nat.gcd_rec, show (2 * L + 1).natAbs % 2 = 1 by omega]
      decide
    rw [decide_eq_true g]
    rfl
  refine ⟨_, _, rfl, fun M F E k => ⟨_, rfl, rfl, fun z => absurd (hn.symm.trans z) (by decide), fun _ => ⟨fun a e => (by cases e), fun a b z => ?_⟩⟩, ?_, ?_⟩
  · rcases z with z | z
    · cases z
    · cases z
      exact ⟨hL, by decide +kernel, by rw [e]; exact k⟩
  · rw [← e]
    exact read_longA (by omega)
  · rw [← e, strLen_append, strLen_append, slash_len, strI_two]
    have := strI_len hL
    have : ("2" : Str).length = 1 := by decide +kernel
    omega
def oddL : List D := [.non, .int 7, .tup [.int 7, .int 2], .bl true, .lst [.str "7"], .dct []]
theorem odd_is {d : D} (h : d ∈ oddL) : plainD d = true ∧ ∀ x, d ≠ .str x := by
  unfold oddL at h
  simp only [List.mem_cons, List.not_mem_nil, or_false] at h
  rcases h with rfl | rfl | rfl | rfl | rfl | rfl <;> exact ⟨rfl, fun x z => by cases z⟩
def badL : List D := [.non, .str "7", .tup [.int 2, .int 4], .tup [.int 3, .int 1], .bl true, .lst [], .tup [.int 1, .int 0]]
theorem bad_all : badL.all (fun d => plainD d && !isNumB d) = true := by decide +kernel
theorem bad_is {d : D} (h : d ∈ badL) : plainD d = true ∧ isNumB d = false := by
  have := List.all_eq_true.mp bad_all d h
  simpa using this
theorem txt0_ok : ∃ p, toPy (.lst [.str "text", .int 0, .int 0]) = some p ∧ okRepr p := rd_list (by
  intro x hx
  simp only [List.mem_cons, List.not_mem_nil, or_false] at hx
  rcases hx with rfl | rfl | rfl
  · exact rd_asc (by unfold asc; decide +kernel) (by decide +kernel)
  · exact rd_int (by unfold Sz; decide)
  · exact rd_int (by unfold Sz; decide)) (by decide)
theorem wp_law (AA : Ad) : ∀ ds M F FE, spLawT AA.ts ds M F FE → t_law AA (fun C fs _ M => FE C fs M) { nx := fun _ M => F .non M, rt := F } (startD ["_law_script", "_law_quill_here", "_law_turn", "_law_pair_here", "_law_number_here", "_law_text", "_law_bend", "_law_bent_here", "_law_due", "_law_long", "_law_odd", "_law_bad"] ds) M := by
  rintro ds M F FE ⟨ns, rfl, hl, rfl, k⟩
  have t1 : tabM AA.ts AA.P_law = some (.tbl qn_law) := by
    unfold tabM Ad.ts
    simp
  unfold t_law
  walk_at "z"
  refine ⟨ns, rfl, by omega, fun p M1 hp n1 u1 => ?_⟩
  have T1 : M1 AA.P_law = some (.tbl qn_law) := by
    rw [u1 _ fun e => by rw [e, hp] at t1; cases t1]
    exact t1
  obtain ⟨y0, ey0, oky0⟩ := txt0_ok
  walk_at "z"
  refine ⟨⟨by omega, by omega⟩, ?_⟩
  refine ⟨fun i τ' M' => NutAt M' p (i * 21) ∧ M' AA.P_law = some (.tbl qn_law) ∧ ∃ x2 x3 x4 x5 x6 x7 x8, τ' = [some (.lst (ns.map D.int)), some (.ref p), x2, x3, x4, x5, x6, x7, x8, none, none, none], ⟨by simpa using n1, T1, _, _, _, _, _, _, _, rfl⟩, ?_, ?_⟩
  · rintro i x τ' M' hx ⟨nn, tt, x2, x3, x4, x5, x6, x7, x8, rfl⟩
    have hi : i < 4 := (upFrom_get hx).1
    walk_at "z"
    refine number_do nn (by omega) fun a b M2 n2 u2 h1 ha hb => ?_
    have T2 := tbl_keep nn u2 tt
    obtain ⟨er, ax, lx, hp', hn'⟩ := txt_ok h1 ha hb
    have nr : readL (TL.tl (txtOf a b)) ≠ .non := by rw [er]; unfold tellD; split <;> exact fun z => by cases z
    obtain ⟨y, ey, oky⟩ := rd_list (ds := [.str (txtOf a b), .str (txtOf a b), tellD a b, tellD a b]) (by
      intro x hx
      simp only [List.mem_cons, List.not_mem_nil, or_false] at hx
      have r1 := rd_asc ax (by omega)
      have r2 := rd_tell ((sz60 ha).mono (show 200 ≤ 1900 by decide)) ((sz60 hb).mono (show 200 ≤ 1900 by decide))
      rcases hx with rfl | rfl | rfl | rfl <;> assumption) (by show 4 ≤ 1000; decide)
    have key : ∀ {τ : EnvD} {Q : QD}, getN τ 3 = some (frD a b) → Q (.str (txtOf a b)) M2 → tIfE (tTestB (tOpD rdEq (tOpD rdIx (tVarD 3) (tCD (.int 1))) (tCD (.int 1)))) (tCBD rdStr (tConsD (tOpD rdIx (tVarD 3) (tCD (.int 0))) tNilD)) (tFs (tOpD rdIx (tVarD 3) (tCD (.int 0))) "/" (tOpD rdIx (tVarD 3) (tCD (.int 1)))) (fun C fs _ M => FE C fs M) τ M2 Q := fun {τ Q} h3 kq => by
      have lga : a.natAbs.log2 < 1900 := Sz.log2 (n := 200) (sz60 ha) (by decide)
      have lgb : b.natAbs.log2 < 1900 := Sz.log2 (n := 200) (sz60 hb) (by decide)
      unfold txtOf at kq
      refine w_ifE (w_testB (w_op (w_op (w_var h3 (w_c (w_ixT (x := .int b) rfl (w_c (w_eq rfl ?_))))))))
      refine w_dec (fun c => ?_) (fun c => ?_)
      · rw [if_pos c] at kq
        exact w_cb (w_cons (w_op (w_var h3 (w_c (w_ixT (x := .int a) rfl (w_nil (w_strI (by omega) kq)))))))
      · rw [if_neg c] at kq
        refine (w_op (w_var h3 (w_c (w_ixT (x := .int a) rfl ?_))) : tOpD rdIx (tVarD 3) (tCD (.int 0)) _ _ _ _)
        refine ⟨lga, by rw [slash_len]; omega, ?_⟩
        refine (w_op (w_var h3 (w_c (w_ixT (x := .int b) rfl ?_))) : tOpD rdIx (tVarD 3) (tCD (.int 1)) _ _ _ _)
        exact ⟨lgb, kq⟩
    walk_at "z"
    refine told_do h1 ((sz60 hb).mono (by decide)) ?_
    refine w_seq (w_set (key rfl ?_))
    walk_at "z"
    refine text_do hp' hn' (up300 ha) (up300 hb) fun M3 e3 => ?_
    walk_at "z"
    refine text_do hp' hn' (up300 ha) (up300 hb) fun M4 e4 => ?_
    walk_at "z"
    refine of_do (by omega) nr ?_
    rw [er]
    walk_at "z"
    refine of_do (by omega) nr ?_
    rw [er]
    walk_at "z"
    refine w_small (Nat.le_of_ble_eq_true rfl) ?_
    walk_at "z"
    rw [ey]
    refine ⟨oky, ?_⟩
    walk_at "z"
    refine w_small (Nat.le_of_ble_eq_true rfl) ?_
    walk_at "z"
    rw [ey]
    refine ⟨oky, ?_⟩
    refine w_ne (eq_self_str _) ?_
    refine w_false ?_
    have E4 := e3.trans e4
    have n4 := nut_ext n2 E4
    have T4 := E4 _ _ T2
    clear key
    walk_at "z"
    refine ⟨⟨by omega, by omega⟩, ?_⟩
    refine ⟨fun j τ' M' => NutAt M' p (i * 21 + 5 + j * 4) ∧ M' AA.P_law = some (.tbl qn_law) ∧ ∃ x6 x7 x8, τ' = [some (.lst (ns.map D.int)), some (.ref p), some x, some (frD a b), some (tellD a b), some (.str (txtOf a b)), x6, x7, x8, none, none, none], ⟨by simpa using n4, T4, _, _, _, rfl⟩, ?_, ?_⟩
    · rintro j xj τ2 M5 hj ⟨n5, T5, x6, x7, x8, rfl⟩
      have hj4 : j < 4 := (upFrom_get hj).1
      walk_at "z"
      refine bent_do n5 (by omega) (by omega) ax fun z M6 n6 u6 lz az => ?_
      have T6 := tbl_keep n5 u6 T5
      walk_at "z"
      refine ⟨z, rfl, by omega, az, ?_⟩
      walk_at "z"
      have fin : NutAt M6 p (i * 21 + 5 + ((j + 1 : Nat) : Int) * 4) := n6.mono (by omega)
      by_cases hn : readL (TL.tl z) = .non
      · refine heard_txt (l := .int 0) (i := .int 0) T6 rfl ?_ (fun E Q' M7 e => ?_)
        rotate_left
        · walk_at "z"
          exact of_bad (by omega) hn e
        walk_at "z"
        rw [ey0]
        refine ⟨oky0, ?_⟩
        rw [hn]
        walk_at "z"
        refine w_small (Nat.le_of_ble_eq_true rfl) ?_
        walk_at "z"
        rw [ey0]
        refine ⟨oky0, ?_⟩
        refine w_ne (eq_self_str _) ?_
        refine w_false ?_
        walk_at "z"
        exact ⟨fin, T6, _, _, _, rfl⟩
      · obtain ⟨y2, ey2, oky2⟩ := rd_ok (readL_rd (TL.tl z))
        have hnn : isNonD (readL (TL.tl z)) = false := by cases h : readL (TL.tl z) <;> first | rfl | exact absurd h hn
        refine heard_val (x := readL (TL.tl z)) T6 rfl ?_ (fun E Q' M7 e => ?_)
        rotate_left
        · walk_at "z"
          exact of_do (by omega) hn e
        walk_at "z"
        rw [ey2]
        refine ⟨oky2, ?_⟩
        walk_at "z"
        refine w_bool (fun z => absurd (hnn.symm.trans z) (by decide)) (fun _ => ?_)
        walk_at "z"
        rw [ey2]
        refine ⟨oky2, ?_⟩
        refine w_ne (eq_self_str _) ?_
        refine w_false ?_
        walk_at "z"
        exact ⟨fin, T6, _, _, _, rfl⟩
    · rintro τ2 M5 ⟨n5, T5, x6, x7, x8, rfl⟩
      rw [upFrom_len] at n5
      exact ⟨n5.mono (by omega), T5, _, _, _, _, _, _, _, rfl⟩
  · rintro τ' M' ⟨nn, tt, x2, x3, x4, x5, x6, x7, x8, rfl⟩
    rw [upFrom_len] at nn
    have p60 : (10 : Int) ^ (60 : Int).toNat = 10 ^ 60 := rfl
    have p9 : (10 : Int) ^ (9 : Int).toNat = 1000000000 := rfl
    walk_at "z"
    refine w_rdIC (by show CPow 10 60; unfold CPow; omega) ?_
    walk_at "z"
    refine w_rdIC (by show CPow 10 9; unfold CPow; omega) ?_
    walk_at "z"
    rw [p9, p60]
    refine sieve_do nn (by omega) (by decide) (by decide) fun g M2 g0 g1 n2 u2 => ?_
    have T2 := tbl_keep nn u2 tt
    walk_at "z"
    refine w_rdMul (mulOk_sz (n := 200) (m := 40) (by unfold Sz; decide +kernel) (by unfold Sz; omega) (by decide) (by decide)) ?_
    walk_at "z"
    refine sieve_do n2 (by omega) (by decide) (by decide) fun h M3 h0 h1 n3 u3 => ?_
    have T3 := tbl_keep n2 u3 T2
    have L0 : 10 ^ 60 ≤ (10 : Int) ^ 60 * (1 + g) + h := by omega
    have L1 : (10 : Int) ^ 60 * (1 + g) + h < 10 ^ 100 := by
      have : (10 : Int) ^ 100 = 10 ^ 60 * 10 ^ 40 := by decide +kernel
      omega
    walk_at "z"
    generalize (10 : Int) ^ 60 * (1 + g) + h = L at L0 L1
    refine w_for ?_
    have lg : L.natAbs.log2 < 1920 := Nat.lt_trans (Sz.log2 (x := L) (n := 400) (Nat.lt_of_lt_of_le (show L.natAbs < 10 ^ 100 by omega) (by decide +kernel)) (by decide)) (by decide)
    have lg2 : (2 * L + 1).natAbs.log2 < 1920 := Nat.lt_trans (Sz.log2 (x := 2 * L + 1) (n := 400) (Nat.lt_of_lt_of_le (show (2 * L + 1).natAbs < 10 ^ 101 by omega) (by decide +kernel)) (by decide)) (by decide)
    have sL : (strI L).length ≤ 301 := strI_len (Nat.lt_of_lt_of_le (show L.natAbs < 10 ^ 100 by omega) (Nat.pow_le_pow_right (by decide) (by decide)))
    have sL2 : (strI (2 * L + 1)).length ≤ 301 := strI_len (Nat.lt_of_lt_of_le (show (2 * L + 1).natAbs < 10 ^ 101 by omega) (Nat.pow_le_pow_right (by decide) (by decide)))
    have m1 : ("-1/" : Str).length = 3 := by decide +kernel
    have m2 : ("/2" : Str).length = 2 := by decide +kernel
    walk_at "z"
    refine w_strI lg ?_
    walk_at "z"
    refine w_small (Nat.le_of_ble_eq_true rfl) ?_
    walk_at "z"
    refine w_small (Nat.le_of_ble_eq_true rfl) ?_
    walk_at "z"
    refine w_strI lg ?_
    refine w_addS (by omega) ?_
    walk_at "z"
    refine w_small (Nat.le_of_ble_eq_true rfl) ?_
    walk_at "z"
    refine w_rdMul (mulOk_l ⟨by omega, by omega⟩) ?_
    walk_at "z"
    refine w_small (Nat.le_of_ble_eq_true rfl) ?_
    walk_at "z"
    refine w_rdMul (mulOk_l ⟨by omega, by omega⟩) ?_
    walk_at "z"
    refine w_strI lg2 ?_
    walk_at "z"
    refine w_addS (by omega) ?_
    walk_at "z"
    refine w_small (Nat.le_of_ble_eq_true rfl) ?_
    walk_at "z"
    refine w_small (Nat.le_of_ble_eq_true rfl) ?_
    walk_at "z"
    refine ⟨fun j τ' M' => NutAt M' p (90 + j * 0) ∧ M' AA.P_law = some (.tbl qn_law) ∧ ∃ x4 x5, τ' = [some (.lst (ns.map D.int)), some (.ref p), x2, x3, x4, x5, x6, x7, x8, some (.int L), none, none], ⟨n3.mono (by omega), T3, _, _, rfl⟩, ?_, ?_⟩
    · rintro j x τ2 M4 hj ⟨n4, T4, x4, x5, rfl⟩
      obtain ⟨num, tx, rfl, kt, kr, kl⟩ : LP AA x := by
        have := List.mem_of_getElem? hj
        simp only [List.mem_cons, List.not_mem_nil, or_false] at this
        rcases this with rfl | rfl | rfl
        · exact lp1 AA L0 L1
        · exact lp2 AA L0 L1
        · exact lp3 AA L0 L1
      refine w_gtup (xs := [num, .str tx]) rfl rfl (w_gcons (w_gname (w_gcons (w_gname (w_gnil ?_)))))
      walk_at "z"
      refine kt _ _ _ fun M5 e5 => ?_
      have T5 := e5 _ _ T4
      walk_at "z"
      refine w_ne (eq_self_str _) ?_
      refine w_false ?_
      walk_at "z"
      refine heard_txt (l := .int 0) (i := .int 0) T5 rfl ?_ (fun E Q' M7 e => ?_)
      rotate_left
      · walk_at "z"
        exact of_bad (by omega) kr e
      walk_at "z"
      refine w_small (Nat.le_of_ble_eq_true rfl) ?_
      refine w_ne (b := true) (by decide +kernel) ?_
      refine w_false ?_
      walk_at "z"
      exact ⟨(nut_ext n4 e5).mono (by omega), T5, _, _, rfl⟩
    · rintro τ2 M4 ⟨n4, T4, x4, x5, rfl⟩
      walk_at "z"
      refine w_small (Nat.le_of_ble_eq_true rfl) ?_
      walk_at "z"
      refine w_small (Nat.le_of_ble_eq_true rfl) ?_
      walk_at "z"
      refine w_small (Nat.le_of_ble_eq_true rfl) ?_
      walk_at "z"
      refine pick_do n4 (by omega) (Nat.le_of_ble_eq_true rfl) (Nat.le_of_ble_eq_true rfl) fun d1 M5 hd1 n5 u5 => ?_
      have b1 := odd_is (show d1 ∈ oddL from hd1)
      have T5 := tbl_keep n4 u5 T4
      walk_at "z"
      refine w_small (Nat.le_of_ble_eq_true rfl) ?_
      walk_at "z"
      refine w_small (Nat.le_of_ble_eq_true rfl) ?_
      walk_at "z"
      refine w_small (Nat.le_of_ble_eq_true rfl) ?_
      walk_at "z"
      refine w_small (Nat.le_of_ble_eq_true rfl) ?_
      walk_at "z"
      refine w_small (Nat.le_of_ble_eq_true rfl) ?_
      walk_at "z"
      refine pick_do n5 (by omega) (Nat.le_of_ble_eq_true rfl) (Nat.le_of_ble_eq_true rfl) fun d2 M6 hd2 n6 u6 => ?_
      have b2 := bad_is (show d2 ∈ badL from hd2)
      have T6 := tbl_keep n5 u6 T5
      walk_at "z"
      refine heard_txt (l := .int 0) (i := .int 0) T6 rfl ?_ (fun E Q' M7 e => ?_)
      rotate_left
      · walk_at "z"
        exact of_odd b1.1 b1.2 e
      walk_at "z"
      refine w_small (Nat.le_of_ble_eq_true rfl) ?_
      refine w_ne (b := true) (by decide +kernel) ?_
      refine w_false ?_
      walk_at "z"
      refine heard_num (x := .str "value") T6 rfl ?_ (fun E Q' M7 e => ?_)
      rotate_left
      · walk_at "z"
        exact text_bad b2.1 b2.2 e
      walk_at "z"
      refine w_small (Nat.le_of_ble_eq_true rfl) ?_
      exact w_eq (b := true) (by decide +kernel) (k _)
end Z

set_option Elab.async false
set_option linter.all false
set_option maxRecDepth 100000
set_option maxHeartbeats 4000000
namespace Z
local macro_rules | `(tactic| walk_at "z at") => `(tactic| first | rfl | (simp only [atI, ixN, List.length_cons, List.length_nil, List.length_map]; rfl) | assumption)
local macro_rules | `(tactic| walk_at "z1") => `(tactic| first
  | with_reducible refine w_seq ?_ | with_reducible refine w_set ?_ | with_reducible refine w_ret ?_ | with_reducible refine w_if ?_ | with_reducible refine w_asg ?_ | with_reducible refine w_next ?_ | with_reducible refine w_setIx ?_ | with_reducible refine w_par ?_
  | ((with_reducible refine' w_var ?h ?_); (case h => exact rfl))
  | with_reducible refine w_c ?_ | with_reducible refine w_op ?_ | with_reducible refine w_un ?_ | with_reducible refine w_cons ?_ | with_reducible refine w_nil ?_ | with_reducible refine w_cb ?_
  | with_reducible refine w_call ?_ | with_reducible refine w_callK ?_ | with_reducible refine w_testB ?_ | with_reducible refine w_tru ?_ | with_reducible refine w_andD ?_ | with_reducible refine w_orD ?_ | with_reducible refine w_notD ?_
  | with_reducible refine w_andE ?_ | with_reducible refine w_orE ?_ | with_reducible refine w_notE ?_ | with_reducible refine w_ifE ?_ | with_reducible refine w_is ?_ | with_reducible refine w_isN ?_ | with_reducible refine w_notN ?_ | with_reducible refine w_tupOf ?_
  | with_reducible refine w_tup ?_ | with_reducible refine w_lst ?_ | with_reducible refine w_lstM ?_ | with_reducible refine w_sl ?_ | with_reducible refine w_part ?_ | with_reducible refine w_noPart ?_ | with_reducible refine w_repr ?_ | with_reducible refine w_seqI ?_
  | with_reducible refine w_rdI ?_ | with_reducible refine w_rdB ?_ | with_reducible refine w_rdAdd ?_ | with_reducible refine w_neg ?_ | with_reducible refine w_lenL ?_ | with_reducible refine w_lenT ?_ | with_reducible refine w_abs ?_ | with_reducible refine w_int ?_ | with_reducible refine w_intB ?_ | with_reducible refine w_gcd ?_
  | with_reducible refine w_gname ?_ | with_reducible refine w_gnil ?_ | with_reducible refine w_gcons ?_
  | with_reducible refine w_true ?_ | with_reducible refine w_false ?_
  | dsimp only [truthD, seqD, isNonD, permL, List.filterMap] | with_reducible refine w_drop ?_ | with_reducible refine w_retN ?_ | with_reducible refine w_nilP ?_ | with_reducible refine w_consP ?_ | with_reducible refine w_rng ?_ | with_reducible refine w_cont ?_ | with_reducible refine w_brk ?_)
local macro_rules | `(tactic| walk_at "z") => `(tactic| repeat walk_at "z1")
local macro_rules | `(tactic| walk_at "z1") => `(tactic| first | with_reducible refine w_slS ?_ | with_reducible refine w_m1 ?_)
open PySem L2
theorem len_numeral (AA : Ad) : ∀ ds M F E, sp_numeral AA ds M F E → ds.length = 1 := by
  rintro ds M F E (⟨_, e, _⟩ | ⟨_, _, _, e, _⟩) <;> rw [e] <;> rfl
theorem len_digits_of (AA : Ad) : ∀ ds M F E, sp_digits_of AA ds M F E → ds.length = 1 := fun ds M F E ⟨_, e, _⟩ => by rw [e]; rfl
theorem len_integer_text (AA : Ad) : ∀ ds M F E, sp_integer_text AA ds M F E → ds.length = 1 := fun ds M F E ⟨_, e, _⟩ => by rw [e]; rfl
theorem len_number_text (AA : Ad) : ∀ ds M F E, sp_number_text AA ds M F E → ds.length = 1 := fun ds M F E ⟨_, e, _⟩ => by rw [e]; rfl
theorem len_integer_in (AA : Ad) : ∀ ds M F E, sp_integer_in AA ds M F E → ds.length = 1 := fun ds M F E ⟨_, e, _⟩ => by rw [e]; rfl
theorem len_number_in (AA : Ad) : ∀ ds M F E, sp_number_in AA ds M F E → ds.length = 1 := fun ds M F E ⟨_, e, _⟩ => by rw [e]; rfl
theorem len_number_of (AA : Ad) : ∀ ds M F E, sp_number_of AA ds M F E → ds.length = 1 := fun ds M F E ⟨_, e, _⟩ => by rw [e]; rfl
theorem len__law_integer (AA : Ad) : ∀ ds M F E, sp__law_integer AA ds M F E → ds.length = 1 := fun ds M F E ⟨_, e, _⟩ => by rw [e]; rfl
theorem len__law_read (AA : Ad) : ∀ ds M F E, sp__law_read AA ds M F E → ds.length = 1 := fun ds M F E ⟨_, e, _⟩ => by rw [e]; rfl
theorem len__law_quill (AA : Ad) : ∀ ds M F E, spGrit ds M F E → ds.length = 1 := fun ds M F E ⟨_, e, _⟩ => by rw [e]; rfl
theorem len__law_scratch (AA : Ad) : ∀ ds M F E, spSieve ds M F E → ds.length = 2 := fun ds M F E ⟨_, _, _, e, ⟨_, e2, _⟩, _⟩ => by rw [e, e2]; rfl
theorem len__law_pick (AA : Ad) : ∀ ds M F E, spPick ds M F E → ds.length = 2 := fun ds M F E ⟨_, _, _, e, ⟨_, e2, _⟩, _⟩ => by rw [e, e2]; rfl
theorem len__law_low (AA : Ad) : ∀ ds M F E, sp__law_low AA ds M F E → ds.length = 2 := fun ds M F E ⟨_, _, e, _⟩ => by rw [e]; rfl
theorem len__law_told (AA : Ad) : ∀ ds M F E, sp__law_told AA ds M F E → ds.length = 1 := fun ds M F E ⟨_, _, e, _⟩ => by rw [e]; rfl
theorem len__law_number (AA : Ad) : ∀ ds M F E, sp__law_number AA ds M F E → ds.length = 1 := fun ds M F E ⟨_, _, _, e, e2, _⟩ => by rw [e, e2]; rfl
theorem len__law_bent (AA : Ad) : ∀ ds M F E, sp__law_bent AA ds M F E → ds.length = 2 := fun ds M F E ⟨_, _, _, e, ⟨_, e2, _⟩, _⟩ => by rw [e, e2]; rfl
section
open PySem.Spec
variable {P : Program} {w : World} {K : PySem.W.Frag} {mg : Str → Option Value} {base : Heap}
theorem ok_is_integer {AA : Ad} (T : Txt K mg AA) (TS : ∀ p ∈ AA.ts, LamX.TabB base mg p.1 p.2.1) : FnZ P w K mg base 1 AA.a_is_integer T.d_is_integer ["value"] (sp_is_integer AA) :=
  fnZ (k := 0) (t := (t_is_integer AA)) T.F_is_integer sc_is_integer (len_is_integer AA) (fun cdv A outer s H E hr hgd => by exact (pdb_one (pds_ret (pd_and (pd_isA (T := .int) T.n_isinstance (pd_var 0) (pe_tag T.n_int)) (pd_one (pd_not (pd_isA (T := .bool) T.n_isinstance (pd_var 0) (pe_tag T.n_bool)))))))) (wp_is_integer AA)
theorem ok_is_row_of {AA : Ad} (T : Txt K mg AA) (TS : ∀ p ∈ AA.ts, LamX.TabB base mg p.1 p.2.1) : FnZ P w K mg base 1 AA.a_is_row_of T.d_is_row_of ["value", "length"] (sp_is_row_of AA) :=
  fnZ (k := 0) (t := (t_is_row_of AA)) T.F_is_row_of sc_is_row_of (len_is_row_of AA) (fun cdv A outer s H E hr hgd => by exact (pdb_one (pds_ret (pd_and (pd_isA2 (T := .list) (T' := .tuple) T.n_isinstance (pd_var 0) (pe_tag T.n_list) (pe_tag T.n_tuple)) (pd_one (pd_eq (hrU hr) (pd_len T.n_len (pda_cons (pd_var 0) pda_nil)) (pd_var 1))))))) (wp_is_row_of AA)
theorem ok_digits_of {AA : Ad} (T : Txt K mg AA) (TS : ∀ p ∈ AA.ts, LamX.TabB base mg p.1 p.2.1) : FnZ P w K mg base 1 AA.a_digits_of T.d_digits_of ["value"] (sp_digits_of AA) :=
  fnZ (k := 0) (t := (t_digits_of AA)) T.F_digits_of sc_digits_of (len_digits_of AA) (fun cdv A outer s H E hr hgd => by exact (pdb_cons (pds_set (i := 1) (pd_pow pd_int pd_int) sc_digits_of.nd) (pdb_cons (pds_set (i := 2) (pd_lstM pda_nil) sc_digits_of.nd) (pdb_cons (pds_while (pdt_ge (pd_var 0) (pd_var 1)) (pdb_cons (pds_asg (pd_divmod T.n_divmod (pda_cons (pd_var 0) (pda_cons (pd_var 1) pda_nil))) (pdg_tup rfl (pdgs_cons (pdg_name (i := 0) sc_digits_of.nd) (pdgs_cons (pdg_name (i := 3) sc_digits_of.nd) pdgs_nil)))) (pdb_one (pds_expr (pd_append 2 (pd_zfill (pd_strI T.n_str (pda_cons (pd_var 3) pda_nil)) pd_int)))))) (pdb_cons (pds_expr (pd_append 2 (pd_strI T.n_str (pda_cons (pd_var 0) pda_nil)))) (pdb_one (pds_ret (pd_join pd_str (pd_revL (pd_var 2)))))))))) (wp_digits_of AA)
theorem ok_integer_in {AA : Ad} (T : Txt K mg AA) (TS : ∀ p ∈ AA.ts, LamX.TabB base mg p.1 p.2.1) : FnZ P w K mg base 1 AA.a_integer_in T.d_integer_in ["item"] (sp_integer_in AA) :=
  fnZ (k := 0) (t := (t_integer_in AA)) T.F_integer_in sc_integer_in (len_integer_in AA) (fun cdv A outer s H E hr hgd => by exact (pdb_cons (pds_set (i := 1) (pd_removeprefix (pd_var 0) pd_str) sc_integer_in.nd) (pdb_cons (pds_if (pdt_w (pdw_or (pdt_not (pdt_w (pdw_and (pdt_tru (pd_isascii (pd_var 1))) (pdw_and1 (pdt_tru (pd_isdigit (pd_var 1))))))) (pdw_or1 (pdt_gt (pd_lenS T.n_len (pda_cons (pd_var 1) pda_nil)) (pd_globI T.g_MOST_DIGITS))))) (pdb_one (pds_ret pd_non)) pdb_nil) (pdb_cons (pds_if (pdt_w (pdw_and (pdt_eq (hrU hr) (pd_ixS (pd_var 1) pd_int) pd_str) (pdw_and1 (pdt_ne (hrU hr) (pd_var 0) pd_str)))) (pdb_one (pds_ret pd_non)) pdb_nil) (pdb_one (pds_ret (pd_intS T.n_int (pda_cons (pd_var 0) pda_nil)))))))) (wp_integer_in AA)
theorem ok__law_quill {AA : Ad} (T : Txt K mg AA) (TS : ∀ p ∈ AA.ts, LamX.TabB base mg p.1 p.2.1) : FnZ P w K mg base 1 AA.a__law_quill T.d__law_quill ["_law_script"] spGrit :=
  fnZ (k := 0) (t := (t__law_quill AA)) T.F__law_quill sc__law_quill (len__law_quill AA) (fun cdv A outer s H E hr hgd => by exact (pdb_one (pds_ret (pd_lstM (pda_cons (pd_lc (own := [("_law_cell", 1)]) (gd := (gNameD 1)) rfl sc__law_quill.nd (pdi_seq (pd_slice (pd_var 0) pdo_none (pdo_some pd_int))) (blkOk_by (N := ["_law_script", "_law_cell"]) (sc := defScope s__law_quill) (by decide +kernel)) (fun _ _ _ _ _ => pg_name (i := 1) sc__law_quill.nd rfl (Or.inl rfl)) (tgt_name (by decide)) (fun _ _ _ _ _ => pdts_nil) (fun _ _ _ _ _ => (pd_int1 T.n_int (pda_cons (pd_var 1) pda_nil)))) (pda_cons pd_int (pda_cons pd_int pda_nil))))))) (wp__law_quill AA)
theorem ok__law_scratch {AA : Ad} (T : Txt K mg AA) (TS : ∀ p ∈ AA.ts, LamX.TabB base mg p.1 p.2.1) : FnZ P w K mg base 1 AA.a__law_scratch T.d__law_scratch ["_law_quill_here", "_law_many"] spSieve :=
  fnZ (k := 0) (t := (t__law_scratch AA)) T.F__law_scratch sc__law_scratch (len__law_scratch AA) (fun cdv A outer s H E hr hgd => by exact (pdb_cons (pds_if (pdt_gt (pd_ix (pd_var 0) pd_int) pd_int) (pdb_cons (pds_set (i := 2) (pd_int1 T.n_int (pda_cons (pd_ix (pd_var 0) pd_int) pda_nil)) sc__law_scratch.nd) (pdb_cons (pds_setix (pd_fdiv (pd_var 2) (pd_var 1)) (pd_var 0) pd_int) (pdb_one (pds_ret (pd_mod (pd_int1 T.n_int (pda_cons (pd_var 2) pda_nil)) (pd_var 1)))))) pdb_nil) (pdb_cons (pds_set (i := 3) (pd_ix (pd_var 0) pd_int) sc__law_scratch.nd) (pdb_cons (pds_setix (pd_addA (pd_var 3) pd_int) (pd_var 0) pd_int) (pdb_cons (pds_set (i := 4) (pd_addA (pd_mulA pd_int (pd_var 3)) pd_int) sc__law_scratch.nd) (pdb_cons (pds_if (pdt_ne (hrU hr) (pd_ix (pd_var 0) pd_int) (pd_lst pda_nil)) (pdb_one (pds_set (i := 4) (pd_ix (pd_ix (pd_var 0) pd_int) (pd_mod (pd_int1 T.n_int (pda_cons (pd_var 3) pda_nil)) (pd_len T.n_len (pda_cons (pd_ix (pd_var 0) pd_int) pda_nil)))) sc__law_scratch.nd)) pdb_nil) (pdb_cons (pds_if (pdt_w (pdw_and (pdt_lt (pd_var 3) (pd_len T.n_len (pda_cons (pd_ix (pd_var 0) pd_int) pda_nil))) (pdw_and1 (pdt_ge (pd_abs T.n_abs (pda_cons (pd_var 4) pda_nil)) (pd_pow pd_int pd_int))))) (pdb_cons (pds_set (i := 2) (pd_addA (pd_mulA pd_int (pd_sub (pd_abs T.n_abs (pda_cons (pd_int1 T.n_int (pda_cons (pd_var 4) pda_nil)) pda_nil)) (pd_pow pd_int pd_int))) (pd_int1 T.n_int (pda_cons (pd_lt (pd_var 4) pd_int) pda_nil))) sc__law_scratch.nd) (pdb_cons (pds_setix (pd_fdiv (pd_var 2) (pd_var 1)) (pd_var 0) pd_int) (pdb_one (pds_ret (pd_mod (pd_int1 T.n_int (pda_cons (pd_var 2) pda_nil)) (pd_var 1)))))) pdb_nil) (pdb_cons (pds_set (i := 5) (pd_mod (pd_int1 T.n_int (pda_cons (pd_pow (pd_addA (pd_addA (pd_mod (pd_int1 T.n_int (pda_cons (pd_var 4) pda_nil)) pd_int) (pd_mulA pd_int (pd_var 3))) pd_int) pd_int) pda_nil)) pd_int) sc__law_scratch.nd) (pdb_cons (pds_set (i := 5) (pd_mod (pd_int1 T.n_int (pda_cons (pd_pow (pd_addA (pd_addA (pd_mulA (pd_var 5) (pd_addA (pd_mulA pd_int (pd_var 3)) pd_int)) (pd_mulA (pd_mulA pd_int (pd_var 3)) (pd_var 3))) pd_int) pd_int) pda_nil)) pd_int) sc__law_scratch.nd) (pdb_one (pds_ret (pd_mod (pd_int1 T.n_int (pda_cons (pd_fdiv (pd_var 5) pd_int) pda_nil)) (pd_var 1))))))))))))) (wp__law_scratch AA)
theorem ok__law_low {AA : Ad} (T : Txt K mg AA) (TS : ∀ p ∈ AA.ts, LamX.TabB base mg p.1 p.2.1) : FnZ P w K mg base 1 AA.a__law_low T.d__law_low ["_law_above", "_law_below"] (sp__law_low AA) :=
  fnZ (k := 0) (t := (t__law_low AA)) T.F__law_low sc__law_low (len__law_low AA) (fun cdv A outer s H E hr hgd => by exact (pdb_cons (pds_par (i := 2) (j := 3) rfl sc__law_low.nd (pda_cons (pd_abs T.n_abs (pda_cons (pd_var 0) pda_nil)) (pda_cons (pd_abs T.n_abs (pda_cons (pd_var 1) pda_nil)) pda_nil))) (pdb_cons (pds_while (pdt_gt (pd_var 3) pd_int) (pdb_one (pds_par (i := 2) (j := 3) rfl sc__law_low.nd (pda_cons (pd_var 3) (pda_cons (pd_mod (pd_int1 T.n_int (pda_cons (pd_var 2) pda_nil)) (pd_var 3)) pda_nil))))) (pdb_cons (pds_set (i := 4) (pd_ifE (pdt_gt (pd_var 1) pd_int) pd_int (pd_neg pd_int)) sc__law_low.nd) (pdb_one (pds_ret (pd_tup (pda_cons (pd_fdiv (pd_mulA (pd_var 4) (pd_var 0)) (pd_var 2)) (pda_cons (pd_fdiv (pd_mulA (pd_var 4) (pd_var 1)) (pd_var 2)) pda_nil))))))))) (wp__law_low AA)
theorem ok__law_integer {AA : Ad} (T : Txt K mg AA) (TS : ∀ p ∈ AA.ts, LamX.TabB base mg p.1 p.2.1) : FnZ P w K mg base 1 AA.a__law_integer T.d__law_integer ["_law_text"] (sp__law_integer AA) :=
  fnZ (k := 0) (t := (t__law_integer AA)) T.F__law_integer sc__law_integer (len__law_integer AA) (fun cdv A outer s H E hr hgd => by exact (pdb_cons (pds_set (i := 1) (pd_ifE (pdt_eq (hrU hr) (pd_sliceS (pd_var 0) pdo_none (pdo_some pd_int)) pd_str) (pd_sliceS (pd_var 0) (pdo_some pd_int) pdo_none) (pd_var 0)) sc__law_integer.nd) (pdb_cons (pds_if (pdt_w (pdw_or (pdt_eq (hrU hr) (pd_var 1) pd_str) (pdw_or (pdt_gt (pd_lenS T.n_len (pda_cons (pd_var 1) pda_nil)) pd_int) (pdw_or1 (pdt_ne (hrU hr) (pd_lc (own := [("_law_sign", 2)]) (gd := (gNameD 2)) rfl sc__law_integer.nd (pdi_str (pd_var 1)) (blkOk_by (N := ["_law_text", "_law_figures", "_law_sign"]) (sc := defScope s__law_integer) (by decide +kernel)) (fun _ _ _ _ _ => pg_name (i := 2) sc__law_integer.nd rfl (Or.inl rfl)) (tgt_name (by decide)) (fun _ _ _ _ _ => (pdts_one (pdt_notIn (pd_var 2) pd_str))) (fun _ _ _ _ _ => (pd_var 2))) (pd_lst pda_nil)))))) (pdb_one (pds_ret pd_non)) pdb_nil) (pdb_one (pds_ret (pd_ifE (pdt_w (pdw_and (pdt_eq (hrU hr) (pd_ixS (pd_var 1) pd_int) pd_str) (pdw_and1 (pdt_ne (hrU hr) (pd_var 0) pd_str)))) pd_non (pd_intS T.n_int (pda_cons (pd_var 0) pda_nil)))))))) (wp__law_integer AA)
theorem okg__law_heard {AA : Ad} (T : Txt K mg AA) (TS : ∀ p ∈ AA.ts, LamX.TabB base mg p.1 p.2.1) : FnG P w K mg base 1 AA.a__law_heard T.d__law_heard "_law_heard" "_law_ask" ["_law_ask", "_law_found", "_law_caught", "error"] (defScope s__law_heard) (spg__law_heard AA) :=
  fnG (k := 0) (t := t__law_heard AA) T.F__law_heard sc__law_heard (fun cdv A outer s H E f_ tl_ hr hgd act => by exact (pdb_cons (pds_asg (pd_tup (pda_cons pd_non (pda_cons pd_non pda_nil))) (pdg_tup rfl (pdgs_cons (pdg_name (i := 1) sc__law_heard.nd) (pdgs_cons (pdg_name (i := 2) sc__law_heard.nd) pdgs_nil)))) (pdb_cons (pds_try_keep (i := 3) (j := 2) (ex := subV AA.all) (c := .ref AA.c_LaneError) rfl rfl rfl sc__law_heard.nd rfl rfl rfl rfl (by decide) ⟨rfl, by decide, .inl T.gc_LaneError⟩ (exm_all (fl := FL) T.xs T.b_LaneError T.h_LaneError T.t_LaneError) (pdb_one (pds_set (i := 1) (act _ _) sc__law_heard.nd)) (by decide) (by decide) rfl) (pdb_cons (pds_if (pdt_tru (pd_isX1 (fl := FL) T.xs (in_BadText AA) T.n_isinstance T.gc_BadText (pd_var 2))) (pdb_one (pds_ret (pd_lst (pda_cons pd_str (pda_cons (pd_fldA (f := "line") (fl := FL) T.xs (by decide) (pd_var 2)) (pda_cons (pd_fldA (f := "item") (fl := FL) T.xs (by decide) (pd_var 2)) pda_nil)))))) pdb_nil) (pdb_cons (pds_if (pdt_tru (pd_isX1 (fl := FL) T.xs (in_BadNumber AA) T.n_isinstance T.gc_BadNumber (pd_var 2))) (pdb_one (pds_ret (pd_lst (pda_cons pd_str (pda_cons (pd_fldA (f := "part") (fl := FL) T.xs (by decide) (pd_var 2)) pda_nil))))) pdb_nil) (pdb_one (pds_ret (pd_ifE (pdt_isN (pd_var 2)) (pd_var 1) (pd_lst (pda_cons pd_str pda_nil)))))))))) (wp__law_heard AA T.nd)
theorem ok_is_within {AA : Ad} (T : Txt K mg AA) (TS : ∀ p ∈ AA.ts, LamX.TabB base mg p.1 p.2.1) : FnZ P w K mg base 2 AA.a_is_within T.d_is_within ["value", "least", "most"] (sp_is_within AA) :=
  fnZ (k := 1) (t := (t_is_within AA)) T.F_is_within sc_is_within (len_is_within AA) (fun cdv A outer s H E hr hgd => by exact (pdb_cons (pds_if (pdt_not (pdt_tru (pd_callZ (ok_is_integer T TS) (hr.mono (by first | decide | omega)) hgd T.g_is_integer T.F_is_integer.kp (b_is_integer T) (pda_cons (pd_var 0) pda_nil)))) (pdb_one (pds_ret pd_bl)) pdb_nil) (pdb_one (pds_ret (pd_and (pd_or (pd_isN (pd_var 1)) (pd_one (pd_ge (pd_var 0) (pd_var 1)))) (pd_one (pd_or (pd_isN (pd_var 2)) (pd_one (pd_le (pd_var 0) (pd_var 2)))))))))) (wp_is_within AA)
theorem ok_integer_text {AA : Ad} (T : Txt K mg AA) (TS : ∀ p ∈ AA.ts, LamX.TabB base mg p.1 p.2.1) : FnZ P w K mg base 2 AA.a_integer_text T.d_integer_text ["value"] (sp_integer_text AA) :=
  fnZ (k := 1) (t := (t_integer_text AA)) T.F_integer_text sc_integer_text (len_integer_text AA) (fun cdv A outer s H E hr hgd => by exact (pdb_cons (pds_if (pdt_lt (pd_var 0) pd_int) (pdb_one (pds_ret (pd_addA pd_str (pd_callZ (ok_digits_of T TS) (hr.mono (by first | decide | omega)) hgd T.g_digits_of T.F_digits_of.kp (b_digits_of T) (pda_cons (pd_neg (pd_var 0)) pda_nil))))) pdb_nil) (pdb_one (pds_ret (pd_callZ (ok_digits_of T TS) (hr.mono (by first | decide | omega)) hgd T.g_digits_of T.F_digits_of.kp (b_digits_of T) (pda_cons (pd_var 0) pda_nil)))))) (wp_integer_text AA)
theorem ok_number_in {AA : Ad} (T : Txt K mg AA) (TS : ∀ p ∈ AA.ts, LamX.TabB base mg p.1 p.2.1) : FnZ P w K mg base 2 AA.a_number_in T.d_number_in ["item"] (sp_number_in AA) :=
  fnZ (k := 1) (t := (t_number_in AA)) T.F_number_in sc_number_in (len_number_in AA) (fun cdv A outer s H E hr hgd => by exact (pdb_cons (pds_asg (pd_partition (pd_var 0) pd_str) (pdg_tup rfl (pdgs_cons (pdg_name (i := 1) sc_number_in.nd) (pdgs_cons (pdg_name (i := 2) sc_number_in.nd) (pdgs_cons (pdg_name (i := 3) sc_number_in.nd) pdgs_nil))))) (pdb_cons (pds_set (i := 4) (pd_callZ (ok_integer_in T TS) (hr.mono (by first | decide | omega)) hgd T.g_integer_in T.F_integer_in.kp (b_integer_in T) (pda_cons (pd_var 1) pda_nil)) sc_number_in.nd) (pdb_cons (pds_if (pdt_w (pdw_or (pdt_eq (hrU hr) (pd_var 2) pd_str) (pdw_or1 (pdt_isN (pd_var 4))))) (pdb_one (pds_ret (pd_var 4))) pdb_nil) (pdb_cons (pds_set (i := 5) (pd_callZ (ok_integer_in T TS) (hr.mono (by first | decide | omega)) hgd T.g_integer_in T.F_integer_in.kp (b_integer_in T) (pda_cons (pd_var 3) pda_nil)) sc_number_in.nd) (pdb_cons (pds_if (pdt_w (pdw_or (pdt_isN (pd_var 5)) (pdw_or (pdt_lt (pd_var 5) pd_int) (pdw_or1 (pdt_ne (hrU hr) (pd_gcd T.n_gcd (pda_cons (pd_var 4) (pda_cons (pd_var 5) pda_nil))) pd_int))))) (pdb_one (pds_ret pd_non)) pdb_nil) (pdb_one (pds_ret (pd_tup (pda_cons (pd_var 4) (pda_cons (pd_var 5) pda_nil))))))))))) (wp_number_in AA)
theorem ok__law_pick {AA : Ad} (T : Txt K mg AA) (TS : ∀ p ∈ AA.ts, LamX.TabB base mg p.1 p.2.1) : FnZ P w K mg base 2 AA.a__law_pick T.d__law_pick ["_law_quill_here", "_law_some"] spPick :=
  fnZ (k := 1) (t := (t__law_pick AA)) T.F__law_pick sc__law_pick (len__law_pick AA) (fun cdv A outer s H E hr hgd => by exact (pdb_one (pds_ret (pd_ix (pd_var 1) (pd_callZ (ok__law_scratch T TS) (hr.mono (by first | decide | omega)) hgd T.g__law_scratch T.F__law_scratch.kp (b__law_scratch T) (pda_cons (pd_var 0) (pda_cons (pd_len T.n_len (pda_cons (pd_var 1) pda_nil)) pda_nil))))))) (wp__law_pick AA)
theorem ok__law_told {AA : Ad} (T : Txt K mg AA) (TS : ∀ p ∈ AA.ts, LamX.TabB base mg p.1 p.2.1) : FnZ P w K mg base 2 AA.a__law_told T.d__law_told ["_law_pair_here"] (sp__law_told AA) :=
  fnZ (k := 1) (t := (t__law_told AA)) T.F__law_told sc__law_told (len__law_told AA) (fun cdv A outer s H E hr hgd => by exact (pdb_cons (pds_asg (pd_callZ (ok__law_low T TS) (hr.mono (by first | decide | omega)) hgd T.g__law_low T.F__law_low.kp (b__law_low T) (pda_cons (pd_ix (pd_var 0) pd_int) (pda_cons (pd_ix (pd_var 0) pd_int) pda_nil))) (pdg_tup rfl (pdgs_cons (pdg_name (i := 1) sc__law_told.nd) (pdgs_cons (pdg_name (i := 2) sc__law_told.nd) pdgs_nil)))) (pdb_one (pds_ret (pd_ifE (pdt_eq (hrU hr) (pd_var 2) pd_int) (pd_var 1) (pd_tup (pda_cons (pd_var 1) (pda_cons (pd_var 2) pda_nil)))))))) (wp__law_told AA)
theorem ok__law_read {AA : Ad} (T : Txt K mg AA) (TS : ∀ p ∈ AA.ts, LamX.TabB base mg p.1 p.2.1) : FnZ P w K mg base 2 AA.a__law_read T.d__law_read ["_law_text"] (sp__law_read AA) :=
  fnZ (k := 1) (t := (t__law_read AA)) T.F__law_read sc__law_read (len__law_read AA) (fun cdv A outer s H E hr hgd => by exact (pdb_cons (pds_set (i := 1) (pd_split (pd_var 0) pd_str) sc__law_read.nd) (pdb_cons (pds_if (pdt_eq (hrU hr) (pd_len T.n_len (pda_cons (pd_var 1) pda_nil)) pd_int) (pdb_one (pds_ret (pd_callZ (ok__law_integer T TS) (hr.mono (by first | decide | omega)) hgd T.g__law_integer T.F__law_integer.kp (b__law_integer T) (pda_cons (pd_var 0) pda_nil)))) pdb_nil) (pdb_cons (pds_if (pdt_ne (hrU hr) (pd_len T.n_len (pda_cons (pd_var 1) pda_nil)) pd_int) (pdb_one (pds_ret pd_non)) pdb_nil) (pdb_cons (pds_par (i := 2) (j := 3) rfl sc__law_read.nd (pda_cons (pd_callZ (ok__law_integer T TS) (hr.mono (by first | decide | omega)) hgd T.g__law_integer T.F__law_integer.kp (b__law_integer T) (pda_cons (pd_ix (pd_var 1) pd_int) pda_nil)) (pda_cons (pd_callZ (ok__law_integer T TS) (hr.mono (by first | decide | omega)) hgd T.g__law_integer T.F__law_integer.kp (b__law_integer T) (pda_cons (pd_ix (pd_var 1) pd_int) pda_nil)) pda_nil))) (pdb_cons (pds_if (pdt_w (pdw_or (pdt_isN (pd_var 2)) (pdw_or (pdt_isN (pd_var 3)) (pdw_or1 (pdt_lt (pd_var 3) pd_int))))) (pdb_one (pds_ret pd_non)) pdb_nil) (pdb_one (pds_ret (pd_ifE (pdt_eq (hrU hr) (pd_callZ (ok__law_low T TS) (hr.mono (by first | decide | omega)) hgd T.g__law_low T.F__law_low.kp (b__law_low T) (pda_cons (pd_var 2) (pda_cons (pd_var 3) pda_nil))) (pd_tup (pda_cons (pd_var 2) (pda_cons (pd_var 3) pda_nil)))) (pd_tup (pda_cons (pd_var 2) (pda_cons (pd_var 3) pda_nil))) pd_non))))))))) (wp__law_read AA)
theorem ok_is_number {AA : Ad} (T : Txt K mg AA) (TS : ∀ p ∈ AA.ts, LamX.TabB base mg p.1 p.2.1) : FnZ P w K mg base 3 AA.a_is_number T.d_is_number ["value"] (sp_is_number AA) :=
  fnZ (k := 2) (t := (t_is_number AA)) T.F_is_number sc_is_number (len_is_number AA) (fun cdv A outer s H E hr hgd => by exact (pdb_cons (pds_if (pdt_not (pdt_tru (pd_callZ (ok_is_row_of T TS) (hr.mono (by first | decide | omega)) hgd T.g_is_row_of T.F_is_row_of.kp (b_is_row_of T) (pda_cons (pd_var 0) (pda_cons pd_int pda_nil))))) (pdb_one (pds_ret (pd_callZ (ok_is_integer T TS) (hr.mono (by first | decide | omega)) hgd T.g_is_integer T.F_is_integer.kp (b_is_integer T) (pda_cons (pd_var 0) pda_nil)))) pdb_nil) (pdb_cons (pds_asg (pd_var 0) (pdg_tup rfl (pdgs_cons (pdg_name (i := 1) sc_is_number.nd) (pdgs_cons (pdg_name (i := 2) sc_is_number.nd) pdgs_nil)))) (pdb_one (pds_ret (pd_and (pd_callZ (ok_is_integer T TS) (hr.mono (by first | decide | omega)) hgd T.g_is_integer T.F_is_integer.kp (b_is_integer T) (pda_cons (pd_var 1) pda_nil)) (pd_and (pd_callZ (ok_is_within T TS) (hr.mono (by first | decide | omega)) hgd T.g_is_within T.F_is_within.kp (b_is_within T) (pda_cons (pd_var 2) (pda_cons pd_int (pda_cons pd_non pda_nil)))) (pd_one (pd_eq (hrU hr) (pd_gcd T.n_gcd (pda_cons (pd_var 1) (pda_cons (pd_var 2) pda_nil))) pd_int))))))))) (wp_is_number AA)
theorem ok_numeral {AA : Ad} (T : Txt K mg AA) (TS : ∀ p ∈ AA.ts, LamX.TabB base mg p.1 p.2.1) : FnZ P w K mg base 3 AA.a_numeral T.d_numeral ["number"] (sp_numeral AA) :=
  fnZ (k := 2) (t := (t_numeral AA)) T.F_numeral sc_numeral (len_numeral AA) (fun cdv A outer s H E hr hgd => by exact (pdb_cons (pds_if (pdt_tru (pd_isA (T := .int) T.n_isinstance (pd_var 0) (pe_tag T.n_int))) (pdb_one (pds_ret (pd_callZ (ok_integer_text T TS) (hr.mono (by first | decide | omega)) hgd T.g_integer_text T.F_integer_text.kp (b_integer_text T) (pda_cons (pd_var 0) pda_nil)))) pdb_nil) (pdb_one (pds_ret (pd_addA (pd_addA (pd_callZ (ok_integer_text T TS) (hr.mono (by first | decide | omega)) hgd T.g_integer_text T.F_integer_text.kp (b_integer_text T) (pda_cons (pd_ix (pd_var 0) pd_int) pda_nil)) pd_str) (pd_callZ (ok_integer_text T TS) (hr.mono (by first | decide | omega)) hgd T.g_integer_text T.F_integer_text.kp (b_integer_text T) (pda_cons (pd_ix (pd_var 0) pd_int) pda_nil))))))) (wp_numeral AA)
theorem ok_number_of {AA : Ad} (T : Txt K mg AA) (TS : ∀ p ∈ AA.ts, LamX.TabB base mg p.1 p.2.1) : FnZ P w K mg base 3 AA.a_number_of T.d_number_of ["text"] (sp_number_of AA) :=
  fnZ (k := 2) (t := (t_number_of AA)) T.F_number_of sc_number_of (len_number_of AA) (fun cdv A outer s H E hr hgd => by exact (pdb_cons (pds_if (pdt_not (pdt_tru (pd_isA (T := .str) T.n_isinstance (pd_var 0) (pe_tag T.n_str)))) (pdb_one (pds_raise2 rfl ⟨T.x_BadText.k, T.iC_BadText, T.tI_BadText⟩ (init_BadText T) (hr.mono (by first | decide | omega)) (bi_BadText T) T.gc_BadText (pdn_cons pd_int (pdn_cons pd_int pdn_nil)))) pdb_nil) (pdb_cons (pds_set (i := 1) (pd_callZ (ok_number_in T TS) (hr.mono (by first | decide | omega)) hgd T.g_number_in T.F_number_in.kp (b_number_in T) (pda_cons (pd_var 0) pda_nil)) sc_number_of.nd) (pdb_cons (pds_if (pdt_isN (pd_var 1)) (pdb_one (pds_raise2 rfl ⟨T.x_BadText.k, T.iC_BadText, T.tI_BadText⟩ (init_BadText T) (hr.mono (by first | decide | omega)) (bi_BadText T) T.gc_BadText (pdn_cons pd_int (pdn_cons pd_int pdn_nil)))) pdb_nil) (pdb_one (pds_ret (pd_var 1))))))) (wp_number_of AA)
theorem ok__law_number {AA : Ad} (T : Txt K mg AA) (TS : ∀ p ∈ AA.ts, LamX.TabB base mg p.1 p.2.1) : FnZ P w K mg base 3 AA.a__law_number T.d__law_number ["_law_quill_here"] (sp__law_number AA) :=
  fnZ (k := 2) (t := (t__law_number AA)) T.F__law_number sc__law_number (len__law_number AA) (fun cdv A outer s H E hr hgd => by exact (pdb_cons (pds_set (i := 1) (pd_callZ (ok__law_pick T TS) (hr.mono (by first | decide | omega)) hgd T.g__law_pick T.F__law_pick.kp (b__law_pick T) (pda_cons (pd_var 0) (pda_cons (pd_lst (pda_cons pd_int (pda_cons pd_int (pda_cons (pd_pow pd_int pd_int) (pda_cons (pd_pow pd_int pd_int) pda_nil))))) pda_nil))) sc__law_number.nd) (pdb_one (pds_ret (pd_callZ (ok__law_low T TS) (hr.mono (by first | decide | omega)) hgd T.g__law_low T.F__law_low.kp (b__law_low T) (pda_cons (pd_mulA (pd_callZ (ok__law_scratch T TS) (hr.mono (by first | decide | omega)) hgd T.g__law_scratch T.F__law_scratch.kp (b__law_scratch T) (pda_cons (pd_var 0) (pda_cons (pd_var 1) pda_nil))) (pd_callZ (ok__law_pick T TS) (hr.mono (by first | decide | omega)) hgd T.g__law_pick T.F__law_pick.kp (b__law_pick T) (pda_cons (pd_var 0) (pda_cons (pd_lst (pda_cons pd_int (pda_cons (pd_neg pd_int) pda_nil))) pda_nil)))) (pda_cons (pd_addA pd_int (pd_callZ (ok__law_scratch T TS) (hr.mono (by first | decide | omega)) hgd T.g__law_scratch T.F__law_scratch.kp (b__law_scratch T) (pda_cons (pd_var 0) (pda_cons (pd_callZ (ok__law_pick T TS) (hr.mono (by first | decide | omega)) hgd T.g__law_pick T.F__law_pick.kp (b__law_pick T) (pda_cons (pd_var 0) (pda_cons (pd_lst (pda_cons pd_int (pda_cons pd_int (pda_cons (pd_min2 rfl T.n_min (pda_cons (pd_var 1) (pda_cons (pd_pow pd_int pd_int) pda_nil))) pda_nil)))) pda_nil))) pda_nil)))) pda_nil))))))) (wp__law_number AA)
theorem ok__law_bent {AA : Ad} (T : Txt K mg AA) (TS : ∀ p ∈ AA.ts, LamX.TabB base mg p.1 p.2.1) : FnZ P w K mg base 3 AA.a__law_bent T.d__law_bent ["_law_quill_here", "_law_text"] (sp__law_bent AA) :=
  fnZ (k := 2) (t := (t__law_bent AA)) T.F__law_bent sc__law_bent (len__law_bent AA) (fun cdv A outer s H E hr hgd => by exact (pdb_cons (pds_par (i := 2) (j := 3) rfl sc__law_bent.nd (pda_cons (pd_callZ (ok__law_scratch T TS) (hr.mono (by first | decide | omega)) hgd T.g__law_scratch T.F__law_scratch.kp (b__law_scratch T) (pda_cons (pd_var 0) (pda_cons (pd_addA (pd_lenS T.n_len (pda_cons (pd_var 1) pda_nil)) pd_int) pda_nil))) (pda_cons (pd_callZ (ok__law_scratch T TS) (hr.mono (by first | decide | omega)) hgd T.g__law_scratch T.F__law_scratch.kp (b__law_scratch T) (pda_cons (pd_var 0) (pda_cons pd_int pda_nil))) pda_nil))) (pdb_cons (pds_set (i := 4) (pd_callZ (ok__law_pick T TS) (hr.mono (by first | decide | omega)) hgd T.g__law_pick T.F__law_pick.kp (b__law_pick T) (pda_cons (pd_var 0) (pda_cons (pd_lst (pda_cons pd_str (pda_cons pd_str (pda_cons pd_str (pda_cons pd_str (pda_cons pd_str (pda_cons pd_str (pda_cons pd_str (pda_cons pd_str (pda_cons pd_str (pda_cons (pd_mulS pd_str pd_int) (pda_cons pd_str (pda_cons pd_str (pda_cons pd_str (pda_cons pd_str (pda_cons pd_str (pda_cons pd_str pda_nil))))))))))))))))) pda_nil))) sc__law_bent.nd) (pdb_cons (pds_if (pdt_eq (hrU hr) (pd_var 3) pd_int) (pdb_one (pds_ret (pd_addA (pd_addA (pd_sliceS (pd_var 1) pdo_none (pdo_some (pd_var 2))) (pd_var 4)) (pd_sliceS (pd_var 1) (pdo_some (pd_var 2)) pdo_none)))) pdb_nil) (pdb_cons (pds_if (pdt_eq (hrU hr) (pd_var 3) pd_int) (pdb_one (pds_ret (pd_addA (pd_sliceS (pd_var 1) pdo_none (pdo_some (pd_var 2))) (pd_sliceS (pd_var 1) (pdo_some (pd_addA (pd_var 2) pd_int)) pdo_none)))) pdb_nil) (pdb_one (pds_ret (pd_ifE (pdt_eq (hrU hr) (pd_var 3) pd_int) (pd_addA (pd_addA (pd_sliceS (pd_var 1) pdo_none (pdo_some (pd_var 2))) (pd_var 4)) (pd_sliceS (pd_var 1) (pdo_some (pd_addA (pd_var 2) pd_int)) pdo_none)) (pd_callZ (ok__law_pick T TS) (hr.mono (by first | decide | omega)) hgd T.g__law_pick T.F__law_pick.kp (b__law_pick T) (pda_cons (pd_var 0) (pda_cons (pd_lst (pda_cons pd_str (pda_cons pd_str (pda_cons pd_str (pda_cons pd_str (pda_cons pd_str (pda_cons pd_str (pda_cons pd_str (pda_cons pd_str (pda_cons pd_str (pda_cons pd_str (pda_cons pd_str (pda_cons pd_str (pda_cons pd_str (pda_cons pd_str (pda_cons (pd_addA (pd_mulS pd_str pd_int) pd_str) pda_nil)))))))))))))))) pda_nil))))))))))) (wp__law_bent AA)
theorem ok_number_text {AA : Ad} (T : Txt K mg AA) (TS : ∀ p ∈ AA.ts, LamX.TabB base mg p.1 p.2.1) : FnZ P w K mg base 4 AA.a_number_text T.d_number_text ["value"] (sp_number_text AA) :=
  fnZ (k := 3) (t := (t_number_text AA)) T.F_number_text sc_number_text (len_number_text AA) (fun cdv A outer s H E hr hgd => by exact (pdb_cons (pds_if (pdt_not (pdt_tru (pd_callZ (ok_is_number T TS) (hr.mono (by first | decide | omega)) hgd T.g_is_number T.F_is_number.kp (b_is_number T) (pda_cons (pd_var 0) pda_nil)))) (pdb_one (pds_raise1 rfl ⟨T.x_BadNumber.k, T.iC_BadNumber, T.tI_BadNumber⟩ (init_BadNumber T) (hr.mono (by first | decide | omega)) (bi_BadNumber T) T.gc_BadNumber (pdn_cons pd_str pdn_nil))) pdb_nil) (pdb_one (pds_ret (pd_callZ (ok_numeral T TS) (hr.mono (by first | decide | omega)) hgd T.g_numeral T.F_numeral.kp (b_numeral T) (pda_cons (pd_var 0) pda_nil)))))) (wp_number_text AA)
theorem ok_law {AA : Ad} (T : Txt K mg AA) (TS : ∀ p ∈ AA.ts, LamX.TabB base mg p.1 p.2.1) : FnZ P w K mg base 7 AA.a_law T.d_law ["_law_script"] (spLawT AA.ts) :=
  fnZc (k := 6) (t := (t_law AA)) T.F_law sc_law (len_law AA) (fun A outer s H E hr hgd => by exact (pdb_cons (pds_set (i := 1) (pd_callZ (ok__law_quill T TS) (hr.mono (by first | decide | omega)) hgd T.g__law_quill T.F__law_quill.kp (b__law_quill T) (pda_cons (pd_var 0) pda_nil)) sc_law.nd) (pdb_cons (pds_for rfl (pdi_rng1 T.n_range (pdn_cons pd_int pdn_nil)) (pdg_name (i := 2) sc_law.nd) (pdb_cons (pds_set (i := 3) (pd_callZ (ok__law_number T TS) (hr.mono (by first | decide | omega)) hgd T.g__law_number T.F__law_number.kp (b__law_number T) (pda_cons (pd_var 1) pda_nil)) sc_law.nd) (pdb_cons (pds_set (i := 4) (pd_callZ (ok__law_told T TS) (hr.mono (by first | decide | omega)) hgd T.g__law_told T.F__law_told.kp (b__law_told T) (pda_cons (pd_var 3) pda_nil)) sc_law.nd) (pdb_cons (pds_set (i := 5) (pd_ifE (pdt_eq (hrU hr) (pd_ix (pd_var 3) pd_int) pd_int) (pd_strI T.n_str (pda_cons (pd_ix (pd_var 3) pd_int) pda_nil)) (pd_fs (pd_ix (pd_var 3) pd_int) (pd_ix (pd_var 3) pd_int))) sc_law.nd) (pdb_cons (pds_if (pdt_ne (hrU hr) (pd_repr hgd (hrV hr) T.n_repr (pd_lst (pda_cons (pd_callZ (ok_number_text T TS) (hr.mono (by first | decide | omega)) hgd T.g_number_text T.F_number_text.kp (b_number_text T) (pda_cons (pd_var 4) pda_nil)) (pda_cons (pd_callKZ (ok_number_text T TS) (hr.mono (by first | decide | omega)) hgd T.g_number_text T.F_number_text.kp (bk_number_text_value T) (pdkn_cons (pd_var 4) pdkn_nil) rfl) (pda_cons (pd_callZ (ok_number_of T TS) (hr.mono (by first | decide | omega)) hgd T.g_number_of T.F_number_of.kp (b_number_of T) (pda_cons (pd_var 5) pda_nil)) (pda_cons (pd_callKZ (ok_number_of T TS) (hr.mono (by first | decide | omega)) hgd T.g_number_of T.F_number_of.kp (bk_number_of_text T) (pdkn_cons (pd_var 5) pdkn_nil) rfl) pda_nil)))))) (pd_repr hgd (hrV hr) T.n_repr (pd_lst (pda_cons (pd_var 5) (pda_cons (pd_var 5) (pda_cons (pd_var 4) (pda_cons (pd_var 4) pda_nil))))))) (pdb_one (pds_ret pd_bl)) pdb_nil) (pdb_one (pds_for rfl (pdi_rng1 T.n_range (pdn_cons pd_int pdn_nil)) (pdg_name (i := 6) sc_law.nd) (pdb_cons (pds_set (i := 7) (pd_callZ (ok__law_bent T TS) (hr.mono (by first | decide | omega)) hgd T.g__law_bent T.F__law_bent.kp (b__law_bent T) (pda_cons (pd_var 1) (pda_cons (pd_var 5) pda_nil))) sc_law.nd) (pdb_cons (pds_set (i := 8) (pd_callZ (ok__law_read T TS) (hr.mono (by first | decide | omega)) hgd T.g__law_read T.F__law_read.kp (b__law_read T) (pda_cons (pd_var 7) pda_nil)) sc_law.nd) (pdb_one (pds_if (pdt_ne (hrU hr) (pd_repr hgd (hrV hr) T.n_repr (pd_lamcall (k' := 3) (N := ["_law_bent_here"]) (own := []) (fr := ["_law_bent_here"]) (js := [7]) (o := none) (okg__law_heard T TS) (hr.mono (by first | decide | omega)) (hr.mono (by first | decide | omega)) hgd T.g__law_heard T.F__law_heard.kp (b__law_heard T) rfl (Or.inl rfl) (tb_law TS) rfl (.no rfl) (NdefX.nscope_by (by decide +kernel)) (.no fun _ _ _ _ => rfl) (NdefX.ndef_free (sc := defScope s_law) (fr := ["_law_bent_here"]) (by decide +kernel)) (NdefX.ndef_fr (sc := defScope s_law) (by decide +kernel)) rfl (fun f_ c_ A_ outer_ s_ H_ E_ hr hgd => by exact (pd_callZ (ok_number_of T TS) (hr.mono (by first | decide | omega)) hgd T.g_number_of T.F_number_of.kp (b_number_of T) (pda_cons (pd_var 0) pda_nil))))) (pd_repr hgd (hrV hr) T.n_repr (pd_ifE (pdt_isN (pd_var 8)) (pd_lst (pda_cons pd_str (pda_cons pd_int (pda_cons pd_int pda_nil)))) (pd_var 8)))) (pdb_one (pds_ret pd_bl)) pdb_nil))))))))))) (pdb_cons (pds_set (i := 9) (pd_addA (pd_mulA (pd_pow pd_int pd_int) (pd_addA pd_int (pd_callZ (ok__law_scratch T TS) (hr.mono (by first | decide | omega)) hgd T.g__law_scratch T.F__law_scratch.kp (b__law_scratch T) (pda_cons (pd_var 1) (pda_cons (pd_pow pd_int pd_int) pda_nil))))) (pd_callZ (ok__law_scratch T TS) (hr.mono (by first | decide | omega)) hgd T.g__law_scratch T.F__law_scratch.kp (b__law_scratch T) (pda_cons (pd_var 1) (pda_cons pd_int pda_nil)))) sc_law.nd) (pdb_cons (pds_for rfl (pdi_seq (pd_tup (pda_cons (pd_tup (pda_cons (pd_var 9) (pda_cons (pd_strI T.n_str (pda_cons (pd_var 9) pda_nil)) pda_nil))) (pda_cons (pd_tup (pda_cons (pd_tup (pda_cons (pd_neg pd_int) (pda_cons (pd_var 9) pda_nil))) (pda_cons (pd_addA pd_str (pd_strI T.n_str (pda_cons (pd_var 9) pda_nil))) pda_nil))) (pda_cons (pd_tup (pda_cons (pd_tup (pda_cons (pd_addA (pd_mulA pd_int (pd_var 9)) pd_int) (pda_cons pd_int pda_nil))) (pda_cons (pd_addA (pd_strI T.n_str (pda_cons (pd_addA (pd_mulA pd_int (pd_var 9)) pd_int) pda_nil)) pd_str) pda_nil))) pda_nil))))) (pdg_tup rfl (pdgs_cons (pdg_name (i := 4) sc_law.nd) (pdgs_cons (pdg_name (i := 5) sc_law.nd) pdgs_nil))) (pdb_one (pds_if (pdt_w (pdw_or (pdt_ne (hrU hr) (pd_callZ (ok_number_text T TS) (hr.mono (by first | decide | omega)) hgd T.g_number_text T.F_number_text.kp (b_number_text T) (pda_cons (pd_var 4) pda_nil)) (pd_var 5)) (pdw_or1 (pdt_ne (hrU hr) (pd_lamcall (k' := 3) (N := ["_law_text"]) (own := []) (fr := ["_law_text"]) (js := [5]) (o := none) (okg__law_heard T TS) (hr.mono (by first | decide | omega)) (hr.mono (by first | decide | omega)) hgd T.g__law_heard T.F__law_heard.kp (b__law_heard T) rfl (Or.inl rfl) (tb_law TS) rfl (.no rfl) (NdefX.nscope_by (by decide +kernel)) (.no fun _ _ _ _ => rfl) (NdefX.ndef_free (sc := defScope s_law) (fr := ["_law_text"]) (by decide +kernel)) (NdefX.ndef_fr (sc := defScope s_law) (by decide +kernel)) rfl (fun f_ c_ A_ outer_ s_ H_ E_ hr hgd => by exact (pd_callZ (ok_number_of T TS) (hr.mono (by first | decide | omega)) hgd T.g_number_of T.F_number_of.kp (b_number_of T) (pda_cons (pd_var 0) pda_nil)))) (pd_lst (pda_cons pd_str (pda_cons pd_int (pda_cons pd_int pda_nil)))))))) (pdb_one (pds_ret pd_bl)) pdb_nil))) (pdb_cons (pds_set (i := 10) (pd_callZ (ok__law_pick T TS) (hr.mono (by first | decide | omega)) hgd T.g__law_pick T.F__law_pick.kp (b__law_pick T) (pda_cons (pd_var 1) (pda_cons (pd_lst (pda_cons pd_non (pda_cons pd_int (pda_cons (pd_tup (pda_cons pd_int (pda_cons pd_int pda_nil))) (pda_cons pd_bl (pda_cons (pd_lst (pda_cons pd_str pda_nil)) (pda_cons pd_dict0 pda_nil))))))) pda_nil))) sc_law.nd) (pdb_cons (pds_set (i := 11) (pd_callZ (ok__law_pick T TS) (hr.mono (by first | decide | omega)) hgd T.g__law_pick T.F__law_pick.kp (b__law_pick T) (pda_cons (pd_var 1) (pda_cons (pd_lst (pda_cons pd_non (pda_cons pd_str (pda_cons (pd_tup (pda_cons pd_int (pda_cons pd_int pda_nil))) (pda_cons (pd_tup (pda_cons pd_int (pda_cons pd_int pda_nil))) (pda_cons pd_bl (pda_cons (pd_lst pda_nil) (pda_cons (pd_tup (pda_cons pd_int (pda_cons pd_int pda_nil))) pda_nil)))))))) pda_nil))) sc_law.nd) (pdb_cons (pds_if (pdt_ne (hrU hr) (pd_lamcall (k' := 3) (N := ["_law_odd"]) (own := []) (fr := ["_law_odd"]) (js := [10]) (o := none) (okg__law_heard T TS) (hr.mono (by first | decide | omega)) (hr.mono (by first | decide | omega)) hgd T.g__law_heard T.F__law_heard.kp (b__law_heard T) rfl (Or.inl rfl) (tb_law TS) rfl (.no rfl) (NdefX.nscope_by (by decide +kernel)) (.no fun _ _ _ _ => rfl) (NdefX.ndef_free (sc := defScope s_law) (fr := ["_law_odd"]) (by decide +kernel)) (NdefX.ndef_fr (sc := defScope s_law) (by decide +kernel)) rfl (fun f_ c_ A_ outer_ s_ H_ E_ hr hgd => by exact (pd_callZ (ok_number_of T TS) (hr.mono (by first | decide | omega)) hgd T.g_number_of T.F_number_of.kp (b_number_of T) (pda_cons (pd_var 0) pda_nil)))) (pd_lst (pda_cons pd_str (pda_cons pd_int (pda_cons pd_int pda_nil))))) (pdb_one (pds_ret pd_bl)) pdb_nil) (pdb_one (pds_ret (pd_eq (hrU hr) (pd_lamcall (k' := 4) (N := ["_law_bad"]) (own := []) (fr := ["_law_bad"]) (js := [11]) (o := none) (okg__law_heard T TS) (hr.mono (by first | decide | omega)) (hr.mono (by first | decide | omega)) hgd T.g__law_heard T.F__law_heard.kp (b__law_heard T) rfl (Or.inl rfl) (tb_law TS) rfl (.no rfl) (NdefX.nscope_by (by decide +kernel)) (.no fun _ _ _ _ => rfl) (NdefX.ndef_free (sc := defScope s_law) (fr := ["_law_bad"]) (by decide +kernel)) (NdefX.ndef_fr (sc := defScope s_law) (by decide +kernel)) rfl (fun f_ c_ A_ outer_ s_ H_ E_ hr hgd => by exact (pd_callZ (ok_number_text T TS) (hr.mono (by first | decide | omega)) hgd T.g_number_text T.F_number_text.kp (b_number_text T) (pda_cons (pd_var 0) pda_nil)))) (pd_lst (pda_cons pd_str (pda_cons pd_str pda_nil)))))))))))))) (wp_law AA)
end
theorem all_mk {P : Program} {w : World} {K : PySem.W.Frag} {h : Heap} {mg : Str → Option Value} {t_MOST_DIGITS : Tok} {q : Program} {k_law P_law : Addr} {ke_law : Value} {kd_law : Option Addr} {kv_law : Array Value} {ks_law : Array (Option Value)} {c_LaneError c_BadNumber c_BadText i_BadNumber i_BadText : Addr} {iod_BadNumber ian_BadNumber iod_BadText ian_BadText : Option Addr} {isl_BadNumber isl_BadText : Array (Option Value)} {ioc_BadNumber ikV_BadNumber idc_BadNumber ipm_BadNumber icd_BadNumber ict_BadNumber ioc_BadText ikV_BadText idc_BadText ipm_BadText icd_BadText ict_BadText : Value} {fa a_is_integer a_is_within a_is_row_of a_is_number a_digits_of a_integer_text a_numeral a_integer_in a_number_in a_number_text a_number_of a__law_quill a__law_scratch a__law_pick a__law_low a__law_told a__law_integer a__law_read a__law_number a__law_bent a__law_heard a_law : Addr} {od_is_integer an_is_integer od_is_within an_is_within od_is_row_of an_is_row_of od_is_number an_is_number od_digits_of an_digits_of od_integer_text an_integer_text od_numeral an_numeral od_integer_in an_integer_in od_number_in an_number_in od_number_text an_number_text od_number_of an_number_of od__law_quill an__law_quill od__law_scratch an__law_scratch od__law_pick an__law_pick od__law_low an__law_low od__law_told an__law_told od__law_integer an__law_integer od__law_read an__law_read od__law_number an__law_number od__law_bent an__law_bent od__law_heard an__law_heard od_law an_law : Option Addr} {sl_is_integer sl_is_within sl_is_row_of sl_is_number sl_digits_of sl_integer_text sl_numeral sl_integer_in sl_number_in sl_number_text sl_number_of sl__law_quill sl__law_scratch sl__law_pick sl__law_low sl__law_told sl__law_integer sl__law_read sl__law_number sl__law_bent sl__law_heard sl_law : Array (Option Value)} {oc_is_integer kV_is_integer dc_is_integer pm_is_integer cd_is_integer ct_is_integer oc_is_within kV_is_within dc_is_within pm_is_within cd_is_within ct_is_within oc_is_row_of kV_is_row_of dc_is_row_of pm_is_row_of cd_is_row_of ct_is_row_of oc_is_number kV_is_number dc_is_number pm_is_number cd_is_number ct_is_number oc_digits_of kV_digits_of dc_digits_of pm_digits_of cd_digits_of ct_digits_of oc_integer_text kV_integer_text dc_integer_text pm_integer_text cd_integer_text ct_integer_text oc_numeral kV_numeral dc_numeral pm_numeral cd_numeral ct_numeral oc_integer_in kV_integer_in dc_integer_in pm_integer_in cd_integer_in ct_integer_in oc_number_in kV_number_in dc_number_in pm_number_in cd_number_in ct_number_in oc_number_text kV_number_text dc_number_text pm_number_text cd_number_text ct_number_text oc_number_of kV_number_of dc_number_of pm_number_of cd_number_of ct_number_of oc__law_quill kV__law_quill dc__law_quill pm__law_quill cd__law_quill ct__law_quill oc__law_scratch kV__law_scratch dc__law_scratch pm__law_scratch cd__law_scratch ct__law_scratch oc__law_pick kV__law_pick dc__law_pick pm__law_pick cd__law_pick ct__law_pick oc__law_low kV__law_low dc__law_low pm__law_low cd__law_low ct__law_low oc__law_told kV__law_told dc__law_told pm__law_told cd__law_told ct__law_told oc__law_integer kV__law_integer dc__law_integer pm__law_integer cd__law_integer ct__law_integer oc__law_read kV__law_read dc__law_read pm__law_read cd__law_read ct__law_read oc__law_number kV__law_number dc__law_number pm__law_number cd__law_number ct__law_number oc__law_bent kV__law_bent dc__law_bent pm__law_bent cd__law_bent ct__law_bent oc__law_heard kV__law_heard dc__law_heard pm__law_heard cd__law_heard ct__law_heard oc_law kV_law dc_law pm_law ct_law : Value} (X : K.In h) (G : h.Ns mainGlobals mg)
    (hfa : mg "law" = some (.ref fa)) (own : ∀ (y : Str) (a : Addr), ((PyProof.Rows.recsOf q).any fun e => e.name == y) = true → mg y = some (.ref a) → LamX.OwnTab K a h)
    (gc_LaneError : PySem.W.nsIn K mainGlobals "LaneError" = some (some (.ref c_LaneError)))
    (gc_BadNumber : PySem.W.nsIn K mainGlobals "BadNumber" = some (some (.ref c_BadNumber)))
    (iC_BadNumber : PySem.W.findIn K (.ref c_BadNumber) "__init__" = some (some (.ref i_BadNumber))) (li_BadNumber : K.lookup i_BadNumber = some ⟨ioc_BadNumber, iod_BadNumber, .func (PySem.W.fnOf "__init__" "BadNumber.__init__" (defArgs si_BadNumber) (defBody si_BadNumber) (defScope si_BadNumber) .none ikV_BadNumber idc_BadNumber ipm_BadNumber ian_BadNumber icd_BadNumber ict_BadNumber), isl_BadNumber⟩) (ci_BadNumber : PySem.W.codeIn K icd_BadNumber "BadNumber.__init__" = true) (ki_BadNumber : PySem.W.keepIn K (.ref i_BadNumber) = true) (tI_BadNumber : PySem.W.typeIn K (.ref i_BadNumber) = some (.type "function"))
    (gc_BadText : PySem.W.nsIn K mainGlobals "BadText" = some (some (.ref c_BadText)))
    (iC_BadText : PySem.W.findIn K (.ref c_BadText) "__init__" = some (some (.ref i_BadText))) (li_BadText : K.lookup i_BadText = some ⟨ioc_BadText, iod_BadText, .func (PySem.W.fnOf "__init__" "BadText.__init__" (defArgs si_BadText) (defBody si_BadText) (defScope si_BadText) .none ikV_BadText idc_BadText ipm_BadText ian_BadText icd_BadText ict_BadText), isl_BadText⟩) (ci_BadText : PySem.W.codeIn K icd_BadText "BadText.__init__" = true) (ki_BadText : PySem.W.keepIn K (.ref i_BadText) = true) (tI_BadText : PySem.W.typeIn K (.ref i_BadText) = some (.type "function"))
    (b_LaneError : PySem.W.subIn K (.ref c_LaneError) (.type "BaseException") = some true) (h_LaneError : PySem.W.hasDictIn K c_LaneError = true) (t_LaneError : PySem.W.typeIn K (.ref c_LaneError) = some (.type "type"))
    (x_BadNumber : exB K c_LaneError c_BadNumber FL = true)
    (x_BadText : exB K c_LaneError c_BadText FL = true)
    (nd : [c_LaneError, c_BadNumber, c_BadText].Nodup)
    (g_is_integer : PySem.W.nsIn K mainGlobals "is_integer" = some (some (.ref a_is_integer))) (l_is_integer : K.lookup a_is_integer = some ⟨oc_is_integer, od_is_integer, .func (PySem.W.fnOf "is_integer" "is_integer" (defArgs s_is_integer) (defBody s_is_integer) (defScope s_is_integer) .none kV_is_integer dc_is_integer pm_is_integer an_is_integer cd_is_integer ct_is_integer), sl_is_integer⟩) (c_is_integer : PySem.W.codeIn K cd_is_integer "is_integer" = true) (kp_is_integer : PySem.W.keepIn K (.ref a_is_integer) = true)
    (g_is_within : PySem.W.nsIn K mainGlobals "is_within" = some (some (.ref a_is_within))) (l_is_within : K.lookup a_is_within = some ⟨oc_is_within, od_is_within, .func (PySem.W.fnOf "is_within" "is_within" (defArgs s_is_within) (defBody s_is_within) (defScope s_is_within) .none kV_is_within dc_is_within pm_is_within an_is_within cd_is_within ct_is_within), sl_is_within⟩) (c_is_within : PySem.W.codeIn K cd_is_within "is_within" = true) (kp_is_within : PySem.W.keepIn K (.ref a_is_within) = true)
    (g_is_row_of : PySem.W.nsIn K mainGlobals "is_row_of" = some (some (.ref a_is_row_of))) (l_is_row_of : K.lookup a_is_row_of = some ⟨oc_is_row_of, od_is_row_of, .func (PySem.W.fnOf "is_row_of" "is_row_of" (defArgs s_is_row_of) (defBody s_is_row_of) (defScope s_is_row_of) .none kV_is_row_of dc_is_row_of pm_is_row_of an_is_row_of cd_is_row_of ct_is_row_of), sl_is_row_of⟩) (c_is_row_of : PySem.W.codeIn K cd_is_row_of "is_row_of" = true) (kp_is_row_of : PySem.W.keepIn K (.ref a_is_row_of) = true)
    (g_is_number : PySem.W.nsIn K mainGlobals "is_number" = some (some (.ref a_is_number))) (l_is_number : K.lookup a_is_number = some ⟨oc_is_number, od_is_number, .func (PySem.W.fnOf "is_number" "is_number" (defArgs s_is_number) (defBody s_is_number) (defScope s_is_number) .none kV_is_number dc_is_number pm_is_number an_is_number cd_is_number ct_is_number), sl_is_number⟩) (c_is_number : PySem.W.codeIn K cd_is_number "is_number" = true) (kp_is_number : PySem.W.keepIn K (.ref a_is_number) = true)
    (g_digits_of : PySem.W.nsIn K mainGlobals "digits_of" = some (some (.ref a_digits_of))) (l_digits_of : K.lookup a_digits_of = some ⟨oc_digits_of, od_digits_of, .func (PySem.W.fnOf "digits_of" "digits_of" (defArgs s_digits_of) (defBody s_digits_of) (defScope s_digits_of) .none kV_digits_of dc_digits_of pm_digits_of an_digits_of cd_digits_of ct_digits_of), sl_digits_of⟩) (c_digits_of : PySem.W.codeIn K cd_digits_of "digits_of" = true) (kp_digits_of : PySem.W.keepIn K (.ref a_digits_of) = true)
    (g_integer_text : PySem.W.nsIn K mainGlobals "integer_text" = some (some (.ref a_integer_text))) (l_integer_text : K.lookup a_integer_text = some ⟨oc_integer_text, od_integer_text, .func (PySem.W.fnOf "integer_text" "integer_text" (defArgs s_integer_text) (defBody s_integer_text) (defScope s_integer_text) .none kV_integer_text dc_integer_text pm_integer_text an_integer_text cd_integer_text ct_integer_text), sl_integer_text⟩) (c_integer_text : PySem.W.codeIn K cd_integer_text "integer_text" = true) (kp_integer_text : PySem.W.keepIn K (.ref a_integer_text) = true)
    (g_numeral : PySem.W.nsIn K mainGlobals "numeral" = some (some (.ref a_numeral))) (l_numeral : K.lookup a_numeral = some ⟨oc_numeral, od_numeral, .func (PySem.W.fnOf "numeral" "numeral" (defArgs s_numeral) (defBody s_numeral) (defScope s_numeral) .none kV_numeral dc_numeral pm_numeral an_numeral cd_numeral ct_numeral), sl_numeral⟩) (c_numeral : PySem.W.codeIn K cd_numeral "numeral" = true) (kp_numeral : PySem.W.keepIn K (.ref a_numeral) = true)
    (g_integer_in : PySem.W.nsIn K mainGlobals "integer_in" = some (some (.ref a_integer_in))) (l_integer_in : K.lookup a_integer_in = some ⟨oc_integer_in, od_integer_in, .func (PySem.W.fnOf "integer_in" "integer_in" (defArgs s_integer_in) (defBody s_integer_in) (defScope s_integer_in) .none kV_integer_in dc_integer_in pm_integer_in an_integer_in cd_integer_in ct_integer_in), sl_integer_in⟩) (c_integer_in : PySem.W.codeIn K cd_integer_in "integer_in" = true) (kp_integer_in : PySem.W.keepIn K (.ref a_integer_in) = true)
    (g_number_in : PySem.W.nsIn K mainGlobals "number_in" = some (some (.ref a_number_in))) (l_number_in : K.lookup a_number_in = some ⟨oc_number_in, od_number_in, .func (PySem.W.fnOf "number_in" "number_in" (defArgs s_number_in) (defBody s_number_in) (defScope s_number_in) .none kV_number_in dc_number_in pm_number_in an_number_in cd_number_in ct_number_in), sl_number_in⟩) (c_number_in : PySem.W.codeIn K cd_number_in "number_in" = true) (kp_number_in : PySem.W.keepIn K (.ref a_number_in) = true)
    (g_number_text : PySem.W.nsIn K mainGlobals "number_text" = some (some (.ref a_number_text))) (l_number_text : K.lookup a_number_text = some ⟨oc_number_text, od_number_text, .func (PySem.W.fnOf "number_text" "number_text" (defArgs s_number_text) (defBody s_number_text) (defScope s_number_text) .none kV_number_text dc_number_text pm_number_text an_number_text cd_number_text ct_number_text), sl_number_text⟩) (c_number_text : PySem.W.codeIn K cd_number_text "number_text" = true) (kp_number_text : PySem.W.keepIn K (.ref a_number_text) = true)
    (g_number_of : PySem.W.nsIn K mainGlobals "number_of" = some (some (.ref a_number_of))) (l_number_of : K.lookup a_number_of = some ⟨oc_number_of, od_number_of, .func (PySem.W.fnOf "number_of" "number_of" (defArgs s_number_of) (defBody s_number_of) (defScope s_number_of) .none kV_number_of dc_number_of pm_number_of an_number_of cd_number_of ct_number_of), sl_number_of⟩) (c_number_of : PySem.W.codeIn K cd_number_of "number_of" = true) (kp_number_of : PySem.W.keepIn K (.ref a_number_of) = true)
    (g__law_quill : PySem.W.nsIn K mainGlobals "_law_quill" = some (some (.ref a__law_quill))) (l__law_quill : K.lookup a__law_quill = some ⟨oc__law_quill, od__law_quill, .func (PySem.W.fnOf "_law_quill" "_law_quill" (defArgs s__law_quill) (defBody s__law_quill) (defScope s__law_quill) .none kV__law_quill dc__law_quill pm__law_quill an__law_quill cd__law_quill ct__law_quill), sl__law_quill⟩) (c__law_quill : PySem.W.codeIn K cd__law_quill "_law_quill" = true) (kp__law_quill : PySem.W.keepIn K (.ref a__law_quill) = true)
    (g__law_scratch : PySem.W.nsIn K mainGlobals "_law_scratch" = some (some (.ref a__law_scratch))) (l__law_scratch : K.lookup a__law_scratch = some ⟨oc__law_scratch, od__law_scratch, .func (PySem.W.fnOf "_law_scratch" "_law_scratch" (defArgs s__law_scratch) (defBody s__law_scratch) (defScope s__law_scratch) .none kV__law_scratch dc__law_scratch pm__law_scratch an__law_scratch cd__law_scratch ct__law_scratch), sl__law_scratch⟩) (c__law_scratch : PySem.W.codeIn K cd__law_scratch "_law_scratch" = true) (kp__law_scratch : PySem.W.keepIn K (.ref a__law_scratch) = true)
    (g__law_pick : PySem.W.nsIn K mainGlobals "_law_pick" = some (some (.ref a__law_pick))) (l__law_pick : K.lookup a__law_pick = some ⟨oc__law_pick, od__law_pick, .func (PySem.W.fnOf "_law_pick" "_law_pick" (defArgs s__law_pick) (defBody s__law_pick) (defScope s__law_pick) .none kV__law_pick dc__law_pick pm__law_pick an__law_pick cd__law_pick ct__law_pick), sl__law_pick⟩) (c__law_pick : PySem.W.codeIn K cd__law_pick "_law_pick" = true) (kp__law_pick : PySem.W.keepIn K (.ref a__law_pick) = true)
    (g__law_low : PySem.W.nsIn K mainGlobals "_law_low" = some (some (.ref a__law_low))) (l__law_low : K.lookup a__law_low = some ⟨oc__law_low, od__law_low, .func (PySem.W.fnOf "_law_low" "_law_low" (defArgs s__law_low) (defBody s__law_low) (defScope s__law_low) .none kV__law_low dc__law_low pm__law_low an__law_low cd__law_low ct__law_low), sl__law_low⟩) (c__law_low : PySem.W.codeIn K cd__law_low "_law_low" = true) (kp__law_low : PySem.W.keepIn K (.ref a__law_low) = true)
    (g__law_told : PySem.W.nsIn K mainGlobals "_law_told" = some (some (.ref a__law_told))) (l__law_told : K.lookup a__law_told = some ⟨oc__law_told, od__law_told, .func (PySem.W.fnOf "_law_told" "_law_told" (defArgs s__law_told) (defBody s__law_told) (defScope s__law_told) .none kV__law_told dc__law_told pm__law_told an__law_told cd__law_told ct__law_told), sl__law_told⟩) (c__law_told : PySem.W.codeIn K cd__law_told "_law_told" = true) (kp__law_told : PySem.W.keepIn K (.ref a__law_told) = true)
    (g__law_integer : PySem.W.nsIn K mainGlobals "_law_integer" = some (some (.ref a__law_integer))) (l__law_integer : K.lookup a__law_integer = some ⟨oc__law_integer, od__law_integer, .func (PySem.W.fnOf "_law_integer" "_law_integer" (defArgs s__law_integer) (defBody s__law_integer) (defScope s__law_integer) .none kV__law_integer dc__law_integer pm__law_integer an__law_integer cd__law_integer ct__law_integer), sl__law_integer⟩) (c__law_integer : PySem.W.codeIn K cd__law_integer "_law_integer" = true) (kp__law_integer : PySem.W.keepIn K (.ref a__law_integer) = true)
    (g__law_read : PySem.W.nsIn K mainGlobals "_law_read" = some (some (.ref a__law_read))) (l__law_read : K.lookup a__law_read = some ⟨oc__law_read, od__law_read, .func (PySem.W.fnOf "_law_read" "_law_read" (defArgs s__law_read) (defBody s__law_read) (defScope s__law_read) .none kV__law_read dc__law_read pm__law_read an__law_read cd__law_read ct__law_read), sl__law_read⟩) (c__law_read : PySem.W.codeIn K cd__law_read "_law_read" = true) (kp__law_read : PySem.W.keepIn K (.ref a__law_read) = true)
    (g__law_number : PySem.W.nsIn K mainGlobals "_law_number" = some (some (.ref a__law_number))) (l__law_number : K.lookup a__law_number = some ⟨oc__law_number, od__law_number, .func (PySem.W.fnOf "_law_number" "_law_number" (defArgs s__law_number) (defBody s__law_number) (defScope s__law_number) .none kV__law_number dc__law_number pm__law_number an__law_number cd__law_number ct__law_number), sl__law_number⟩) (c__law_number : PySem.W.codeIn K cd__law_number "_law_number" = true) (kp__law_number : PySem.W.keepIn K (.ref a__law_number) = true)
    (g__law_bent : PySem.W.nsIn K mainGlobals "_law_bent" = some (some (.ref a__law_bent))) (l__law_bent : K.lookup a__law_bent = some ⟨oc__law_bent, od__law_bent, .func (PySem.W.fnOf "_law_bent" "_law_bent" (defArgs s__law_bent) (defBody s__law_bent) (defScope s__law_bent) .none kV__law_bent dc__law_bent pm__law_bent an__law_bent cd__law_bent ct__law_bent), sl__law_bent⟩) (c__law_bent : PySem.W.codeIn K cd__law_bent "_law_bent" = true) (kp__law_bent : PySem.W.keepIn K (.ref a__law_bent) = true)
    (g__law_heard : PySem.W.nsIn K mainGlobals "_law_heard" = some (some (.ref a__law_heard))) (l__law_heard : K.lookup a__law_heard = some ⟨oc__law_heard, od__law_heard, .func (PySem.W.fnOf "_law_heard" "_law_heard" (defArgs s__law_heard) (defBody s__law_heard) (defScope s__law_heard) .none kV__law_heard dc__law_heard pm__law_heard an__law_heard cd__law_heard ct__law_heard), sl__law_heard⟩) (c__law_heard : PySem.W.codeIn K cd__law_heard "_law_heard" = true) (kp__law_heard : PySem.W.keepIn K (.ref a__law_heard) = true)
    (g_law : PySem.W.nsIn K mainGlobals "law" = some (some (.ref a_law))) (l_law : K.lookup a_law = some ⟨oc_law, od_law, .func (PySem.W.fnOf "law" "law" (defArgs s_law) (defBody s_law) (defScope s_law) .none kV_law dc_law pm_law an_law (.ref k_law) ct_law), sl_law⟩) (c_law : PySem.W.codeIn K (.ref k_law) "law" = true) (kp_law : PySem.W.keepIn K (.ref a_law) = true)
    (lk_law : K.lookup k_law = some ⟨ke_law, kd_law, .fields kv_law, ks_law⟩) (lp_law : kv_law[11]? = some (.ref P_law)) (hd_law : PySem.W.codeHdIn K k_law P_law = true) (np_law : K.lookup P_law = none) (rc_law : ((PyProof.Rows.recsOf q).any fun e => e.name == "law") = true)
    (g_MOST_DIGITS : PySem.W.nsIn K mainGlobals "MOST_DIGITS" = some (some (.int 60 t_MOST_DIGITS)))
    (ndt : [P_law].Nodup)
    (n_abs : PySem.W.nsIn K mainGlobals "abs" = some none)
    (n_bool : PySem.W.nsIn K mainGlobals "bool" = some none)
    (n_divmod : PySem.W.nsIn K mainGlobals "divmod" = some none)
    (n_gcd : PySem.W.nsIn K mainGlobals "gcd" = some (some (.builtin "math.gcd")))
    (n_int : PySem.W.nsIn K mainGlobals "int" = some none)
    (n_isinstance : PySem.W.nsIn K mainGlobals "isinstance" = some none)
    (n_len : PySem.W.nsIn K mainGlobals "len" = some none)
    (n_list : PySem.W.nsIn K mainGlobals "list" = some none)
    (n_min : PySem.W.nsIn K mainGlobals "min" = some none)
    (n_range : PySem.W.nsIn K mainGlobals "range" = some none)
    (n_repr : PySem.W.nsIn K mainGlobals "repr" = some none)
    (n_str : PySem.W.nsIn K mainGlobals "str" = some none)
    (n_tuple : PySem.W.nsIn K mainGlobals "tuple" = some none) :
    ∃ (fd : FuncData) (ts : List Tb), (∀ p ∈ ts, h.get? p.2.1 = some (tabO #[])) ∧ (∀ p ∈ ts, K.lookup p.2.1 = none) ∧ (∀ p ∈ ts, PySem.W.CodeHd h p.1 p.2.1) ∧ (∀ (s : Shared) (v : Value), BindsTo s fd ⟨[v], []⟩ [("_law_script", v)]) ∧
      ∀ base : Heap, K.In base → base.Ns mainGlobals mg → (∀ p ∈ ts, LamX.TabB base mg p.1 p.2.1) → FnZ P w K mg base 7 fa fd ["_law_script"] (spLawT ts) := by
  have e := hfa.symm.trans (PySem.W.mg_of X G g_law)
  cases e
  let AA : Ad := ⟨c_LaneError, c_BadNumber, c_BadText, a_is_integer, a_is_within, a_is_row_of, a_is_number, a_digits_of, a_integer_text, a_numeral, a_integer_in, a_number_in, a_number_text, a_number_of, a__law_quill, a__law_scratch, a__law_pick, a__law_low, a__law_told, a__law_integer, a__law_read, a__law_number, a__law_bent, a__law_heard, fa, k_law, P_law⟩
  let T : Txt K mg AA := { gc_LaneError := PySem.W.mg_of X G gc_LaneError, gc_BadNumber := PySem.W.mg_of X G gc_BadNumber, i_BadNumber := i_BadNumber, e_BadNumber := _, F_BadNumber := fun_mk (st := si_BadNumber) li_BadNumber ci_BadNumber ki_BadNumber, iC_BadNumber := iC_BadNumber, tI_BadNumber := tI_BadNumber, gc_BadText := PySem.W.mg_of X G gc_BadText, i_BadText := i_BadText, e_BadText := _, F_BadText := fun_mk (st := si_BadText) li_BadText ci_BadText ki_BadText, iC_BadText := iC_BadText, tI_BadText := tI_BadText, b_LaneError := b_LaneError, h_LaneError := h_LaneError, t_LaneError := t_LaneError, x_BadNumber := exB_ok x_BadNumber, x_BadText := exB_ok x_BadText, nd := nd, d_is_integer := _, F_is_integer := fun_mk (st := s_is_integer) l_is_integer c_is_integer kp_is_integer, g_is_integer := PySem.W.mg_of X G g_is_integer, d_is_within := _, F_is_within := fun_mk (st := s_is_within) l_is_within c_is_within kp_is_within, g_is_within := PySem.W.mg_of X G g_is_within, d_is_row_of := _, F_is_row_of := fun_mk (st := s_is_row_of) l_is_row_of c_is_row_of kp_is_row_of, g_is_row_of := PySem.W.mg_of X G g_is_row_of, d_is_number := _, F_is_number := fun_mk (st := s_is_number) l_is_number c_is_number kp_is_number, g_is_number := PySem.W.mg_of X G g_is_number, d_digits_of := _, F_digits_of := fun_mk (st := s_digits_of) l_digits_of c_digits_of kp_digits_of, g_digits_of := PySem.W.mg_of X G g_digits_of, d_integer_text := _, F_integer_text := fun_mk (st := s_integer_text) l_integer_text c_integer_text kp_integer_text, g_integer_text := PySem.W.mg_of X G g_integer_text, d_numeral := _, F_numeral := fun_mk (st := s_numeral) l_numeral c_numeral kp_numeral, g_numeral := PySem.W.mg_of X G g_numeral, d_integer_in := _, F_integer_in := fun_mk (st := s_integer_in) l_integer_in c_integer_in kp_integer_in, g_integer_in := PySem.W.mg_of X G g_integer_in, d_number_in := _, F_number_in := fun_mk (st := s_number_in) l_number_in c_number_in kp_number_in, g_number_in := PySem.W.mg_of X G g_number_in, d_number_text := _, F_number_text := fun_mk (st := s_number_text) l_number_text c_number_text kp_number_text, g_number_text := PySem.W.mg_of X G g_number_text, d_number_of := _, F_number_of := fun_mk (st := s_number_of) l_number_of c_number_of kp_number_of, g_number_of := PySem.W.mg_of X G g_number_of, d__law_quill := _, F__law_quill := fun_mk (st := s__law_quill) l__law_quill c__law_quill kp__law_quill, g__law_quill := PySem.W.mg_of X G g__law_quill, d__law_scratch := _, F__law_scratch := fun_mk (st := s__law_scratch) l__law_scratch c__law_scratch kp__law_scratch, g__law_scratch := PySem.W.mg_of X G g__law_scratch, d__law_pick := _, F__law_pick := fun_mk (st := s__law_pick) l__law_pick c__law_pick kp__law_pick, g__law_pick := PySem.W.mg_of X G g__law_pick, d__law_low := _, F__law_low := fun_mk (st := s__law_low) l__law_low c__law_low kp__law_low, g__law_low := PySem.W.mg_of X G g__law_low, d__law_told := _, F__law_told := fun_mk (st := s__law_told) l__law_told c__law_told kp__law_told, g__law_told := PySem.W.mg_of X G g__law_told, d__law_integer := _, F__law_integer := fun_mk (st := s__law_integer) l__law_integer c__law_integer kp__law_integer, g__law_integer := PySem.W.mg_of X G g__law_integer, d__law_read := _, F__law_read := fun_mk (st := s__law_read) l__law_read c__law_read kp__law_read, g__law_read := PySem.W.mg_of X G g__law_read, d__law_number := _, F__law_number := fun_mk (st := s__law_number) l__law_number c__law_number kp__law_number, g__law_number := PySem.W.mg_of X G g__law_number, d__law_bent := _, F__law_bent := fun_mk (st := s__law_bent) l__law_bent c__law_bent kp__law_bent, g__law_bent := PySem.W.mg_of X G g__law_bent, d__law_heard := _, F__law_heard := fun_mk (st := s__law_heard) l__law_heard c__law_heard kp__law_heard, g__law_heard := PySem.W.mg_of X G g__law_heard, d_law := _, F_law := ⟨⟨_, _, _, _, _, _, _, _, rfl, l_law, c_law⟩, kp_law⟩, g_law := PySem.W.mg_of X G g_law, t_MOST_DIGITS := t_MOST_DIGITS, g_MOST_DIGITS := PySem.W.mg_of X G g_MOST_DIGITS, ndt := ndt, n_abs := PySem.W.mg_none_of X G n_abs, n_bool := PySem.W.mg_none_of X G n_bool, n_divmod := PySem.W.mg_none_of X G n_divmod, n_gcd := PySem.W.mg_of X G n_gcd, n_int := PySem.W.mg_none_of X G n_int, n_isinstance := PySem.W.mg_none_of X G n_isinstance, n_len := PySem.W.mg_none_of X G n_len, n_list := PySem.W.mg_none_of X G n_list, n_min := PySem.W.mg_none_of X G n_min, n_range := PySem.W.mg_none_of X G n_range, n_repr := PySem.W.mg_none_of X G n_repr, n_str := PySem.W.mg_none_of X G n_str, n_tuple := PySem.W.mg_none_of X G n_tuple }
  exact ⟨T.d_law, AA.ts, List.forall_mem_cons.mpr ⟨own "law" _ rc_law (PySem.W.mg_of X G g_law) k_law P_law _ _ _ _ _ _ l_law rfl rfl lk_law lp_law, fun _ z => absurd z List.not_mem_nil⟩, List.forall_mem_cons.mpr ⟨np_law, fun _ z => absurd z List.not_mem_nil⟩, List.forall_mem_cons.mpr ⟨PySem.W.codeHd_of_K X hd_law, fun _ z => absurd z List.not_mem_nil⟩, fun s v => .of_eq rfl, fun base _ _ TS => ok_law T TS⟩
end Z
open PySem PySem.W PyProof.Rows in
set_option maxRecDepth 100000 in
set_option maxHeartbeats 0 in
theorem PySem.Challenge.cw_lanecross_k04_numbers_written_and_read_holds : PySem.Challenge.rw_lanecross_k04_numbers_written_and_read.Holds := by
  w_on; o_law; k_head; (case hw => w_witness2)
  k_fill
  refine Z.walkZT (l := PySem.Challenge.rw_lanecross_k04_numbers_written_and_read) (k := 7) (x := "_law_script") rfl rfl ⟨rfl, by decide, by decide⟩ (fun w h Y => PySem.W.km_in_of Y) ?F
  case F =>
    intro w mg fa h KX G hmg own
    refine' Z.all_mk KX G hmg own ?gc_LaneError ?gc_BadNumber ?iC_BadNumber ?li_BadNumber ?ci_BadNumber ?ki_BadNumber ?tI_BadNumber ?gc_BadText ?iC_BadText ?li_BadText ?ci_BadText ?ki_BadText ?tI_BadText ?b_LaneError ?h_LaneError ?t_LaneError ?x_BadNumber ?x_BadText ?nd ?g_is_integer ?l_is_integer ?c_is_integer ?kp_is_integer ?g_is_within ?l_is_within ?c_is_within ?kp_is_within ?g_is_row_of ?l_is_row_of ?c_is_row_of ?kp_is_row_of ?g_is_number ?l_is_number ?c_is_number ?kp_is_number ?g_digits_of ?l_digits_of ?c_digits_of ?kp_digits_of ?g_integer_text ?l_integer_text ?c_integer_text ?kp_integer_text ?g_numeral ?l_numeral ?c_numeral ?kp_numeral ?g_integer_in ?l_integer_in ?c_integer_in ?kp_integer_in ?g_number_in ?l_number_in ?c_number_in ?kp_number_in ?g_number_text ?l_number_text ?c_number_text ?kp_number_text ?g_number_of ?l_number_of ?c_number_of ?kp_number_of ?g__law_quill ?l__law_quill ?c__law_quill ?kp__law_quill ?g__law_scratch ?l__law_scratch ?c__law_scratch ?kp__law_scratch ?g__law_pick ?l__law_pick ?c__law_pick ?kp__law_pick ?g__law_low ?l__law_low ?c__law_low ?kp__law_low ?g__law_told ?l__law_told ?c__law_told ?kp__law_told ?g__law_integer ?l__law_integer ?c__law_integer ?kp__law_integer ?g__law_read ?l__law_read ?c__law_read ?kp__law_read ?g__law_number ?l__law_number ?c__law_number ?kp__law_number ?g__law_bent ?l__law_bent ?c__law_bent ?kp__law_bent ?g__law_heard ?l__law_heard ?c__law_heard ?kp__law_heard ?g_law ?l_law ?c_law ?kp_law ?lk_law ?lp_law ?hd_law ?np_law ?rc_law ?g_MOST_DIGITS ?ndt ?n_abs ?n_bool ?n_divmod ?n_gcd ?n_int ?n_isinstance ?n_len ?n_list ?n_min ?n_range ?n_repr ?n_str ?n_tuple
    (case gc_LaneError => k_is)
    (case gc_BadNumber => k_is)
    (case iC_BadNumber => k_is)
    (case li_BadNumber => k_is)
    (case ci_BadNumber => k_is)
    (case ki_BadNumber => k_is)
    (case tI_BadNumber => k_is)
    (case gc_BadText => k_is)
    (case iC_BadText => k_is)
    (case li_BadText => k_is)
    (case ci_BadText => k_is)
    (case ki_BadText => k_is)
    (case tI_BadText => k_is)
    (case b_LaneError => k_is)
    (case h_LaneError => kernel_rfl)
    (case t_LaneError => k_is)
    (case x_BadNumber => kernel_rfl)
    (case x_BadText => kernel_rfl)
    (case nd => decide)
    (case g_is_integer => k_is)
    (case l_is_integer => k_is)
    (case c_is_integer => k_is)
    (case kp_is_integer => k_is)
    (case g_is_within => k_is)
    (case l_is_within => k_is)
    (case c_is_within => k_is)
    (case kp_is_within => k_is)
    (case g_is_row_of => k_is)
    (case l_is_row_of => k_is)
    (case c_is_row_of => k_is)
    (case kp_is_row_of => k_is)
    (case g_is_number => k_is)
    (case l_is_number => k_is)
    (case c_is_number => k_is)
    (case kp_is_number => k_is)
    (case g_digits_of => k_is)
    (case l_digits_of => k_is)
    (case c_digits_of => k_is)
    (case kp_digits_of => k_is)
    (case g_integer_text => k_is)
    (case l_integer_text => k_is)
    (case c_integer_text => k_is)
    (case kp_integer_text => k_is)
    (case g_numeral => k_is)
    (case l_numeral => k_is)
    (case c_numeral => k_is)
    (case kp_numeral => k_is)
    (case g_integer_in => k_is)
    (case l_integer_in => k_is)
    (case c_integer_in => k_is)
    (case kp_integer_in => k_is)
    (case g_number_in => k_is)
    (case l_number_in => k_is)
    (case c_number_in => k_is)
    (case kp_number_in => k_is)
    (case g_number_text => k_is)
    (case l_number_text => k_is)
    (case c_number_text => k_is)
    (case kp_number_text => k_is)
    (case g_number_of => k_is)
    (case l_number_of => k_is)
    (case c_number_of => k_is)
    (case kp_number_of => k_is)
    (case g__law_quill => k_is)
    (case l__law_quill => k_is)
    (case c__law_quill => k_is)
    (case kp__law_quill => k_is)
    (case g__law_scratch => k_is)
    (case l__law_scratch => k_is)
    (case c__law_scratch => k_is)
    (case kp__law_scratch => k_is)
    (case g__law_pick => k_is)
    (case l__law_pick => k_is)
    (case c__law_pick => k_is)
    (case kp__law_pick => k_is)
    (case g__law_low => k_is)
    (case l__law_low => k_is)
    (case c__law_low => k_is)
    (case kp__law_low => k_is)
    (case g__law_told => k_is)
    (case l__law_told => k_is)
    (case c__law_told => k_is)
    (case kp__law_told => k_is)
    (case g__law_integer => k_is)
    (case l__law_integer => k_is)
    (case c__law_integer => k_is)
    (case kp__law_integer => k_is)
    (case g__law_read => k_is)
    (case l__law_read => k_is)
    (case c__law_read => k_is)
    (case kp__law_read => k_is)
    (case g__law_number => k_is)
    (case l__law_number => k_is)
    (case c__law_number => k_is)
    (case kp__law_number => k_is)
    (case g__law_bent => k_is)
    (case l__law_bent => k_is)
    (case c__law_bent => k_is)
    (case kp__law_bent => k_is)
    (case g__law_heard => k_is)
    (case l__law_heard => k_is)
    (case c__law_heard => k_is)
    (case kp__law_heard => k_is)
    (case g_law => k_is)
    (case l_law => k_is)
    (case c_law => k_is)
    (case kp_law => k_is)
    (case lk_law => k_is)
    (case lp_law => rfl)
    (case hd_law => kernel_rfl)
    (case np_law => kernel_rfl)
    (case rc_law => kernel_rfl)
    (case g_MOST_DIGITS => k_is)
    (case ndt => decide)
    (case n_abs => k_is)
    (case n_bool => k_is)
    (case n_divmod => k_is)
    (case n_gcd => k_is)
    (case n_int => k_is)
    (case n_isinstance => k_is)
    (case n_len => k_is)
    (case n_list => k_is)
    (case n_min => k_is)
    (case n_range => k_is)
    (case n_repr => k_is)
    (case n_str => k_is)
    (case n_tuple => k_is)


