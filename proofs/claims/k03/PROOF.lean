import PyProof.Rows.All
import Wide.All
import OpenK.AllK
import Wide.FinOn
import PySem.Challenge.RW_bridgeyard_k03_plain_trees
import HandS.ForMost
import HandS.IsInst
import HandS.Evl
import HandS.Wide
import HandS.TupAny
import HandS.Deep
import HandS.Defaults
import KE.GoesEnum
import KE.GoesMore
import HandS.SetFor
import HandS.Strs
import HandS.Zip
import KE.DataMinMax
import KE.SortData
import HandS.MakeKwOnly
set_option Elab.async false
set_option linter.all false
set_option maxRecDepth 100000
section
set_option Elab.async false
set_option linter.all false
set_option maxRecDepth 100000
set_option maxHeartbeats 4000000
namespace BY
open PySem PySem.Spec PyProof.Rows L2
open Evl (Ex ex_l ex_t)

/-! ### abstract values: data, cells (lists that may change), tuples that hold cells -/
inductive AV where
  | d (x : PyData)
  | c (k : Nat)
  | t (xs : List AV)
  | v (x : V)
mutual
inductive VR (K : PySem.W.Frag) (G : Hp) (ps : List Addr) : V → AV → Prop
  | d {v : V} {x : PyData} : Dp K G v x → VR K G ps v (.d x)
  | c {p : Addr} {k : Nat} : ps[k]? = some p → VR K G ps (.ref p) (.c k)
  | t {a : Addr} {vs : List V} {xs : List AV} : SqT K G a vs → VRs K G ps vs xs → VR K G ps (.ref a) (.t xs)
  | v {x : V} : VR K G ps x (.v x)
inductive VRs (K : PySem.W.Frag) (G : Hp) (ps : List Addr) : List V → List AV → Prop
  | nil : VRs K G ps [] []
  | cons {v : V} {vs : List V} {x : AV} {xs : List AV} : VR K G ps v x → VRs K G ps vs xs → VRs K G ps (v :: vs) (x :: xs)
end
abbrev Cells := List (List AV)
abbrev Slots := List (Option AV)
structure Rep (K : PySem.W.Frag) (G H : Hp) (ps : List Addr) (κ : Cells) : Prop where
  sub : Ex G H
  nd : ps.Nodup
  len : ps.length = κ.length
  cell : ∀ (k : Nat) (p : Addr) (xs : List AV), ps[k]? = some p → κ[k]? = some xs → G p = none ∧ ∃ vs, H p = some (.lst vs) ∧ VRs K G ps vs xs
inductive EnvR (K : PySem.W.Frag) (G : Hp) (ps : List Addr) : L2.St → Slots → Prop
  | nil : EnvR K G ps [] []
  | no {x : Option V} {σ : L2.St} {δ : Slots} : EnvR K G ps σ δ → EnvR K G ps (x :: σ) (none :: δ)
  | so {v : V} {a : AV} {σ : L2.St} {δ : Slots} : VR K G ps v a → EnvR K G ps σ δ → EnvR K G ps (some v :: σ) (some a :: δ)
structure Stp (G H : Hp) (ps : List Addr) (G' H' : Hp) (ps' : List Addr) : Prop where
  g : Ex G G'
  pre : ∃ qs, ps' = ps ++ qs ∧ ∀ q ∈ qs, H q = none
  keep : ∀ p o, H p = some o → p ∉ ps → H' p = some o
  kept : ∀ p o, H p = some o → ∃ o', H' p = some o'
  fresh : ∀ p o, G' p = some o → G p = some o ∨ H p = none

section
variable {K : PySem.W.Frag} {G G' G2 H H' H2 : Hp} {ps ps' ps2 : List Addr}
mutual
theorem dp_mono (e : Ex G G') : ∀ (d : PyData) (v : V), Dp K G v d → Dp K G' v d
  | .none, _, h => by cases h; exact .non
  | .bool b, _, h => by cases h; exact .bl b
  | .int i, _, h => by cases h; exact .int i
  | .str x, _, h => by cases h; exact .str x
  | .list ds, _, h => by
    cases h with
    | lst hs ha => exact .lst (ex_l e hs) (dpAll_mono e ds _ ha)
  | .tuple ds, _, h => by
    cases h with
    | tup hs ha => exact .tup (ex_t e hs) (dpAll_mono e ds _ ha)
  | .dict _, _, h => by cases h
theorem dpAll_mono (e : Ex G G') : ∀ (ds : List PyData) (vs : List V), DpAll K G vs ds → DpAll K G' vs ds
  | [], _, h => by cases h; exact .nil
  | d :: ds, _, h => by
    cases h with
    | cons h1 h2 => exact .cons (dp_mono e d _ h1) (dpAll_mono e ds _ h2)
end
theorem pre_at {ps ps' qs : List Addr} (h : ps' = ps ++ qs) {k : Nat} {p : Addr} (e : ps[k]? = some p) : ps'[k]? = some p := by
  rw [h, List.getElem?_append_left (List.getElem?_eq_some_iff.mp e).1]
  exact e
mutual
theorem vr_mono (e : Ex G G') {qs : List Addr} (hp : ps' = ps ++ qs) : ∀ (a : AV) (v : V), VR K G ps v a → VR K G' ps' v a
  | .d x, _, h => by cases h with | d h => exact .d (dp_mono e x _ h)
  | .c k, _, h => by cases h with | c h => exact .c (pre_at hp h)
  | .t xs, _, h => by cases h with | t h1 h2 => exact .t (ex_t e h1) (vrs_mono e hp xs _ h2)
  | .v x, _, h => by cases h; exact .v
theorem vrs_mono (e : Ex G G') {qs : List Addr} (hp : ps' = ps ++ qs) : ∀ (as : List AV) (vs : List V), VRs K G ps vs as → VRs K G' ps' vs as
  | [], _, h => by cases h; exact .nil
  | a :: as, _, h => by cases h with | cons h1 h2 => exact .cons (vr_mono e hp a _ h1) (vrs_mono e hp as _ h2)
end
theorem Stp.vr (s : Stp G H ps G' H' ps') {v : V} {a : AV} (h : VR K G ps v a) : VR K G' ps' v a := by
  obtain ⟨qs, e, _⟩ := s.pre
  exact vr_mono s.g e a v h
theorem Stp.vrs (s : Stp G H ps G' H' ps') {v : List V} {a : List AV} (h : VRs K G ps v a) : VRs K G' ps' v a := by
  obtain ⟨qs, e, _⟩ := s.pre
  exact vrs_mono s.g e a v h
theorem Stp.env (s : Stp G H ps G' H' ps') : ∀ {σ : L2.St} {δ : Slots}, EnvR K G ps σ δ → EnvR K G' ps' σ δ
  | _, _, .nil => .nil
  | _, _, .no h => .no (s.env h)
  | _, _, .so r h => .so (s.vr r) (s.env h)
theorem Stp.refl : Stp G H ps G H ps := ⟨fun _ _ h => h, ⟨[], by simp, fun q h => by cases h⟩, fun _ _ h _ => h, fun _ o h => ⟨o, h⟩, fun _ _ h => .inl h⟩
theorem Stp.trans (hs : Ex G H) (s : Stp G H ps G' H' ps') (t : Stp G' H' ps' G2 H2 ps2) : Stp G H ps G2 H2 ps2 := by
  obtain ⟨qs, e, f⟩ := s.pre
  obtain ⟨rs, e2, f2⟩ := t.pre
  refine ⟨fun a o h => t.g a o (s.g a o h), ⟨qs ++ rs, by rw [e2, e, List.append_assoc], fun q hq => ?_⟩, fun p o h hn => ?_, fun p o h => ?_, fun p o h => ?_⟩
  · rcases List.mem_append.mp hq with h | h
    · exact f q h
    · cases hh : H q with
      | none => rfl
      | some o =>
        obtain ⟨o', h'⟩ := s.kept q o hh
        rw [f2 q h] at h'
        cases h'
  · refine t.keep p o (s.keep p o h hn) ?_
    rw [e]
    intro hm
    rcases List.mem_append.mp hm with z | z
    · exact hn z
    · rw [f p z] at h
      cases h
  · obtain ⟨o', h'⟩ := s.kept p o h
    exact t.kept p o' h'
  · rcases t.fresh p o h with z | z
    · exact s.fresh p o z
    · refine .inr ?_
      cases hh : H p with
      | none => rfl
      | some o1 =>
        obtain ⟨o', h'⟩ := s.kept p o1 hh
        rw [z] at h'
        cases h'
theorem EnvR.get : ∀ {σ : L2.St} {δ : Slots} {i : Nat} {a : AV}, EnvR K G ps σ δ → δ[i]? = some (some a) → ∃ v, σ[i]? = some (some v) ∧ VR K G ps v a
  | _, _, i, _, .nil, h => by simp at h
  | _, _, 0, _, .no _, h => by simp at h
  | _, _, i + 1, _, .no r, h => by
    obtain ⟨v, h1, h2⟩ := r.get (i := i) (by simpa using h)
    exact ⟨v, by simpa using h1, h2⟩
  | _, _, 0, _, .so r _, h => by
    have e := Option.some.inj (Option.some.inj (by simpa using h))
    subst e
    exact ⟨_, rfl, r⟩
  | _, _, i + 1, _, .so _ r, h => by
    obtain ⟨v, h1, h2⟩ := r.get (i := i) (by simpa using h)
    exact ⟨v, by simpa using h1, h2⟩
theorem EnvR.set {v : V} {a : AV} (hv : VR K G ps v a) : ∀ {σ : L2.St} {δ : Slots} {i : Nat}, EnvR K G ps σ δ → EnvR K G ps (σ.set i (some v)) (δ.set i (some a))
  | _, _, _, .nil => .nil
  | _, _, 0, .no h => .so hv h
  | _, _, i + 1, .no h => .no (EnvR.set hv h)
  | _, _, 0, .so _ h => .so hv h
  | _, _, i + 1, .so r h => .so r (EnvR.set hv h)
theorem EnvR.drop : ∀ {σ : L2.St} {δ : Slots} {i : Nat}, EnvR K G ps σ δ → EnvR K G ps (σ.set i none) (δ.set i none)
  | _, _, _, .nil => .nil
  | _, _, 0, .no h => .no h
  | _, _, i + 1, .no h => .no (EnvR.drop h)
  | _, _, 0, .so _ h => .no h
  | _, _, i + 1, .so r h => .so r (EnvR.drop h)
def wipeE (δ : Slots) : List Nat → Slots
  | [] => δ
  | v :: vs => (wipeE δ vs).set v none
theorem EnvR.wipe {σ : L2.St} {δ : Slots} (h : EnvR K G ps σ δ) : ∀ vs : List Nat, EnvR K G ps (L2.wipe σ vs) (wipeE δ vs)
  | [] => h
  | v :: vs => (EnvR.wipe h vs).drop
theorem EnvR.start : ∀ {vs : List V} {as : List AV}, VRs K G ps vs as → ∀ n : Nat, EnvR K G ps (vs.map some ++ List.replicate n none) (as.map some ++ List.replicate n none)
  | _, _, .nil, n => by
    induction n with
    | zero => exact .nil
    | succ n ih => exact .no ih
  | _, _, .cons h t, n => .so h (EnvR.start t n)

/-! ### evaluation -/
end
def EvX (K : PySem.W.Frag) (te : TE) (δ : Slots) (κ : Cells) (a : AV) (κ' : Cells) : Prop :=
  ∀ G H ps σ, Rep K G H ps κ → EnvR K G ps σ δ → ∀ Q : VK, (∀ v G' H' ps', Stp G H ps G' H' ps' → Rep K G' H' ps' κ' → VR K G' ps' v a → Q v H') → te σ H Q
def EvB (K : PySem.W.Frag) (tt : TT) (δ : Slots) (κ : Cells) (b : Bool) (κ' : Cells) : Prop :=
  ∀ G H ps σ, Rep K G H ps κ → EnvR K G ps σ δ → ∀ Q : Bool → Hp → Prop, (∀ G' H' ps', Stp G H ps G' H' ps' → Rep K G' H' ps' κ' → Q b H') → tt σ H Q
def EvAs (K : PySem.W.Frag) (ta : TA) (δ : Slots) (κ : Cells) (as : List AV) (κ' : Cells) : Prop :=
  ∀ G H ps σ, Rep K G H ps κ → EnvR K G ps σ δ → ∀ Q : List V → Hp → Prop, (∀ vs G' H' ps', Stp G H ps G' H' ps' → Rep K G' H' ps' κ' → VRs K G' ps' vs as → Q vs H') → ta σ H Q
/-- an operation by values -/
def RX (K : PySem.W.Frag) (r : R2) (κ : Cells) (x y z : AV) (κ' : Cells) : Prop :=
  ∀ G H ps vx vy, Rep K G H ps κ → VR K G ps vx x → VR K G ps vy y → ∀ Q : VK, (∀ v G' H' ps', Stp G H ps G' H' ps' → Rep K G' H' ps' κ' → VR K G' ps' v z → Q v H') → r vx vy H Q
def RU (K : PySem.W.Frag) (r : V → Hp → VK → Prop) (κ : Cells) (x z : AV) (κ' : Cells) : Prop :=
  ∀ G H ps vx, Rep K G H ps κ → VR K G ps vx x → ∀ Q : VK, (∀ v G' H' ps', Stp G H ps G' H' ps' → Rep K G' H' ps' κ' → VR K G' ps' v z → Q v H') → r vx H Q
def RC (K : PySem.W.Frag) (r : List V → Hp → VK → Prop) (κ : Cells) (xs : List AV) (z : AV) (κ' : Cells) : Prop :=
  ∀ G H ps vs, Rep K G H ps κ → VRs K G ps vs xs → ∀ Q : VK, (∀ v G' H' ps', Stp G H ps G' H' ps' → Rep K G' H' ps' κ' → VR K G' ps' v z → Q v H') → r vs H Q
/-- a method by values -/
def RM (K : PySem.W.Frag) (r : V → List V → Hp → VK → Prop) (κ : Cells) (x : AV) (xs : List AV) (z : AV) (κ' : Cells) : Prop :=
  ∀ G H ps vx vs, Rep K G H ps κ → VR K G ps vx x → VRs K G ps vs xs → ∀ Q : VK, (∀ v G' H' ps', Stp G H ps G' H' ps' → Rep K G' H' ps' κ' → VR K G' ps' v z → Q v H') → r vx vs H Q

section
variable {K : PySem.W.Frag} {δ : Slots} {κ κ1 κ2 κ3 : Cells} {ta tb tc te : TE} {t u : TT} {x y z a b : AV} {r : R2} {tas : TA} {as : List AV}
theorem evx_var {i : Nat} (h : δ[i]? = some (some a)) : EvX K (tVar i) δ κ a κ := fun G H ps σ R E Q q => by
  obtain ⟨v, h1, h2⟩ := E.get h
  exact ⟨v, h1, q v G H ps .refl R h2⟩
theorem evx_c {v : V} {d : PyData} (h : ∀ G, Dp K G v d) : EvX K (tC v) δ κ (.d d) κ := fun G H ps σ R E Q q => q v G H ps .refl R (.d (h G))
theorem evx_v {v : V} : EvX K (tC v) δ κ (.v v) κ := fun G H ps σ R E Q q => q v G H ps .refl R .v
theorem evx_int {i : Int} : EvX K (tC (.int i)) δ κ (.d (.int i)) κ := evx_c fun _ => .int i
theorem evx_bl {i : Bool} : EvX K (tC (.bl i)) δ κ (.d (.bool i)) κ := evx_c fun _ => .bl i
theorem evx_non : EvX K (tC .non) δ κ (.d .none) κ := evx_c fun _ => .non
theorem evx_str {i : Str} : EvX K (tC (.str i)) δ κ (.d (.str i)) κ := evx_c fun _ => .str i
theorem evx_op (h1 : EvX K ta δ κ x κ1) (h2 : EvX K tb δ κ1 y κ2) (h3 : RX K r κ2 x y z κ3) : EvX K (tOp r ta tb) δ κ z κ3 := fun G H ps σ R E Q q =>
  h1 G H ps σ R E _ fun v1 G1 H1 p1 s1 R1 r1 => h2 G1 H1 p1 σ R1 (s1.env E) _ fun v2 G2 H2 p2 s2 R2 r2 =>
    h3 G2 H2 p2 v1 v2 R2 (s2.vr r1) r2 Q fun v3 G3 H3 p3 s3 R3 r3 => q v3 G3 H3 p3 ((s1.trans R.sub s2).trans R.sub s3) R3 r3
theorem evx_un {ru : V → Hp → VK → Prop} (h1 : EvX K ta δ κ x κ1) (h3 : RU K ru κ1 x z κ2) : EvX K (tUn ru ta) δ κ z κ2 := fun G H ps σ R E Q q =>
  h1 G H ps σ R E _ fun v1 G1 H1 p1 s1 R1 r1 => h3 G1 H1 p1 v1 R1 r1 Q fun v3 G3 H3 p3 s3 R3 r3 => q v3 G3 H3 p3 (s1.trans R.sub s3) R3 r3
theorem eva_nil : EvAs K tNil δ κ [] κ := fun G H ps σ R E Q q => q [] G H ps .refl R .nil
theorem eva_cons (h1 : EvX K ta δ κ x κ1) (h2 : EvAs K tas δ κ1 as κ2) : EvAs K (tCons ta tas) δ κ (x :: as) κ2 := fun G H ps σ R E Q q =>
  h1 G H ps σ R E _ fun v1 G1 H1 p1 s1 R1 r1 => h2 G1 H1 p1 σ R1 (s1.env E) _ fun v2 G2 H2 p2 s2 R2 r2 => q _ G2 H2 p2 (s1.trans R.sub s2) R2 (.cons (s2.vr r1) r2)
theorem evx_cb {rc : List V → Hp → VK → Prop} (h : EvAs K tas δ κ as κ1) (hr : RC K rc κ1 as z κ2) : EvX K (tCB rc tas) δ κ z κ2 := fun G H ps σ R E Q q =>
  h G H ps σ R E _ fun v1 G1 H1 p1 s1 R1 r1 => hr G1 H1 p1 v1 R1 r1 Q fun v3 G3 H3 p3 s3 R3 r3 => q v3 G3 H3 p3 (s1.trans R.sub s3) R3 r3
/-! tests -/
theorem evb_test {c : Bool} (h : EvX K te δ κ (.d (.bool c)) κ1) : EvB K (tTest te) δ κ c κ1 := fun G H ps σ R E Q q =>
  h G H ps σ R E _ fun v G1 H1 p1 s1 R1 r1 => by
    cases r1 with
    | d r1 => cases r1; exact ⟨c, rfl, q G1 H1 p1 s1 R1⟩
theorem evb_B {c : Bool} (h : EvX K te δ κ (.d (.bool c)) κ1) : EvB K (tB te) δ κ c κ1 := fun G H ps σ R E Q q =>
  h G H ps σ R E _ fun v G1 H1 p1 s1 R1 r1 => by
    cases r1 with
    | d r1 => cases r1; exact ⟨c, rfl, q G1 H1 p1 s1 R1⟩
theorem evb_andT (h1 : EvB K t δ κ true κ1) {c : Bool} (h2 : EvB K u δ κ1 c κ2) : EvB K (tAnd t u) δ κ c κ2 := fun G H ps σ R E Q q =>
  h1 G H ps σ R E _ fun G1 H1 p1 s1 R1 => by
    show u σ H1 Q
    exact h2 G1 H1 p1 σ R1 (s1.env E) Q fun G2 H2 p2 s2 R2 => q G2 H2 p2 (s1.trans R.sub s2) R2
theorem evb_andF (h1 : EvB K t δ κ false κ1) : EvB K (tAnd t u) δ κ false κ1 := fun G H ps σ R E Q q =>
  h1 G H ps σ R E _ fun G1 H1 p1 s1 R1 => by
    show Q false H1
    exact q G1 H1 p1 s1 R1
theorem evb_orF (h1 : EvB K t δ κ false κ1) {c : Bool} (h2 : EvB K u δ κ1 c κ2) : EvB K (tOr t u) δ κ c κ2 := fun G H ps σ R E Q q =>
  h1 G H ps σ R E _ fun G1 H1 p1 s1 R1 => by
    show u σ H1 Q
    exact h2 G1 H1 p1 σ R1 (s1.env E) Q fun G2 H2 p2 s2 R2 => q G2 H2 p2 (s1.trans R.sub s2) R2
theorem evb_orT (h1 : EvB K t δ κ true κ1) : EvB K (tOr t u) δ κ true κ1 := fun G H ps σ R E Q q =>
  h1 G H ps σ R E _ fun G1 H1 p1 s1 R1 => by
    show Q true H1
    exact q G1 H1 p1 s1 R1
/-- both ways at once, where nothing is changed by the second -/
theorem evb_and {b c : Bool} (h1 : EvB K t δ κ b κ1) (h2 : b = true → EvB K u δ κ1 c κ1) : EvB K (tAnd t u) δ κ (b && c) κ1 := by
  cases b with
  | true => exact evb_andT h1 (h2 rfl)
  | false => exact evb_andF h1
theorem evb_or {b c : Bool} (h1 : EvB K t δ κ b κ1) (h2 : b = false → EvB K u δ κ1 c κ1) : EvB K (tOr t u) δ κ (b || c) κ1 := by
  cases b with
  | true => exact evb_orT h1
  | false => exact evb_orF h1 (h2 rfl)
theorem evb_not {c : Bool} (h1 : EvB K t δ κ c κ1) : EvB K (tNot t) δ κ (!c) κ1 := fun G H ps σ R E Q q => h1 G H ps σ R E _ fun G1 H1 p1 s1 R1 => q G1 H1 p1 s1 R1
theorem evx_andV {b c : Bool} (h1 : EvX K ta δ κ (.d (.bool b)) κ1) (h2 : b = true → EvX K tb δ κ1 (.d (.bool c)) κ1) : EvX K (tAndV ta tb) δ κ (.d (.bool (b && c))) κ1 := fun G H ps σ R E Q q =>
  h1 G H ps σ R E _ fun v G1 H1 p1 s1 R1 r1 => by
    cases r1 with
    | d r1 =>
      cases r1
      refine ⟨b, rfl, ?_⟩
      cases b with
      | true =>
        show tb σ H1 Q
        exact h2 rfl G1 H1 p1 σ R1 (s1.env E) Q fun v2 G2 H2 p2 s2 R2 r2 => q v2 G2 H2 p2 (s1.trans R.sub s2) R2 r2
      | false =>
        show Q (.bl false) H1
        exact q _ G1 H1 p1 s1 R1 (.d (.bl _))
theorem evx_orV {b c : Bool} (h1 : EvX K ta δ κ (.d (.bool b)) κ1) (h2 : b = false → EvX K tb δ κ1 (.d (.bool c)) κ1) : EvX K (tOrV ta tb) δ κ (.d (.bool (b || c))) κ1 := fun G H ps σ R E Q q =>
  h1 G H ps σ R E _ fun v G1 H1 p1 s1 R1 r1 => by
    cases r1 with
    | d r1 =>
      cases r1
      refine ⟨b, rfl, ?_⟩
      cases b with
      | true =>
        show Q (.bl true) H1
        exact q _ G1 H1 p1 s1 R1 (.d (.bl _))
      | false =>
        show tb σ H1 Q
        exact h2 rfl G1 H1 p1 σ R1 (s1.env E) Q fun v2 G2 H2 p2 s2 R2 r2 => q v2 G2 H2 p2 (s1.trans R.sub s2) R2 r2
theorem evx_notV {b : Bool} (h1 : EvX K ta δ κ (.d (.bool b)) κ1) : EvX K (tNotV ta) δ κ (.d (.bool (!b))) κ1 := fun G H ps σ R E Q q =>
  h1 G H ps σ R E _ fun v G1 H1 p1 s1 R1 r1 => by
    cases r1 with
    | d r1 =>
      cases r1
      exact ⟨b, rfl, q _ G1 H1 p1 s1 R1 (.d (.bl _))⟩
theorem evx_ifT (h1 : EvB K t δ κ true κ1) (h2 : EvX K ta δ κ1 x κ2) : EvX K (tIf t ta tb) δ κ x κ2 := fun G H ps σ R E Q q =>
  h1 G H ps σ R E _ fun G1 H1 p1 s1 R1 => by
    show ta σ H1 Q
    exact h2 G1 H1 p1 σ R1 (s1.env E) Q fun v G2 H2 p2 s2 R2 r2 => q v G2 H2 p2 (s1.trans R.sub s2) R2 r2
theorem evx_ifF (h1 : EvB K t δ κ false κ1) (h2 : EvX K tb δ κ1 x κ2) : EvX K (tIf t ta tb) δ κ x κ2 := fun G H ps σ R E Q q =>
  h1 G H ps σ R E _ fun G1 H1 p1 s1 R1 => by
    show tb σ H1 Q
    exact h2 G1 H1 p1 σ R1 (s1.env E) Q fun v G2 H2 p2 s2 R2 r2 => q v G2 H2 p2 (s1.trans R.sub s2) R2 r2
theorem evx_eq (h : EvX K ta δ κ x κ1) (e : x = y) : EvX K ta δ κ y κ1 := e ▸ h
theorem evb_eq {b c : Bool} (h : EvB K t δ κ b κ1) (e : b = c) : EvB K t δ κ c κ1 := e ▸ h
/-! operations -/
theorem rx_int {g : Int → Int → Int} {i j : Int} : RX K (rI0 fun i j => .int (g i j)) κ (.d (.int i)) (.d (.int j)) (.d (.int (g i j))) κ := fun G H ps vx vy R r1 r2 Q q => by
  cases r1 with
  | d r1 =>
    cases r1
    cases r2 with
    | d r2 =>
      cases r2
      exact ⟨i, j, rfl, rfl, q _ G H ps .refl R (.d (.int _))⟩
theorem rx_intC {C : Int → Int → Prop} {g : Int → Int → Int} {i j : Int} (hc : C i j) : RX K (rI C fun i j => .int (g i j)) κ (.d (.int i)) (.d (.int j)) (.d (.int (g i j))) κ := fun G H ps vx vy R r1 r2 Q q => by
  cases r1 with
  | d r1 =>
    cases r1
    cases r2 with
    | d r2 =>
      cases r2
      exact ⟨i, j, rfl, rfl, hc, q _ G H ps .refl R (.d (.int _))⟩
theorem rx_bl {g : Int → Int → Bool} {i j : Int} : RX K (rI0 fun i j => .bl (g i j)) κ (.d (.int i)) (.d (.int j)) (.d (.bool (g i j))) κ := fun G H ps vx vy R r1 r2 Q q => by
  cases r1 with
  | d r1 =>
    cases r1
    cases r2 with
    | d r2 =>
      cases r2
      exact ⟨i, j, rfl, rfl, q _ G H ps .refl R (.d (.bl _))⟩
theorem rx_eqI {i j : Int} : RX K rEq κ (.d (.int i)) (.d (.int j)) (.d (.bool (decide (i = j)))) κ := fun G H ps vx vy R r1 r2 Q q => by
  cases r1 with
  | d r1 =>
    cases r1
    cases r2 with
    | d r2 =>
      cases r2
      refine ⟨rfl, ?_⟩
      have e : decide (V.int i = V.int j) = decide (i = j) := by simp
      rw [e]
      exact q _ G H ps .refl R (.d (.bl _))
theorem rx_neI {i j : Int} : RX K rNe κ (.d (.int i)) (.d (.int j)) (.d (.bool (!decide (i = j)))) κ := fun G H ps vx vy R r1 r2 Q q => by
  cases r1 with
  | d r1 =>
    cases r1
    cases r2 with
    | d r2 =>
      cases r2
      refine ⟨rfl, ?_⟩
      have e : decide (V.int i = V.int j) = decide (i = j) := by simp
      rw [e]
      exact q _ G H ps .refl R (.d (.bl _))
theorem rx_eqB {i j : Bool} : RX K rEq κ (.d (.bool i)) (.d (.bool j)) (.d (.bool (decide (i = j)))) κ := fun G H ps vx vy R r1 r2 Q q => by
  cases r1 with
  | d r1 =>
    cases r1
    cases r2 with
    | d r2 =>
      cases r2
      refine ⟨rfl, ?_⟩
      have e : decide (V.bl i = V.bl j) = decide (i = j) := by simp
      rw [e]
      exact q _ G H ps .refl R (.d (.bl _))
theorem rx_neB {i j : Bool} : RX K rNe κ (.d (.bool i)) (.d (.bool j)) (.d (.bool (!decide (i = j)))) κ := fun G H ps vx vy R r1 r2 Q q => by
  cases r1 with
  | d r1 =>
    cases r1
    cases r2 with
    | d r2 =>
      cases r2
      refine ⟨rfl, ?_⟩
      have e : decide (V.bl i = V.bl j) = decide (i = j) := by simp
      rw [e]
      exact q _ G H ps .refl R (.d (.bl _))
end
end BY
end

section
set_option Elab.async false
set_option linter.all false
set_option maxRecDepth 100000
set_option maxHeartbeats 4000000
namespace BY
open PySem PySem.Spec PyProof.Rows L2
open Evl (Ex ex_l ex_t)
section
variable {K : PySem.W.Frag} {G G' H H' : Hp} {ps : List Addr}
theorem dpAll_len : ∀ {vs : List V} {ds : List PyData}, DpAll K G vs ds → vs.length = ds.length
  | _, _, .nil => rfl
  | _, _, .cons _ t => by rw [List.length_cons, List.length_cons, dpAll_len t]
theorem dpAll_at : ∀ {vs : List V} {ds : List PyData} {i : Nat} {x : PyData}, DpAll K G vs ds → ds[i]? = some x → ∃ v, vs[i]? = some v ∧ Dp K G v x
  | _, _, i, _, .nil, h => by simp at h
  | _, _, 0, _, .cons r _, h => by
    have e := Option.some.inj (by simpa using h)
    subst e
    exact ⟨_, rfl, r⟩
  | _, _, i + 1, _, .cons _ t, h => by
    obtain ⟨v, h1, h2⟩ := dpAll_at (i := i) t (by simpa using h)
    exact ⟨v, by simpa using h1, h2⟩
theorem dpAll_at' : ∀ {vs : List V} {ds : List PyData} {i : Nat} {v : V}, DpAll K G vs ds → vs[i]? = some v → ∃ x, ds[i]? = some x ∧ Dp K G v x
  | _, _, i, _, .nil, h => by simp at h
  | _, _, 0, _, .cons r _, h => by
    have e := Option.some.inj (by simpa using h)
    subst e
    exact ⟨_, rfl, r⟩
  | _, _, i + 1, _, .cons _ t, h => by
    obtain ⟨v, h1, h2⟩ := dpAll_at' (i := i) t (by simpa using h)
    exact ⟨v, by simpa using h1, h2⟩
theorem dpAll_vrs : ∀ {vs : List V} {ds : List PyData}, DpAll K G vs ds → VRs K G ps vs (ds.map AV.d)
  | _, _, .nil => .nil
  | _, _, .cons r t => .cons (.d r) (dpAll_vrs t)
theorem vrs_dpAll : ∀ {vs : List V} {ds : List PyData}, VRs K G ps vs (ds.map AV.d) → DpAll K G vs ds
  | _, [], h => by cases h; exact .nil
  | _, _ :: _, h => by
    cases h with
    | cons r t =>
      cases r with
      | d r => exact .cons r (vrs_dpAll t)
theorem vrs_len : ∀ {vs : List V} {ds : List AV}, VRs K G ps vs ds → vs.length = ds.length
  | _, _, .nil => rfl
  | _, _, .cons _ t => by rw [List.length_cons, List.length_cons, vrs_len t]
theorem vrs_at : ∀ {vs : List V} {ds : List AV} {i : Nat} {x : AV}, VRs K G ps vs ds → ds[i]? = some x → ∃ v, vs[i]? = some v ∧ VR K G ps v x
  | _, _, i, _, .nil, h => by simp at h
  | _, _, 0, _, .cons r _, h => by
    have e := Option.some.inj (by simpa using h)
    subst e
    exact ⟨_, rfl, r⟩
  | _, _, i + 1, _, .cons _ t, h => by
    obtain ⟨v, h1, h2⟩ := vrs_at (i := i) t (by simpa using h)
    exact ⟨v, by simpa using h1, h2⟩
theorem vrs_at' : ∀ {vs : List V} {ds : List AV} {i : Nat} {v : V}, VRs K G ps vs ds → vs[i]? = some v → ∃ x, ds[i]? = some x ∧ VR K G ps v x
  | _, _, i, _, .nil, h => by simp at h
  | _, _, 0, _, .cons r _, h => by
    have e := Option.some.inj (by simpa using h)
    subst e
    exact ⟨_, rfl, r⟩
  | _, _, i + 1, _, .cons _ t, h => by
    obtain ⟨v, h1, h2⟩ := vrs_at' (i := i) t (by simpa using h)
    exact ⟨v, by simpa using h1, h2⟩
theorem vrs_app : ∀ {vs ws : List V} {as bs : List AV}, VRs K G ps vs as → VRs K G ps ws bs → VRs K G ps (vs ++ ws) (as ++ bs)
  | _, _, _, _, .nil, h => h
  | _, _, _, _, .cons r t, h => .cons r (vrs_app t h)
theorem vrs_set {v : V} {a : AV} (hv : VR K G ps v a) : ∀ {vs : List V} {as : List AV} {i : Nat}, VRs K G ps vs as → VRs K G ps (vs.set i v) (as.set i a)
  | _, _, _, .nil => .nil
  | _, _, 0, .cons _ t => .cons hv t
  | _, _, i + 1, .cons r t => .cons r (vrs_set hv t)
theorem vrs_take : ∀ {vs : List V} {as : List AV} (n : Nat), VRs K G ps vs as → VRs K G ps (vs.take n) (as.take n)
  | _, _, 0, _ => by simp; exact .nil
  | _, _, _ + 1, .nil => .nil
  | _, _, n + 1, .cons r t => .cons r (vrs_take n t)
theorem vrs_drop : ∀ {vs : List V} {as : List AV} (n : Nat), VRs K G ps vs as → VRs K G ps (vs.drop n) (as.drop n)
  | _, _, 0, h => h
  | _, _, _ + 1, .nil => .nil
  | _, _, n + 1, .cons _ t => vrs_drop n t
theorem vrs_eraseIdx : ∀ {vs : List V} {as : List AV} (i : Nat), VRs K G ps vs as → VRs K G ps (vs.eraseIdx i) (as.eraseIdx i)
  | _, _, _, .nil => by simp; exact .nil
  | _, _, 0, .cons _ t => t
  | _, _, i + 1, .cons r t => .cons r (vrs_eraseIdx i t)
theorem dpAll_take : ∀ {vs : List V} {as : List PyData} (n : Nat), DpAll K G vs as → DpAll K G (vs.take n) (as.take n)
  | _, _, 0, _ => by simp; exact .nil
  | _, _, _ + 1, .nil => .nil
  | _, _, n + 1, .cons r t => .cons r (dpAll_take n t)
theorem dpAll_drop : ∀ {vs : List V} {as : List PyData} (n : Nat), DpAll K G vs as → DpAll K G (vs.drop n) (as.drop n)
  | _, _, 0, h => h
  | _, _, _ + 1, .nil => .nil
  | _, _, n + 1, .cons _ t => dpAll_drop n t
theorem dpAll_app : ∀ {vs ws : List V} {as bs : List PyData}, DpAll K G vs as → DpAll K G ws bs → DpAll K G (vs ++ ws) (as ++ bs)
  | _, _, _, _, .nil, h => h
  | _, _, _, _, .cons r t, h => .cons r (dpAll_app t h)

/-! what a value holds altogether -/
mutual
inductive AVD (κ : Cells) : AV → PyData → Prop
  | d {x : PyData} : AVD κ (.d x) x
  | c {k : Nat} {xs : List AV} {ds : List PyData} : κ[k]? = some xs → AVDs κ xs ds → AVD κ (.c k) (.list ds)
  | t {xs : List AV} {ds : List PyData} : AVDs κ xs ds → AVD κ (.t xs) (.tuple ds)
inductive AVDs (κ : Cells) : List AV → List PyData → Prop
  | nil : AVDs κ [] []
  | cons {x : AV} {xs : List AV} {d : PyData} {ds : List PyData} : AVD κ x d → AVDs κ xs ds → AVDs κ (x :: xs) (d :: ds)
end
theorem avds_data (κ : Cells) : ∀ ds : List PyData, AVDs κ (ds.map AV.d) ds
  | [] => .nil
  | _ :: ds => .cons .d (avds_data κ ds)
theorem Rep.cellOf {κ : Cells} (R : Rep K G H ps κ) {k : Nat} {p : Addr} {xs : List AV} (hp : ps[k]? = some p) (hk : κ[k]? = some xs) : ∃ vs, H p = some (.lst vs) ∧ VRs K G ps vs xs := (R.cell k p xs hp hk).2
mutual
theorem avd_dp {κ : Cells} (R : Rep K G H ps κ) : ∀ (d : PyData) (a : AV) (v : V), AVD κ a d → VR K G ps v a → Dp K H v d
  | .none, _, _, h, r => by cases h with | d => cases r with | d r => exact dp_mono R.sub _ _ r
  | .bool b, _, _, h, r => by cases h with | d => cases r with | d r => exact dp_mono R.sub _ _ r
  | .int b, _, _, h, r => by cases h with | d => cases r with | d r => exact dp_mono R.sub _ _ r
  | .str b, _, _, h, r => by cases h with | d => cases r with | d r => exact dp_mono R.sub _ _ r
  | .dict b, _, _, h, r => by cases h with | d => cases r with | d r => cases r
  | .list ds, _, _, h, r => by
    cases h with
    | d => cases r with | d r => exact dp_mono R.sub _ _ r
    | c h1 h2 =>
      cases r with
      | c r =>
        obtain ⟨vs, e, r2⟩ := R.cellOf r h1
        exact .lst (.inl (.inl e)) (avds_dp R ds _ _ h2 r2)
  | .tuple ds, _, _, h, r => by
    cases h with
    | d => cases r with | d r => exact dp_mono R.sub _ _ r
    | t h2 => cases r with | t r1 r2 => exact .tup (ex_t R.sub r1) (avds_dp R ds _ _ h2 r2)
theorem avds_dp {κ : Cells} (R : Rep K G H ps κ) : ∀ (ds : List PyData) (as : List AV) (vs : List V), AVDs κ as ds → VRs K G ps vs as → DpAll K H vs ds
  | [], _, _, h, r => by cases h; cases r; exact .nil
  | d :: ds, _, _, h, r => by
    cases h with
    | cons h1 h2 => cases r with | cons r1 r2 => exact .cons (avd_dp R d _ _ h1 r1) (avds_dp R ds _ _ h2 r2)
end
/-! new objects, changed cells -/
theorem not_ps {κ : Cells} (R : Rep K G H ps κ) {p : Addr} (h : H p = none) : p ∉ ps := fun hm => by
  obtain ⟨k, hk⟩ := List.getElem?_of_mem hm
  have hl : k < κ.length := by rw [← R.len]; exact (List.getElem?_eq_some_iff.mp hk).1
  obtain ⟨_, vs, e, _⟩ := R.cell k p _ hk (List.getElem?_eq_getElem hl)
  rw [h] at e
  cases e
theorem ex_none {p : Addr} (e : Ex G H) (h : H p = none) : G p = none := by
  cases hg : G p with
  | none => rfl
  | some o => rw [e p o hg] at h; cases h
theorem stp_new {p : Addr} {o : HO} (e0 : Ex G H) (h : H p = none) : Stp G H ps (upd G p o) (upd H p o) ps := by
  refine ⟨fun a u e => ?_, ⟨[], by simp, fun q hq => by cases hq⟩, fun q u e _ => ?_, fun q u e => ?_, fun q u e => ?_⟩
  · rw [upd_ne (ne_of_none e (ex_none e0 h))]; exact e
  · rw [upd_ne (ne_of_none e h)]; exact e
  · rw [upd_ne (ne_of_none e h)]; exact ⟨u, e⟩
  · by_cases z : q = p
    · subst z; exact .inr h
    · rw [upd_ne z] at e; exact .inl e
theorem ex_upd {p : Addr} {o : HO} (e0 : Ex G H) : Ex (upd G p o) (upd H p o) := fun a u e => by
  by_cases z : a = p
  · subst z
    rw [upd_same] at e ⊢
    exact e
  · rw [upd_ne z] at e ⊢
    exact e0 a u e
theorem ex_up {p : Addr} {o : HO} (h : G p = none) : Ex G (upd G p o) := fun a u e => by
  rw [upd_ne (ne_of_none e h)]; exact e
theorem rep_new {κ : Cells} (R : Rep K G H ps κ) {p : Addr} {o : HO} (h : H p = none) : Rep K (upd G p o) (upd H p o) ps κ := by
  refine ⟨ex_upd R.sub, R.nd, R.len, fun k q xs hp hk => ?_⟩
  obtain ⟨g, vs, e, r⟩ := R.cell k q xs hp hk
  have hq : q ≠ p := ne_of_none e h
  refine ⟨by rw [upd_ne hq]; exact g, vs, by rw [upd_ne hq]; exact e, ?_⟩
  exact vrs_mono (ex_up (ex_none R.sub h)) (qs := []) (by simp) _ _ r
theorem stp_cell {p : Addr} {o : HO} (h : H p = none) : Stp G H ps G (upd H p o) (ps ++ [p]) := by
  refine ⟨fun _ _ e => e, ⟨[p], rfl, fun q hq => ?_⟩, fun q u e _ => ?_, fun q u e => ?_, fun q u e => .inl e⟩
  · rw [List.mem_singleton.mp hq]; exact h
  · rw [upd_ne (ne_of_none e h)]; exact e
  · rw [upd_ne (ne_of_none e h)]; exact ⟨u, e⟩
theorem ex_up2 {p : Addr} {o : HO} (e0 : Ex G H) (h : G p = none) : Ex G (upd H p o) := fun a u e => by
  rw [upd_ne (ne_of_none e h)]; exact e0 a u e
theorem rep_cell {κ : Cells} (R : Rep K G H ps κ) {p : Addr} {vs : List V} {xs : List AV} (h : H p = none) (r : VRs K G ps vs xs) : Rep K G (upd H p (.lst vs)) (ps ++ [p]) (κ ++ [xs]) := by
  refine ⟨ex_up2 R.sub (ex_none R.sub h), ?_, by simp [R.len], fun k q ys hp hk => ?_⟩
  · rw [List.nodup_append]
    refine ⟨R.nd, by simp, fun a ha b hb => ?_⟩
    rw [List.mem_singleton.mp hb]
    intro z
    subst z
    exact not_ps R h ha
  · by_cases hl : k < ps.length
    · rw [List.getElem?_append_left hl] at hp
      rw [List.getElem?_append_left (by rw [← R.len]; exact hl)] at hk
      obtain ⟨g, ws, e, r2⟩ := R.cell k q ys hp hk
      refine ⟨g, ws, by rw [upd_ne (ne_of_none e h)]; exact e, vrs_mono (fun _ _ e => e) rfl _ _ r2⟩
    · have e1 : k = ps.length := by
        have := (List.getElem?_eq_some_iff.mp hp).1
        simp at this
        omega
      subst e1
      rw [List.getElem?_append_right (Nat.le_refl _)] at hp
      rw [List.getElem?_append_right (by rw [R.len]; exact Nat.le_refl _)] at hk
      simp at hp
      have e2 : κ.length = ps.length := R.len.symm
      rw [e2] at hk
      simp at hk
      subst hp hk
      exact ⟨ex_none R.sub h, vs, upd_same, vrs_mono (fun _ _ e => e) rfl _ _ r⟩
theorem stp_set {κ : Cells} (R : Rep K G H ps κ) {p : Addr} {k : Nat} {o : HO} (hp : ps[k]? = some p) : Stp G H ps G (upd H p o) ps := by
  refine ⟨fun _ _ e => e, ⟨[], by simp, fun q hq => by cases hq⟩, fun q u e hn => ?_, fun q u e => ?_, fun q u e => .inl e⟩
  · rw [upd_ne (fun z => hn (by rw [z]; exact List.mem_of_getElem? hp))]; exact e
  · by_cases z : q = p
    · subst z; exact ⟨_, upd_same⟩
    · rw [upd_ne z]; exact ⟨u, e⟩
theorem nodup_at {ps : List Addr} (h : ps.Nodup) {i j : Nat} {p : Addr} (hi : ps[i]? = some p) (hj : ps[j]? = some p) : i = j := by
  obtain ⟨h1, e1⟩ := List.getElem?_eq_some_iff.mp hi
  obtain ⟨h2, e2⟩ := List.getElem?_eq_some_iff.mp hj
  exact (List.getElem_inj h).mp (e1.trans e2.symm)
theorem rep_set {κ : Cells} (R : Rep K G H ps κ) {p : Addr} {k : Nat} {vs : List V} {xs ys : List AV} (hp : ps[k]? = some p) (hk : κ[k]? = some ys) (r : VRs K G ps vs xs) : Rep K G (upd H p (.lst vs)) ps (κ.set k xs) := by
  obtain ⟨g0, _⟩ := R.cell k p ys hp hk
  refine ⟨ex_up2 R.sub g0, R.nd, by simp [R.len], fun j q zs hq hj => ?_⟩
  by_cases e : j = k
  · subst e
    rw [hp] at hq
    cases hq
    rw [List.getElem?_set_self (by exact (List.getElem?_eq_some_iff.mp hk).1)] at hj
    cases hj
    exact ⟨g0, vs, upd_same, r⟩
  · rw [List.getElem?_set_ne (fun z => e z.symm)] at hj
    obtain ⟨g, ws, e1, r2⟩ := R.cell j q zs hq hj
    refine ⟨g, ws, ?_, r2⟩
    rw [upd_ne (fun z => e (nodup_at R.nd hq (by rw [z]; exact hp)))]
    exact e1
theorem Rep.pAt {κ : Cells} (R : Rep K G H ps κ) {k : Nat} {xs : List AV} (hk : κ[k]? = some xs) : ∃ p, ps[k]? = some p := by
  have h := (List.getElem?_eq_some_iff.mp hk).1
  rw [← R.len] at h
  exact ⟨ps[k], List.getElem?_eq_getElem h⟩
end

section
variable {K : PySem.W.Frag} {δ : Slots} {κ κ1 κ2 κ3 : Cells} {ta tb tc te : TE} {t u : TT} {x y z a b : AV} {r : R2} {tas : TA} {as : List AV}
/-! displays -/
theorem evx_tup (h : EvAs K tas δ κ as κ1) (hz : as.length ≤ 100000 := by simp) : EvX K (tTup tas) δ κ (.t as) κ1 := fun G H ps σ R E Q q =>
  h G H ps σ R E _ fun vs G1 H1 p1 s1 R1 r1 => ⟨by rw [vrs_len r1]; exact Evl.sz_of hz, fun p hp => q _ _ _ p1 (s1.trans R.sub (stp_new R1.sub hp)) (rep_new R1 hp)
    (.t (.inl (.inl upd_same)) (vrs_mono (ex_up (ex_none R1.sub hp)) (qs := []) (by simp) _ _ r1))⟩
theorem evx_tupD {ds : List PyData} (h : EvAs K tas δ κ (ds.map .d) κ1) (hz : ds.length ≤ 100000 := by simp) : EvX K (tTup tas) δ κ (.d (.tuple ds)) κ1 := fun G H ps σ R E Q q =>
  h G H ps σ R E _ fun vs G1 H1 p1 s1 R1 r1 => ⟨by rw [vrs_len r1, List.length_map]; exact Evl.sz_of hz, fun p hp => q _ _ _ p1 (s1.trans R.sub (stp_new R1.sub hp)) (rep_new R1 hp)
    (.d (.tup (.inl (.inl upd_same)) (dpAll_mono (ex_up (ex_none R1.sub hp)) _ _ (vrs_dpAll r1))))⟩
theorem evx_lstD {ds : List PyData} (h : EvAs K tas δ κ (ds.map .d) κ1) (hz : ds.length ≤ 100000 := by simp) : EvX K (tLst tas) δ κ (.d (.list ds)) κ1 := fun G H ps σ R E Q q =>
  h G H ps σ R E _ fun vs G1 H1 p1 s1 R1 r1 => ⟨by rw [vrs_len r1, List.length_map]; exact Evl.sz_of hz, fun p hp => q _ _ _ p1 (s1.trans R.sub (stp_new R1.sub hp)) (rep_new R1 hp)
    (.d (.lst (.inl (.inl upd_same)) (dpAll_mono (ex_up (ex_none R1.sub hp)) _ _ (vrs_dpAll r1))))⟩
theorem evx_lstC {n : Nat} (h : EvAs K tas δ κ as κ1) (hn : n = κ1.length) (hz : as.length ≤ 100000 := by simp) : EvX K (tLst tas) δ κ (.c n) (κ1 ++ [as]) := fun G H ps σ R E Q q =>
  h G H ps σ R E _ fun vs G1 H1 p1 s1 R1 r1 => ⟨by rw [vrs_len r1]; exact Evl.sz_of hz, fun p hp => q _ _ _ (p1 ++ [p]) (s1.trans R.sub (stp_cell hp)) (rep_cell R1 hp r1)
    (.c (by rw [hn, ← R1.len, List.getElem?_append_right (Nat.le_refl _)]; simp))⟩
/-! items -/
theorem rx_ixTD {ds : List PyData} {i : Nat} {d : PyData} (h : ds[i]? = some d) : RX K (rIxT K) κ (.d (.tuple ds)) (.d (.int (i : Int))) (.d d) κ := fun G H ps vx vy R r1 r2 Q q => by
  cases r1 with
  | d r1 =>
    cases r1 with
    | tup s1 s2 =>
      cases r2 with
      | d r2 =>
        cases r2
        obtain ⟨v, e, rv⟩ := dpAll_at s2 h
        exact ⟨_, _, _, v, rfl, rfl, ex_t R.sub s1, atI_nat e, q v G H ps .refl R (.d rv)⟩
theorem rx_ixTT {ds : List AV} {i : Nat} {d : AV} (h : ds[i]? = some d) : RX K (rIxT K) κ (.t ds) (.d (.int (i : Int))) d κ := fun G H ps vx vy R r1 r2 Q q => by
  cases r1 with
  | t s1 s2 =>
    cases r2 with
    | d r2 =>
      cases r2
      obtain ⟨v, e, rv⟩ := vrs_at s2 h
      exact ⟨_, _, _, v, rfl, rfl, ex_t R.sub s1, atI_nat e, q v G H ps .refl R rv⟩
theorem rx_ixLD {ds : List PyData} {i : Nat} {d : PyData} (h : ds[i]? = some d) : RX K (rIxL K) κ (.d (.list ds)) (.d (.int (i : Int))) (.d d) κ := fun G H ps vx vy R r1 r2 Q q => by
  cases r1 with
  | d r1 =>
    cases r1 with
    | lst s1 s2 =>
      cases r2 with
      | d r2 =>
        cases r2
        obtain ⟨v, e, rv⟩ := dpAll_at s2 h
        exact ⟨_, _, _, v, rfl, rfl, ex_l R.sub s1, atI_nat e, q v G H ps .refl R (.d rv)⟩
theorem rx_ixC {ds : List AV} {k i : Nat} {d : AV} (hk : κ[k]? = some ds) (h : ds[i]? = some d) : RX K (rIxL K) κ (.c k) (.d (.int (i : Int))) d κ := fun G H ps vx vy R r1 r2 Q q => by
  cases r1 with
  | c r1 =>
    cases r2 with
    | d r2 =>
      cases r2
      obtain ⟨vs, e0, rs⟩ := R.cellOf r1 hk
      obtain ⟨v, e, rv⟩ := vrs_at rs h
      exact ⟨_, _, _, v, rfl, rfl, .inl (.inl e0), atI_nat e, q v G H ps .refl R rv⟩
/-! len -/
def rLn (K : PySem.W.Frag) : List V → Hp → VK → Prop := fun xs H Q => ∃ p ys, xs = [.ref p] ∧ (SqL K H p ys ∨ SqT K H p ys) ∧ Q (.int ys.length) H
theorem rc_lenT {ds : List PyData} : RC K (rLn K) κ [.d (.tuple ds)] (.d (.int ds.length)) κ := fun G H ps vs R rs Q q => by
  cases rs with
  | cons r1 t =>
    cases t
    cases r1 with
    | d r1 =>
      cases r1 with
      | tup s1 s2 => exact ⟨_, _, rfl, .inr (ex_t R.sub s1), q _ G H ps .refl R (.d (by rw [dpAll_len s2]; exact .int _))⟩
theorem rc_lenL {ds : List PyData} : RC K (rLn K) κ [.d (.list ds)] (.d (.int ds.length)) κ := fun G H ps vs R rs Q q => by
  cases rs with
  | cons r1 t =>
    cases t
    cases r1 with
    | d r1 =>
      cases r1 with
      | lst s1 s2 => exact ⟨_, _, rfl, .inl (ex_l R.sub s1), q _ G H ps .refl R (.d (by rw [dpAll_len s2]; exact .int _))⟩
theorem rc_lenC {ds : List AV} {k : Nat} (hk : κ[k]? = some ds) : RC K (rLn K) κ [.c k] (.d (.int ds.length)) κ := fun G H ps vs R rs Q q => by
  cases rs with
  | cons r1 t =>
    cases t
    cases r1 with
    | c r1 =>
      obtain ⟨vs, e0, r2⟩ := R.cellOf r1 hk
      exact ⟨_, _, rfl, .inl (.inl (.inl e0)), q _ G H ps .refl R (.d (by rw [vrs_len r2]; exact .int _))⟩
theorem rc_lenTT {ds : List AV} : RC K (rLn K) κ [.t ds] (.d (.int ds.length)) κ := fun G H ps vs R rs Q q => by
  cases rs with
  | cons r1 t =>
    cases t
    cases r1 with
    | t s1 s2 => exact ⟨_, _, rfl, .inr (ex_t R.sub s1), q _ G H ps .refl R (.d (by rw [vrs_len s2]; exact .int _))⟩
/-! is None, ==, in, over data -/
def isNo : PyData → Bool
  | .none => true
  | _ => false
theorem rx_isN {d : PyData} : RX K (fun x y H Q => y = .non ∧ Q (.bl (decide (x = .non))) H) κ (.d d) (.d .none) (.d (.bool (isNo d))) κ := fun G H ps vx vy R r1 r2 Q q => by
  cases r1 with
  | d r1 =>
    cases r2 with
    | d r2 =>
      cases r2
      refine ⟨rfl, ?_⟩
      have e : decide (vx = V.non) = isNo d := by cases r1 <;> simp [isNo]
      rw [e]
      exact q _ G H ps .refl R (.d (.bl _))
theorem rx_notN {d : PyData} : RX K (fun x y H Q => y = .non ∧ Q (.bl (!decide (x = .non))) H) κ (.d d) (.d .none) (.d (.bool (!isNo d))) κ := fun G H ps vx vy R r1 r2 Q q => by
  cases r1 with
  | d r1 =>
    cases r2 with
    | d r2 =>
      cases r2
      refine ⟨rfl, ?_⟩
      have e : decide (vx = V.non) = isNo d := by cases r1 <;> simp [isNo]
      rw [e]
      exact q _ G H ps .refl R (.d (.bl _))
theorem rx_eqD {d e : PyData} (hx : AVD κ x d) (hy : AVD κ y e) (h1 : SeqAt.shaped d = true) (h2 : SeqAt.shaped e = true) : RX K (rEqD K) κ x y (.d (.bool (PyData.eqv d e))) κ := fun G H ps vx vy R r1 r2 Q q =>
  ⟨d, e, avd_dp R d x vx hx r1, avd_dp R e y vy hy r2, h1, h2, q _ G H ps .refl R (.d (.bl _))⟩
theorem rx_neD {d e : PyData} (hx : AVD κ x d) (hy : AVD κ y e) (h1 : SeqAt.shaped d = true) (h2 : SeqAt.shaped e = true) : RX K (rNeD K) κ x y (.d (.bool (!PyData.eqv d e))) κ := fun G H ps vx vy R r1 r2 Q q =>
  ⟨d, e, avd_dp R d x vx hx r1, avd_dp R e y vy hy r2, h1, h2, q _ G H ps .refl R (.d (.bl _))⟩
/-! calls -/
/-- a promise: arguments, cells, value, cells behind -/
abbrev FX := List AV → Cells → AV → Cells → Prop
def spX (K : PySem.W.Frag) (f : FX) : Sp := fun vs H Q _ => ∃ G ps κ as a κ', Rep K G H ps κ ∧ VRs K G ps vs as ∧ f as κ a κ' ∧ ∀ v G' H' ps', Stp G H ps G' H' ps' → Rep K G' H' ps' κ' → VR K G' ps' v a → Q v H'
theorem evx_call {f : FX} {dvs : List V} {das : List AV} {EE : XK} (h : EvAs K tas δ κ as κ1) (hd : ∀ G ps, VRs K G ps dvs das) (hf : f (as ++ das) κ1 a κ2) : EvX K (tCall (spX K f) dvs EE tas) δ κ a κ2 := fun G H ps σ R E Q q =>
  h G H ps σ R E _ fun vs G1 H1 p1 s1 R1 r1 => ⟨G1, p1, κ1, as ++ das, a, κ2, R1, vrs_app r1 (hd _ _), hf, fun v G2 H2 p2 s2 R2 r2 => q v G2 H2 p2 (s1.trans R.sub s2) R2 r2⟩
theorem evx_call0 {f : FX} {EE : XK} (h : EvAs K tas δ κ as κ1) (hf : f as κ1 a κ2) : EvX K (tCall (spX K f) [] EE tas) δ κ a κ2 := evx_call (das := []) h (fun _ _ => .nil) (by rw [List.append_nil]; exact hf)
theorem evx_callK {f : FX} {gV : List V → List V → List V} {gA : List AV → List AV → List AV} {bs : List AV} {EE : XK} {tks : TA} (h : EvAs K tas δ κ as κ1) (hk : EvAs K tks δ κ1 bs κ2)
    (hd : ∀ G ps vs ws, VRs K G ps vs as → VRs K G ps ws bs → VRs K G ps (gV vs ws) (gA as bs)) (hf : f (gA as bs) κ2 a κ3) : EvX K (L2.tCallK (spX K f) gV EE tas tks) δ κ a κ3 := fun G H ps σ R E Q q =>
  h G H ps σ R E _ fun vs G1 H1 p1 s1 R1 r1 => hk G1 H1 p1 σ R1 (s1.env E) _ fun ws G2 H2 p2 s2 R2 r2 => ⟨G2, p2, κ2, _, a, κ3, R2, hd _ _ _ _ (s2.vrs r1) r2, hf, fun v G3 H3 p3 s3 R3 r3 => q v G3 H3 p3 ((s1.trans R.sub s2).trans R.sub s3) R3 r3⟩

/-! ### statements -/
inductive Out where
  | nx (δ : Slots) (κ : Cells)
  | rt (a : AV) (κ : Cells)
  | bk (δ : Slots) (κ : Cells)
  | ct (δ : Slots) (κ : Cells)
structure Fin (K : PySem.W.Frag) (P : Out → Prop) (D : Ends) (G H : Hp) (ps : List Addr) : Prop where
  nx : ∀ G' H' ps' σ δ κ, Stp G H ps G' H' ps' → Rep K G' H' ps' κ → EnvR K G' ps' σ δ → P (.nx δ κ) → D.nx σ H'
  rt : ∀ G' H' ps' v a κ, Stp G H ps G' H' ps' → Rep K G' H' ps' κ → VR K G' ps' v a → P (.rt a κ) → D.rt v H'
  bk : ∀ G' H' ps' σ δ κ, Stp G H ps G' H' ps' → Rep K G' H' ps' κ → EnvR K G' ps' σ δ → P (.bk δ κ) → D.bk σ H'
  ct : ∀ G' H' ps' σ δ κ, Stp G H ps G' H' ps' → Rep K G' H' ps' κ → EnvR K G' ps' σ δ → P (.ct δ κ) → D.ct σ H'
def StX (K : PySem.W.Frag) (ts : TS) (δ : Slots) (κ : Cells) (P : Out → Prop) : Prop :=
  ∀ G H ps σ (D : Ends), Rep K G H ps κ → EnvR K G ps σ δ → Fin K P D G H ps → ts D σ H
variable {P P' : Out → Prop} {D : Ends} {tu tw : TS}
theorem Fin.step {G H G' H' : Hp} {ps ps' : List Addr} (F : Fin K P D G H ps) (e : Ex G H) (s : Stp G H ps G' H' ps') : Fin K P D G' H' ps' :=
  ⟨fun _ _ _ _ _ _ s2 R E p => F.nx _ _ _ _ _ _ (s.trans e s2) R E p, fun _ _ _ _ _ _ s2 R E p => F.rt _ _ _ _ _ _ (s.trans e s2) R E p, fun _ _ _ _ _ _ s2 R E p => F.bk _ _ _ _ _ _ (s.trans e s2) R E p, fun _ _ _ _ _ _ s2 R E p => F.ct _ _ _ _ _ _ (s.trans e s2) R E p⟩
theorem Fin.mono {G H : Hp} {ps : List Addr} (F : Fin K P D G H ps) (h : ∀ o, P' o → P o) : Fin K P' D G H ps :=
  ⟨fun _ _ _ _ _ _ s2 R E p => F.nx _ _ _ _ _ _ s2 R E (h _ p), fun _ _ _ _ _ _ s2 R E p => F.rt _ _ _ _ _ _ s2 R E (h _ p), fun _ _ _ _ _ _ s2 R E p => F.bk _ _ _ _ _ _ s2 R E (h _ p), fun _ _ _ _ _ _ s2 R E p => F.ct _ _ _ _ _ _ s2 R E (h _ p)⟩
theorem StX.mono (s : StX K tu δ κ P') (h : ∀ o, P' o → P o) : StX K tu δ κ P := fun G H ps σ D R E F => s G H ps σ D R E (F.mono h)
theorem stx_next (h : P (.nx δ κ)) : StX K tNext δ κ P := fun G H ps σ D R E F => F.nx G H ps σ δ κ .refl R E h
theorem stx_seq {M : Out → Prop} (h1 : StX K tu δ κ M) (hn : ∀ δ' κ', M (.nx δ' κ') → StX K tw δ' κ' P) (hr : ∀ a κ', M (.rt a κ') → P (.rt a κ')) (hb : ∀ a κ', M (.bk a κ') → P (.bk a κ')) (hc : ∀ a κ', M (.ct a κ') → P (.ct a κ')) : StX K (tSeq tu tw) δ κ P := fun G H ps σ D R E F =>
  h1 G H ps σ { D with nx := tw D } R E ⟨fun G1 H1 p1 σ1 δ1 κ1 s R1 E1 m => hn δ1 κ1 m G1 H1 p1 σ1 D R1 E1 (F.step R.sub s), fun G1 H1 p1 v a κ1 s R1 r m => F.rt G1 H1 p1 v a κ1 s R1 r (hr a κ1 m), fun G1 H1 p1 v a κ1 s R1 r m => F.bk G1 H1 p1 v a κ1 s R1 r (hb a κ1 m), fun G1 H1 p1 v a κ1 s R1 r m => F.ct G1 H1 p1 v a κ1 s R1 r (hc a κ1 m)⟩
/-- what follows the first statement, the ends else alike -/
def andThen (P : Out → Prop) (N : Slots → Cells → Prop) : Out → Prop
  | .nx δ κ => N δ κ
  | o => P o
theorem stx_seq' (h1 : StX K tu δ κ (andThen P fun δ' κ' => StX K tw δ' κ' P)) : StX K (tSeq tu tw) δ κ P := stx_seq h1 (fun _ _ h => h) (fun _ _ h => h) (fun _ _ h => h) (fun _ _ h => h)
theorem stx_asg {i : Nat} (h : EvX K te δ κ a κ1) (k : P (.nx (δ.set i (some a)) κ1)) : StX K (tAsg te (gName i)) δ κ P := fun G H ps σ D R E F =>
  h G H ps σ R E _ fun v G1 H1 p1 s R1 r => F.nx G1 H1 p1 _ _ κ1 s R1 ((s.env E).set r) k
theorem stx_ret (h : EvX K te δ κ a κ1) (k : P (.rt a κ1)) : StX K (tRet te) δ κ P := fun G H ps σ D R E F => h G H ps σ R E _ fun v G1 H1 p1 s R1 r => F.rt G1 H1 p1 v a κ1 s R1 r k
theorem stx_retN (k : P (.rt (.d .none) κ)) : StX K tRetN δ κ P := fun G H ps σ D R E F => F.rt G H ps _ _ κ .refl R (.d .non) k
theorem stx_drop (h : EvX K te δ κ a κ1) (k : P (.nx δ κ1)) : StX K (tDrop te) δ κ P := fun G H ps σ D R E F => h G H ps σ R E _ fun v G1 H1 p1 s R1 r => F.nx G1 H1 p1 _ _ κ1 s R1 (s.env E) k
theorem stx_ifT (h : EvB K t δ κ true κ1) (k : StX K tu δ κ1 P) : StX K (tIfS t tu tw) δ κ P := fun G H ps σ D R E F => h G H ps σ R E _ fun G1 H1 p1 s R1 => by
  show tu D σ H1
  exact k G1 H1 p1 σ D R1 (s.env E) (F.step R.sub s)
theorem stx_ifF (h : EvB K t δ κ false κ1) (k : StX K tw δ κ1 P) : StX K (tIfS t tu tw) δ κ P := fun G H ps σ D R E F => h G H ps σ R E _ fun G1 H1 p1 s R1 => by
  show tw D σ H1
  exact k G1 H1 p1 σ D R1 (s.env E) (F.step R.sub s)
theorem stx_if {c : Bool} (h : EvB K t δ κ c κ1) (k1 : c = true → StX K tu δ κ1 P) (k2 : c = false → StX K tw δ κ1 P) : StX K (tIfS t tu tw) δ κ P := by
  cases c with
  | true => exact stx_ifT h (k1 rfl)
  | false => exact stx_ifF h (k2 rfl)
theorem stx_brk (k : P (.bk δ κ)) : StX K tBreak δ κ P := fun G H ps σ D R E F => F.bk G H ps σ δ κ .refl R E k
theorem stx_cont (k : P (.ct δ κ)) : StX K tCont δ κ P := fun G H ps σ D R E F => F.ct G H ps σ δ κ .refl R E k
/-! targets: js are the slots that they set -/
def Outside (js : List Nat) (σ σ' : L2.St) : Prop := σ'.length = σ.length ∧ ∀ i, i ∉ js → σ'[i]? = σ[i]?
theorem Outside.refl {js : List Nat} {σ : L2.St} : Outside js σ σ := ⟨rfl, fun _ _ => rfl⟩
def GX (K : PySem.W.Frag) (g : TG) (a : AV) (δ δ' : Slots) (js : List Nat) : Prop := ∀ G H ps σ v, Ex G H → VR K G ps v a → EnvR K G ps σ δ → ∀ Q : L2.St → Hp → Prop, (∀ σ', EnvR K G ps σ' δ' → Outside js σ σ' → Q σ' H) → g v σ H Q
def GXs (K : PySem.W.Frag) (g : TGs) (as : List AV) (δ δ' : Slots) (js : List Nat) : Prop := ∀ G H ps σ vs, Ex G H → VRs K G ps vs as → EnvR K G ps σ δ → ∀ Q : L2.St → Hp → Prop, (∀ σ', EnvR K G ps σ' δ' → Outside js σ σ' → Q σ' H) → g vs σ H Q
variable {δ' δ'' : Slots} {g : TG} {gs : TGs} {js ks : List Nat}
theorem gx_name {i : Nat} : GX K (gName i) a δ (δ.set i (some a)) [i] := fun G H ps σ v e r E Q q => q _ (E.set r) ⟨by simp, fun j hj => by
  rw [List.getElem?_set_ne]
  intro z
  exact hj (by simp [z])⟩
theorem gxs_nil : GXs K gNil [] δ δ [] := fun G H ps σ vs e r E Q q => by cases r; exact ⟨rfl, q σ E .refl⟩
theorem gxs_cons (h1 : GX K g a δ δ' js) (h2 : GXs K gs as δ' δ'' ks) : GXs K (gCons g gs) (a :: as) δ δ'' (js ++ ks) := fun G H ps σ vs e r E Q q => by
  cases r with
  | cons r1 r2 => exact ⟨_, _, rfl, h1 G H ps σ _ e r1 E _ fun σ' E' o => h2 G H ps σ' _ e r2 E' Q fun σ2 E2 o2 => q σ2 E2 ⟨o2.1.trans o.1, fun j hj => (o2.2 j (fun z => hj (List.mem_append_right _ z))).trans (o.2 j (fun z => hj (List.mem_append_left _ z)))⟩⟩
theorem gx_tupD {ds : List PyData} {n : Nat} (h : GXs K gs (ds.map .d) δ δ' js) (hn : ds.length = n) : GX K (gTup K n gs) (.d (.tuple ds)) δ δ' js := fun G H ps σ v e r E Q q => by
  cases r with
  | d r => cases r with | tup s1 s2 => exact ⟨_, _, rfl, ex_t e s1, by rw [dpAll_len s2]; exact hn, h G H ps σ _ e (dpAll_vrs s2) E Q q⟩
theorem gx_tupT {n : Nat} (h : GXs K gs as δ δ' js) (hn : as.length = n) : GX K (gTup K n gs) (.t as) δ δ' js := fun G H ps σ v e r E Q q => by
  cases r with
  | t s1 s2 => exact ⟨_, _, rfl, ex_t e s1, by rw [vrs_len s2]; exact hn, h G H ps σ _ e s2 E Q q⟩
theorem stx_asgG (h : EvX K te δ κ a κ1) (hg : GX K g a δ δ' js) (k : P (.nx δ' κ1)) : StX K (tAsg te g) δ κ P := fun G H ps σ D R E F =>
  h G H ps σ R E _ fun v G1 H1 p1 s R1 r => hg G1 H1 p1 σ v R1.sub r (s.env E) _ fun σ' E' _ => F.nx G1 H1 p1 σ' δ' κ1 s R1 E' k
end
end BY
end

section
set_option Elab.async false
set_option linter.all false
set_option maxRecDepth 100000
set_option maxHeartbeats 4000000
namespace BY
open PySem PySem.Spec PyProof.Rows L2
open Evl (Ex ex_l ex_t)
section
variable {K : PySem.W.Frag} {δ δ' : Slots} {κ κ1 κ2 κ3 : Cells} {ta tb tc te tl : TE} {t u tt : TT} {x y z a b : AV} {r : R2} {tas : TA} {as : List AV} {P P' : Out → Prop} {D : Ends} {tu tw : TS} {g : TG} {wi : TI} {n : Nat} {it : Nat → AV}
/-! ### what is walked -/
/-- wi gives n items, it i the i-th, while Inv holds of the cells -/
def Src (K : PySem.W.Frag) (wi : TI) (δ : Slots) (κ : Cells) (n : Nat) (it : Nat → AV) (κ1 : Cells) (Inv : Cells → Prop) : Prop :=
  ∀ G H ps σ, Rep K G H ps κ → EnvR K G ps σ δ → ∀ R : It → Hp → Prop, (∀ (J : It) G1 H1 p1, Stp G H ps G1 H1 p1 → Rep K G1 H1 p1 κ1 →
    (∀ G' H' ps' κ' i, Stp G1 H1 p1 G' H' ps' → Rep K G' H' ps' κ' → Inv κ' →
      (i < n → J.go i H' ∧ ∀ x H2, J.yld i H' x H2 → ∃ G2, Stp G' H' ps' G2 H2 ps' ∧ Rep K G2 H2 ps' κ' ∧ VR K G2 ps' x (it i)) ∧ (i = n → J.stop i H')) → R J H1) → wi σ H R
/-- what the turn of a loop leaves: I holds of the next turn, or the loop is left -/
def turnP (P : Out → Prop) (I : Slots → Cells → Prop) : Out → Prop
  | .nx δ κ => I δ κ
  | .ct δ κ => I δ κ
  | .bk δ κ => P (.nx δ κ)
  | .rt a κ => P (.rt a κ)
/-- the state at a turn -/
def At (K : PySem.W.Frag) (G H : Hp) (ps : List Addr) (I : Slots → Cells → Prop) (σ : L2.St) (H' : Hp) : Prop := ∃ G' ps' δ κ, Stp G H ps G' H' ps' ∧ Rep K G' H' ps' κ ∧ EnvR K G' ps' σ δ ∧ I δ κ
theorem fin_turn {G H G' H' G0 H0 : Hp} {ps ps' p0 : List Addr} {I : Slots → Cells → Prop} (F : Fin K P D G H ps) (e : Ex G H) (s : Stp G H ps G' H' ps') (e0 : Ex G0 H0) (s0 : Stp G0 H0 p0 G' H' ps') :
    Fin K (turnP P I) { D with nx := At K G0 H0 p0 I, ct := At K G0 H0 p0 I, bk := D.nx } G' H' ps' :=
  ⟨fun G2 H2 p2 σ δ κ s2 R E p => ⟨G2, p2, δ, κ, s0.trans e0 s2, R, E, p⟩, fun G2 H2 p2 v a κ s2 R r p => F.rt _ _ _ v a κ (s.trans e s2) R r p,
    fun G2 H2 p2 σ δ κ s2 R E p => F.nx _ _ _ σ δ κ (s.trans e s2) R E p, fun G2 H2 p2 σ δ κ s2 R E p => ⟨G2, p2, δ, κ, s0.trans e0 s2, R, E, p⟩⟩
theorem stx_for {Inv : Cells → Prop} (I : Nat → Slots → Cells → Prop) (S : Src K wi δ κ n it κ1 Inv) (h0 : I 0 δ κ1) (hI : ∀ i δ' κ', I i δ' κ' → Inv κ')
    (hs : ∀ (i : Nat) δ' κ', i < n → I i δ' κ' → ∃ δ2 js, GX K g (it i) δ' δ2 js ∧ StX K tu δ2 κ' (turnP P (I (i + 1)))) (hd : ∀ δ' κ', I n δ' κ' → P (.nx δ' κ')) : StX K (tFor wi g tu) δ κ P := fun G H ps σ D R E F =>
  S G H ps σ R E _ fun J G1 H1 p1 s R1 hJ => by
    refine ⟨fun i m σ H => m = n - i ∧ i ≤ n ∧ At K G1 H1 p1 (I i) σ H, ⟨n, by simp, Nat.zero_le _, G1, p1, δ, κ1, .refl, R1, s.env E, h0⟩, ?_⟩
    rintro i m σ' H' ⟨rfl, hi, G2, p2, δ2, κ2, s2, R2, E2, q⟩
    obtain ⟨j1, j2⟩ := hJ G2 H' p2 κ2 i s2 R2 (hI i δ2 κ2 q)
    by_cases hlt : i < n
    · obtain ⟨go, yl⟩ := j1 hlt
      refine .inr ⟨go, At K G1 H1 p1 (I (i + 1)), fun σ3 H3 p' => ⟨n - (i + 1), by omega, rfl, hlt, p'⟩, fun x H3 y => ?_⟩
      obtain ⟨G3, s3, R3, r3⟩ := yl x H3 y
      obtain ⟨δ4, js, hg, hb⟩ := hs i δ2 κ2 hlt q
      have s13 := s2.trans R1.sub s3
      exact hg G3 H3 p2 σ' x R3.sub r3 (s3.env E2) _ fun σ4 E4 _ => hb G3 H3 p2 σ4 _ R3 E4 (fin_turn F R.sub (s.trans R.sub s13) R1.sub s13)
    · have e : i = n := by omega
      subst e
      exact .inl ⟨j2 rfl, F.nx G2 H' p2 σ' δ2 κ2 (s.trans R.sub s2) R2 E2 (hd δ2 κ2 q)⟩
/-! sources -/
theorem src_range1 {n : Int} (h : EvAs K tas δ κ [.d (.int n)] κ1) (h1 : -100000 ≤ n := by omega) (h2 : n ≤ 100000 := by omega) : Src K (iRng1 tas) δ κ n.toNat (fun i => .d (.int (i : Int))) κ1 (fun _ => True) := fun G H ps σ R E Q q =>
  h G H ps σ R E _ fun vs G1 H1 p1 s R1 rs => by
    cases rs with
    | cons r1 rt =>
      cases rt
      cases r1 with
      | d r1 =>
        cases r1
        refine ⟨n, rfl, by omega, by omega, q _ G1 H1 p1 s R1 fun G' H' ps' κ' i s' R' _ => ⟨fun hi => ⟨hi, fun x H2 y => ?_⟩, fun e => Nat.le_of_eq e.symm⟩⟩
        obtain ⟨e1, e2⟩ := y
        subst e1 e2
        refine ⟨G', .refl, R', .d ?_⟩
        rw [show (0 : Int) + (i : Int) = (i : Int) from Int.zero_add _]
        exact .int _
theorem src_range2 {lo hi : Int} (h : EvAs K tas δ κ [.d (.int lo), .d (.int hi)] κ1) (h1 : -100000 ≤ lo := by omega) (h2 : lo ≤ 100000 := by omega) (h3 : -100000 ≤ hi := by omega) (h4 : hi ≤ 100000 := by omega) : Src K (iRng2 tas) δ κ (hi - lo).toNat (fun i => .d (.int (lo + (i : Int)))) κ1 (fun _ => True) := fun G H ps σ R E Q q =>
  h G H ps σ R E _ fun vs G1 H1 p1 s R1 rs => by
    cases rs with
    | cons r1 rt =>
      cases rt with
      | cons r2 rt =>
        cases rt
        cases r1 with
        | d r1 =>
          cases r1
          cases r2 with
          | d r2 =>
            cases r2
            refine ⟨lo, hi, rfl, ⟨by omega, by omega, by omega, by omega⟩, q _ G1 H1 p1 s R1 fun G' H' ps' κ' i s' R' _ => ⟨fun hi => ⟨hi, fun x H2 y => ?_⟩, fun e => Nat.le_of_eq e.symm⟩⟩
            obtain ⟨e1, e2⟩ := y
            subst e1 e2
            exact ⟨G', .refl, R', .d (.int _)⟩
theorem src_listD {ds : List PyData} (h : EvX K tl δ κ (.d (.list ds)) κ1) : Src K (iList K tl) δ κ ds.length (fun i => .d (ds.getD i .none)) κ1 (fun _ => True) := fun G H ps σ R E Q q =>
  h G H ps σ R E _ fun v G1 H1 p1 s R1 r1 => by
    cases r1 with
    | d r1 =>
      cases r1 with
      | @lst a vs _ s1 s2 =>
        refine ⟨a, rfl, ⟨vs, ex_l R1.sub s1⟩, q _ G1 H1 p1 s R1 fun G' H' ps' κ' i s' R' _ => ?_⟩
        have hs : SqL K H' a vs := ex_l R'.sub (ex_l s'.g s1)
        have hl := dpAll_len s2
        refine ⟨fun hi => ⟨⟨vs, vs[i]'(by omega), hs, by simp [show i < vs.length by omega]⟩, fun x H2 y => ?_⟩, fun e => ⟨vs, hs, by omega⟩⟩
        obtain ⟨e1, e2⟩ := y
        subst e1
        obtain ⟨d, ed, rd⟩ := dpAll_at' s2 (e2 vs hs)
        refine ⟨G', .refl, R', .d ?_⟩
        rw [List.getD_eq_getElem?_getD, ed]
        exact dp_mono s'.g _ _ rd
theorem src_tupD {ds : List PyData} (h : EvX K tl δ κ (.d (.tuple ds)) κ1) : Src K (iTup K tl) δ κ ds.length (fun i => .d (ds.getD i .none)) κ1 (fun _ => True) := fun G H ps σ R E Q q =>
  h G H ps σ R E _ fun v G1 H1 p1 s R1 r1 => by
    cases r1 with
    | d r1 =>
      cases r1 with
      | @tup a vs _ s1 s2 =>
        refine ⟨a, rfl, ⟨vs, ex_t R1.sub s1⟩, q _ G1 H1 p1 s R1 fun G' H' ps' κ' i s' R' _ => ?_⟩
        have hs : SqT K H' a vs := ex_t R'.sub (ex_t s'.g s1)
        have hl := dpAll_len s2
        refine ⟨fun hi => ⟨⟨vs, vs[i]'(by omega), hs, by simp [show i < vs.length by omega]⟩, fun x H2 y => ?_⟩, fun e => ⟨vs, hs, by omega⟩⟩
        obtain ⟨e1, e2⟩ := y
        subst e1
        obtain ⟨d, ed, rd⟩ := dpAll_at' s2 (e2 vs hs)
        refine ⟨G', .refl, R', .d ?_⟩
        rw [List.getD_eq_getElem?_getD, ed]
        exact dp_mono s'.g _ _ rd
theorem src_tupT {ds : List AV} (h : EvX K tl δ κ (.t ds) κ1) : Src K (iTup K tl) δ κ ds.length (fun i => ds.getD i (.d .none)) κ1 (fun _ => True) := fun G H ps σ R E Q q =>
  h G H ps σ R E _ fun v G1 H1 p1 s R1 r1 => by
    cases r1 with
    | @t a vs _ s1 s2 =>
        refine ⟨a, rfl, ⟨vs, ex_t R1.sub s1⟩, q _ G1 H1 p1 s R1 fun G' H' ps' κ' i s' R' _ => ?_⟩
        have hs : SqT K H' a vs := ex_t R'.sub (ex_t s'.g s1)
        have hl := vrs_len s2
        refine ⟨fun hi => ⟨⟨vs, vs[i]'(by omega), hs, by simp [show i < vs.length by omega]⟩, fun x H2 y => ?_⟩, fun e => ⟨vs, hs, by omega⟩⟩
        obtain ⟨e1, e2⟩ := y
        subst e1
        obtain ⟨d, ed, rd⟩ := vrs_at' s2 (e2 vs hs)
        refine ⟨G', .refl, R', ?_⟩
        show VR K G' ps' x (ds.getD i (.d .none))
        rw [List.getD_eq_getElem?_getD, ed]
        exact s'.vr rd
theorem src_cell {ds : List AV} {k : Nat} (h : EvX K tl δ κ (.c k) κ1) (hk : κ1[k]? = some ds) : Src K (iList K tl) δ κ ds.length (fun i => ds.getD i (.d .none)) κ1 (fun κ => κ[k]? = some ds) := fun G H ps σ R E Q q =>
  h G H ps σ R E _ fun v G1 H1 p1 s R1 r1 => by
    cases r1 with
    | @c p _ r1 =>
        obtain ⟨vs0, e0, _⟩ := R1.cellOf r1 hk
        refine ⟨p, rfl, ⟨vs0, .inl (.inl e0)⟩, q _ G1 H1 p1 s R1 fun G' H' ps' κ' i s' R' hk' => ?_⟩
        obtain ⟨qs, eq, _⟩ := s'.pre
        obtain ⟨vs, e1, s2⟩ := R'.cellOf (pre_at eq r1) hk'
        have hs : SqL K H' p vs := .inl (.inl e1)
        have hl := vrs_len s2
        refine ⟨fun hi => ⟨⟨vs, vs[i]'(by omega), hs, by simp [show i < vs.length by omega]⟩, fun x H2 y => ?_⟩, fun e => ⟨vs, hs, by omega⟩⟩
        obtain ⟨e1, e2⟩ := y
        subst e1
        obtain ⟨d, ed, rd⟩ := vrs_at' s2 (e2 vs hs)
        refine ⟨G', .refl, R', ?_⟩
        show VR K G' ps' x (ds.getD i (.d .none))
        rw [List.getD_eq_getElem?_getD, ed]
        exact rd
/-! ### comprehensions -/
theorem wipe_at {σ : L2.St} : ∀ {vs : List Nat} {i : Nat}, i ∈ vs → (wipe σ vs)[i]? = if i < σ.length then some none else none
  | [], i, h => by cases h
  | v :: vs, i, h => by
    show ((wipe σ vs).set v none)[i]? = _
    by_cases e : v = i
    · subst e
      by_cases hl : v < σ.length
      · rw [List.getElem?_set_self (by rw [wipe_length]; exact hl), if_pos hl]
      · rw [List.getElem?_eq_none (by rw [List.length_set, wipe_length]; omega), if_neg hl]
    · rw [List.getElem?_set_ne e]
      exact wipe_at (by rcases List.mem_cons.mp h with z | z; exact absurd z.symm e; exact z)
theorem wipe_same {σ σ' : L2.St} {js vs : List Nat} (o : Outside js (wipe σ vs) σ') (h : ∀ j ∈ js, j ∈ vs) : wipe σ' vs = wipe σ vs := by
  have hl : σ'.length = σ.length := by rw [o.1, wipe_length]
  apply List.ext_getElem?
  intro i
  by_cases hi : i ∈ vs
  · rw [wipe_at hi, wipe_at hi, hl]
  · rw [wipe_out hi, o.2 i (fun z => hi (h i z))]
structure LcAt (K : PySem.W.Frag) (G1 H1 : Hp) (p1 : List Addr) (Dl : Addr) (I : List AV → Cells → Prop) (i : Nat) (H' : Hp) (G' : Hp) (ps' : List Addr) (acc : List AV) (κ' : Cells) (vs' : List V) : Prop where
  s : Stp G1 H1 p1 G' H' ps'
  R : Rep K G' H' ps' κ'
  dl : H' Dl = some (.lst vs')
  r : VRs K G' ps' vs' acc
  q : I acc κ'
  gD : G' Dl = none
  pD : Dl ∉ ps'
  le : acc.length ≤ i
theorem side_rep {G H : Hp} {ps : List Addr} (R : Rep K G H ps κ) {p : Addr} {o : HO} (h1 : G p = none) (h2 : p ∉ ps) : Rep K G (upd H p o) ps κ := by
  refine ⟨ex_up2 R.sub h1, R.nd, R.len, fun k q xs hp hk => ?_⟩
  obtain ⟨g, vs, e, r⟩ := R.cell k q xs hp hk
  refine ⟨g, vs, ?_, r⟩
  rw [upd_ne (fun z => h2 (by rw [← z]; exact List.mem_of_getElem? hp))]
  exact e
theorem side_stp {G H G' H' : Hp} {ps ps' : List Addr} (s : Stp G H ps G' H' ps') {p : Addr} {o : HO} (h : H p = none) : Stp G H ps G' (upd H' p o) ps' := by
  refine ⟨s.g, s.pre, fun q u e hn => ?_, fun q u e => ?_, s.fresh⟩
  · rw [upd_ne (ne_of_none e h)]; exact s.keep q u e hn
  · rw [upd_ne (ne_of_none e h)]; exact s.kept q u e
theorem Stp.keepG {G H G' H' : Hp} {ps ps' : List Addr} (s : Stp G H ps G' H' ps') {p : Addr} {o : HO} (h : H p = some o) (g : G p = none) : G' p = none := by
  cases e : G' p with
  | none => rfl
  | some u =>
    rcases s.fresh p u e with z | z
    · rw [g] at z; cases z
    · rw [h] at z; cases z
theorem Stp.keepP {G H G' H' : Hp} {ps ps' : List Addr} (s : Stp G H ps G' H' ps') {p : Addr} {o : HO} (h : H p = some o) (g : p ∉ ps) : p ∉ ps' := by
  obtain ⟨qs, e, f⟩ := s.pre
  rw [e]
  intro m
  rcases List.mem_append.mp m with z | z
  · exact g z
  · rw [f p z] at h; cases h
theorem lc_core {vs : List Nat} {Inv : Cells → Prop} (I : Nat → List AV → Cells → Prop) (S : Src K wi δ κ n it κ1 Inv) (hn : n ≤ 100000) (h0 : I 0 [] κ1) (hI : ∀ i acc κ', I i acc κ' → Inv κ')
    (hs : ∀ (i : Nat) acc κ', i < n → I i acc κ' → ∃ δ2 js c κa, GX K g (it i) (wipeE δ vs) δ2 js ∧ (∀ j ∈ js, j ∈ vs) ∧ EvB K tt δ2 κ' c κa ∧ (c = true → ∃ y κb, EvX K te δ2 κa y κb ∧ I (i + 1) (acc ++ [y]) κb) ∧ (c = false → I (i + 1) acc κa))
    {G H : Hp} {ps : List Addr} {σ : L2.St} {Q : VK} (R : Rep K G H ps κ) (E : EnvR K G ps σ δ)
    (hd : ∀ Dl H1 H' G1 G' p1 ps' acc κ' vs', Stp G H ps G1 H1 p1 → H1 Dl = none → LcAt K G1 H1 p1 Dl (I n) n H' G' ps' acc κ' vs' → Q (.ref Dl) H') : tLc wi g tt te vs σ H Q :=
  S G H ps σ R E _ fun J G1 H1 p1 s R1 hJ Dl hD => by
    refine ⟨fun i m H' => m = n - i ∧ i ≤ n ∧ ∃ G' ps' acc κ' vs', LcAt K G1 H1 p1 Dl (I i) i H' G' ps' acc κ' vs', ⟨n, by simp, Nat.zero_le _, G1, p1, [], κ1, [], ⟨side_stp .refl hD, side_rep R1 (ex_none R1.sub hD) (not_ps R1 hD), upd_same, .nil, h0, ex_none R1.sub hD, not_ps R1 hD, Nat.le_refl _⟩⟩, ?_⟩
    rintro i m H' ⟨rfl, hi, G2, p2, acc, κ2, vs2, L⟩
    obtain ⟨j1, j2⟩ := hJ G2 H' p2 κ2 i L.s L.R (hI i acc κ2 L.q)
    by_cases hlt : i < n
    · obtain ⟨go, yl⟩ := j1 hlt
      refine .inr ⟨go, fun H'' => ∃ G' ps' acc κ' vs', LcAt K G1 H1 p1 Dl (I (i + 1)) (i + 1) H'' G' ps' acc κ' vs', fun H3 p' => ⟨n - (i + 1), by omega, rfl, hlt, p'⟩, fun x H3 y => ?_⟩
      obtain ⟨G3, s3, R3, r3⟩ := yl x H3 y
      obtain ⟨δ4, js, c, κa, hg, hj, hb, hT, hF⟩ := hs i acc κ2 hlt L.q
      have s03 := L.s.trans R1.sub s3
      have E3 := (s03.env (s.env E)).wipe vs
      refine hg G3 H3 p2 _ x R3.sub r3 E3 _ fun σ4 E4 o4 => ⟨wipe_same o4 hj, hb G3 H3 p2 σ4 R3 E4 _ fun G5 H5 p5 s5 R5 => ?_⟩
      have s05 := s03.trans R1.sub s5
      have d3 : H3 Dl = some (.lst vs2) := s3.keep _ _ L.dl L.pD
      have g3 := s3.keepG L.dl L.gD
      have q3 := s3.keepP L.dl L.pD
      have d5 : H5 Dl = some (.lst vs2) := s5.keep _ _ d3 q3
      have g5 := s5.keepG d3 g3
      have q5 := s5.keepP d3 q3
      cases c with
      | true =>
        obtain ⟨yv, κb, he, hq⟩ := hT rfl
        show te σ4 H5 _
        refine he G5 H5 p5 σ4 R5 (s5.env E4) _ fun v G6 H6 p6 s6 R6 r6 => ?_
        have d6 : H6 Dl = some (.lst vs2) := s6.keep _ _ d5 q5
        have g6 := s6.keepG d5 g5
        have q6 := s6.keepP d5 q5
        have rr : VRs K G6 p6 vs2 acc := s6.vrs (s5.vrs (s3.vrs L.r))
        have hlen : vs2.length ≤ i := by rw [vrs_len rr]; exact L.le
        refine ⟨vs2, d6, Evl.sz_lt (by omega), G6, p6, acc ++ [yv], κb, vs2 ++ [v], side_stp (s05.trans R1.sub s6) hD, side_rep R6 g6 q6, upd_same, vrs_app rr (.cons r6 .nil), hq, g6, q6, ?_⟩
        have := L.le
        rw [List.length_append, List.length_singleton]
        omega
      | false =>
        exact ⟨G5, p5, acc, κa, vs2, s05, R5, d5, s5.vrs (s3.vrs L.r), hF rfl, g5, q5, Nat.le_succ_of_le L.le⟩
    · have e : i = n := by omega
      subst e
      exact .inl ⟨j2 rfl, hd Dl H1 H' G1 G2 p1 p2 acc κ2 vs2 s hD L⟩
/-- a comprehension whose list is data -/
theorem evx_lcD {vs : List Nat} {Inv : Cells → Prop} {ds : List PyData} (I : Nat → List AV → Cells → Prop) (S : Src K wi δ κ n it κ1 Inv) (hn : n ≤ 100000) (h0 : I 0 [] κ1) (hI : ∀ i acc κ', I i acc κ' → Inv κ')
    (hs : ∀ (i : Nat) acc κ', i < n → I i acc κ' → ∃ δ2 js c κa, GX K g (it i) (wipeE δ vs) δ2 js ∧ (∀ j ∈ js, j ∈ vs) ∧ EvB K tt δ2 κ' c κa ∧ (c = true → ∃ y κb, EvX K te δ2 κa y κb ∧ I (i + 1) (acc ++ [y]) κb) ∧ (c = false → I (i + 1) acc κa))
    (hd : ∀ acc κ', I n acc κ' → acc = ds.map AV.d ∧ κ' = κ2) : EvX K (tLc wi g tt te vs) δ κ (.d (.list ds)) κ2 := fun G H ps σ R E Q q =>
  lc_core I S hn h0 hI hs R E fun Dl H1 H' G1 G' p1 ps' acc κ' vs' s hD L => by
    obtain ⟨rfl, rfl⟩ := hd acc κ' L.q
    have e1 : Ex G' (upd G' Dl (.lst vs')) := ex_up L.gD
    have s2 : Stp G1 H1 p1 (upd G' Dl (.lst vs')) H' ps' := ⟨fun p o h => e1 p o (L.s.g p o h), L.s.pre, L.s.keep, L.s.kept, fun p o h => by
      by_cases z : p = Dl
      · subst z; exact .inr hD
      · rw [upd_ne z] at h; exact L.s.fresh p o h⟩
    refine q _ (upd G' Dl (.lst vs')) H' ps' (s.trans R.sub s2) ⟨fun p o h => ?_, L.R.nd, L.R.len, fun k p xs hp hk => ?_⟩ (.d (.lst (.inl (.inl upd_same)) (dpAll_mono e1 _ _ (vrs_dpAll L.r))))
    · by_cases z : p = Dl
      · subst z; rw [upd_same] at h; cases h; exact L.dl
      · rw [upd_ne z] at h; exact L.R.sub p o h
    · obtain ⟨gg, ws, e, r⟩ := L.R.cell k p xs hp hk
      refine ⟨?_, ws, e, vrs_mono e1 (qs := []) (by simp) _ _ r⟩
      rw [upd_ne (fun z => L.pD (by rw [← z]; exact List.mem_of_getElem? hp))]
      exact gg
/-- a comprehension whose list is a cell -/
theorem evx_lcC {vs : List Nat} {Inv : Cells → Prop} {m : Nat} (I : Nat → List AV → Cells → Prop) (S : Src K wi δ κ n it κ1 Inv) (hn : n ≤ 100000) (h0 : I 0 [] κ1) (hI : ∀ i acc κ', I i acc κ' → Inv κ')
    (hs : ∀ (i : Nat) acc κ', i < n → I i acc κ' → ∃ δ2 js c κa, GX K g (it i) (wipeE δ vs) δ2 js ∧ (∀ j ∈ js, j ∈ vs) ∧ EvB K tt δ2 κ' c κa ∧ (c = true → ∃ y κb, EvX K te δ2 κa y κb ∧ I (i + 1) (acc ++ [y]) κb) ∧ (c = false → I (i + 1) acc κa))
    (hd : ∀ acc κ', I n acc κ' → κ2 = κ' ++ [acc] ∧ m = κ'.length) : EvX K (tLc wi g tt te vs) δ κ (.c m) κ2 := fun G H ps σ R E Q q =>
  lc_core I S hn h0 hI hs R E fun Dl H1 H' G1 G' p1 ps' acc κ' vs' s hD L => by
    obtain ⟨rfl, rfl⟩ := hd acc κ' L.q
    obtain ⟨qs, eq, fq⟩ := L.s.pre
    have s2 : Stp G1 H1 p1 G' H' (ps' ++ [Dl]) := ⟨L.s.g, ⟨qs ++ [Dl], by rw [eq, List.append_assoc], fun p hp => by
      rcases List.mem_append.mp hp with z | z
      · exact fq p z
      · rw [List.mem_singleton.mp z]; exact hD⟩, L.s.keep, L.s.kept, L.s.fresh⟩
    refine q _ G' H' (ps' ++ [Dl]) (s.trans R.sub s2) ⟨L.R.sub, ?_, by simp [L.R.len], fun k p xs hp hk => ?_⟩ (.c (by rw [← L.R.len, List.getElem?_append_right (Nat.le_refl _)]; simp))
    · rw [List.nodup_append]
      refine ⟨L.R.nd, by simp, fun a ha b hb => ?_⟩
      rw [List.mem_singleton.mp hb]
      intro z
      subst z
      exact L.pD ha
    · by_cases hl : k < ps'.length
      · rw [List.getElem?_append_left hl] at hp
        rw [List.getElem?_append_left (by rw [← L.R.len]; exact hl)] at hk
        obtain ⟨gg, ws, e, r2⟩ := L.R.cell k p xs hp hk
        exact ⟨gg, ws, e, vrs_mono (fun _ _ e => e) rfl _ _ r2⟩
      · have e1 : k = ps'.length := by
          have := (List.getElem?_eq_some_iff.mp hp).1
          simp at this
          omega
        subst e1
        rw [List.getElem?_append_right (Nat.le_refl _)] at hp
        have e2 : κ'.length = ps'.length := L.R.len.symm
        rw [List.getElem?_append_right (by rw [e2]; exact Nat.le_refl _), e2] at hk
        simp at hp hk
        subst hp hk
        exact ⟨L.gD, vs', L.dl, vrs_mono (fun _ _ e => e) rfl _ _ L.r⟩
end
end BY
end

section
set_option Elab.async false
set_option linter.all false
set_option maxRecDepth 100000
set_option maxHeartbeats 4000000
namespace PySem
open Sem (wp)
theorem by_enum_meets {v : Value} {o : Obj} {Hh : Heap → Prop} (B : Begins v o Hh) :
    Meets (Builtin.«enumerate.__new__» ⟨[.type "enumerate", v], []⟩) (fun _ R s => Hh s.heap ∧
      R (.ok (.ret (.ref (s.heap.push o).objs.size))) { s with heap := (s.heap.push o).push { cls := .type "enumerate", data := .fields #[.none, .bool false, .ref s.heap.objs.size, rawInt 0, .none, .none] } }) := by
  refine .of_wp fun prog w A R s h => ?_
  obtain ⟨hp, g, d, tk, os⟩ := s
  obtain ⟨h1, h⟩ := h
  have hsub := sub_enumerate
  have q1 : ∀ {A' : Around} {E : Value → Shared → Prop} {Q : Value → Shared → Prop}, Q (.ref hp.objs.size) ⟨hp.push o, g, d, tk, os⟩ → wpAny (model prog w) A' (pyIter v) Q E ⟨hp, g, d, tk, os⟩ :=
      fun q => B.iter prog w _ _ ⟨hp, g, d, tk, os⟩ _ h1 q
  wp_walk using q1
  refine wpAny_stack_any fun st => wpAny_pure ?_
  split
  · rename_i c _ _ _ _ _
    cases (c == Value.type "enumerate")
    · wp_walk using q1; exact ⟨_, rfl, h⟩
    · wp_walk using q1; exact ⟨_, rfl, h⟩
  · wp_walk using q1; exact ⟨_, rfl, h⟩
theorem by_enum_call {prog : Program} {w : World} {A : Around} {E : Value → Shared → Prop} {s : Shared} {v : Value} {o : Obj} {Hh : Heap → Prop} {Q : Value → Shared → Prop} (B : Begins v o Hh) (h1 : Hh s.heap)
    (h : ∀ h', IsEnum h' (s.heap.objs.size + 1) s.heap.objs.size 0 .none → h'.get? s.heap.objs.size = some o → (∀ b o, s.heap.get? b = some o → h'.get? b = some o) → Q (.ref (s.heap.objs.size + 1)) { s with heap := h' }) :
    wpAny (model prog w) A (call (.type "enumerate") [v]) Q E s := by
  refine callType_new F.called_enumerate (by decide) (F.typeCall_enumerate_1 _) (F.newCall_enumerate_1 _) (fun obj => F.args_object_init_2 obj _) F.entry_enumerate_new (by_enum_meets B) ⟨h1, ?_⟩
  have hz : (s.heap.push o).objs.size = s.heap.objs.size + 1 := Heap.size_push ..
  show _ ∧ _
  rw [hz]
  have he : IsEnum ((s.heap.push o).push { cls := .type "enumerate", data := .fields #[.none, .bool false, .ref s.heap.objs.size, rawInt 0, .none, .none] }) (s.heap.objs.size + 1) s.heap.objs.size 0 .none := by
    have q := Heap.get?_push_size (s.heap.push o) (o := { cls := .type "enumerate", data := .fields #[.none, .bool false, .ref s.heap.objs.size, rawInt 0, .none, .none] }) rfl
    rw [hz] at q
    exact q
  exact ⟨⟨_, he, rfl⟩, h _ he (Heap.get?_push_of_some _ (Heap.get?_push_size _ B.free)) fun b o x => Heap.get?_push_of_some _ (Heap.get?_push_of_some _ x)⟩
end PySem
namespace BY
open PySem PySem.Spec PyProof.Rows L2
open Evl (Ex ex_l ex_t)
/-! ### enumerate of a tuple -/
def IteT (K : PySem.W.Frag) (a : Addr) : It :=
  ⟨fun i H => ∃ (xs : List V) (x : V), SqT K H a xs ∧ xs[i]? = some x, fun i H v H' => ∃ T x, v = .ref T ∧ H T = none ∧ H' = upd H T (.tup [.int (i : Nat), x]) ∧ ∀ xs, SqT K H a xs → xs[i]? = some x, fun i H => ∃ xs : List V, SqT K H a xs ∧ xs.length = i⟩
theorem turn_enumT {P : Program} {w : World} {K : PySem.W.Frag} {elts : List Expr} {kk : Nat} {tpos : Pos} (a e it : Addr) :
    Turn P w K (.Tuple elts kk tpos) (IteT K a) [e, it] e (fun i h => (∃ old, IsEnum h e it ((i : Nat) : Int) old) ∧ h.IsTupleIter it a i ∧ e ≠ it) where
  mem := by simp
  obj := fun i h st b hb => by
    obtain ⟨⟨old, he⟩, ⟨o, ho, hc, hd⟩, _⟩ := st
    have e' : b = e ∨ b = it := by simpa using hb
    rcases e' with z | z
    · rw [z]; exact ⟨_, he, fun v q => nomatch q⟩
    · rw [z]; exact ⟨o, ho, fun v q => by rw [hd] at q; cases q⟩
  keep := fun i h h' st k => by
    obtain ⟨⟨old, he⟩, hi, h1⟩ := st
    exact ⟨⟨old, k e (by simp) _ he⟩, hi.at fun o q => k it (by simp) o q, h1⟩
  item := by
    intro X hP hw hK hc i pins s σ H E I hf st hg
    subst hP hw hK
    obtain ⟨⟨old, he⟩, hit, hne⟩ := st
    obtain ⟨xs, x, hq, hx⟩ := hg
    obtain ⟨its, rv, p, hz⟩ := I.tuple hq
    obtain ⟨u, hu, ru⟩ := rv.get hx
    have hT : s.heap.IsTuple a its.toArray := p
    have hai : a ≠ it := by
      intro z
      obtain ⟨o, ho, hcl, _⟩ := hit
      obtain ⟨o2, ho2, hcl2, _⟩ := p
      rw [z, ho] at ho2
      cases ho2
      rw [hcl] at hcl2
      injection hcl2 with q
      exact absurd q (by decide)
    have hae : e ≠ a := by
      intro z
      obtain ⟨o2, ho2, hcl2, _⟩ := p
      rw [← z] at ho2
      have q := he.symm.trans ho2
      cases q
      injection hcl2 with q
      exact absurd q (by decide)
    have hel : e < s.heap.objs.size := Heap.lt_size he
    have hil : it < s.heap.objs.size := by obtain ⟨_, q, _⟩ := hit; exact Heap.lt_size q
    have hln := rv.length
    have hlt : i < its.toArray.size := by
      have h1 := (List.getElem?_eq_some_iff.mp hx).1
      rw [List.size_toArray]
      omega
    refine wpAny_pyNext_enum_itemD (Draws.tuple (A := X.A.in1) (I.ok.hd hc) it a hai its.toArray) he ⟨hit, hT⟩ hlt hne (by simp [hne, hae]) fun y h' tk hy ho' hst' hT' hsz hk => ?_
    have ey : y = u := by
      have h1 : its.toArray[i]? = some u := by simpa using hu
      exact Option.some.inj (hy.symm.trans h1)
    subst ey
    refine ⟨_, rfl, wpAny_letOwnedTupleGo_enum (s := { s with heap := h', toks := tk + 1 }) ho' fun h2 he2 sb => ?_⟩
    have hT2 : h2.get? s.heap.objs.size = some { cls := .type "tuple", data := .seq #[.int i tk, y] } := (sb.2 _ (Nat.ne_of_gt hel)).trans hT'
    have nw : ObjOk X.prog X.w (upd H s.heap.objs.size (.tup [.int (i : Nat), x])) h2 s.heap.objs.size (.tup [.int (i : Nat), x]) :=
      ⟨by show 2 ≤ sizeLine; decide, [.int i tk, y], .cons ⟨_, rfl⟩ (.cons ru .nil), ⟨_, hT2, rfl, _, rfl⟩⟩
    have I1 : Inv X pins σ (upd H s.heap.objs.size (.tup [.int (i : Nat), x])) { s with heap := h2, toks := tk + 1 } :=
      I.turnedNew (t' := tk + 1) (ch := [e, it]) (fun b ob hb q => (sb.2 b (fun z => hb (by simp [z]))).trans (hk b ob (fun z => hb (by simp [z])) (fun z => hb (by simp [z])) q)) hf (Nat.le_refl _) nw
    refine ⟨.ref s.heap.objs.size, _, I1, rfl, ⟨_, x, rfl, I.hok.fresh (Nat.le_refl _), rfl, fun ys hy => by rw [I.tuple_inj hy hq]; exact hx⟩, ⟨⟨y, ?_⟩, hst'.1.at fun o q => (sb.2 it (Ne.symm hne)).trans q, hne⟩, fun b hb => ?_⟩
    · have e1 : ((i + 1 : Nat) : Int) = (i : Int) + 1 := by omega
      rw [e1]; exact he2
    · have hb' : b < s.heap.objs.size := by
        have e' : b = e ∨ b = it := by simpa using hb
        rcases e' with z | z
        · rw [z]; exact hel
        · rw [z]; exact hil
      rw [upd_ne (Nat.ne_of_lt hb')]
      exact (hf b hb).1
  done := by
    intro X hP hw hK hc i pins s σ H E I hf st hg
    subst hP hw hK
    obtain ⟨⟨old, he⟩, hit, hne⟩ := st
    obtain ⟨xs, hq, hx⟩ := hg
    obtain ⟨its, rv, p, hz⟩ := I.tuple hq
    obtain ⟨f0, f1, f2, f3, f4, f5⟩ := hf it (by simp)
    have hln := rv.length
    have hT : s.heap.IsTuple a its.toArray := p
    have hai : a ≠ it := by
      intro z
      obtain ⟨o, ho, hcl, _⟩ := hit
      obtain ⟨o2, ho2, hcl2, _⟩ := p
      rw [z, ho] at ho2
      cases ho2
      rw [hcl] at hcl2
      injection hcl2 with q
      exact absurd q (by decide)
    have en : its.toArray.size = i := by rw [List.size_toArray]; omega
    exact wpAny_pyNext_enum_endD (Draws.tuple (A := X.A.in1) (I.ok.hd hc) it a hai its.toArray) he ⟨by rw [en]; exact hit, hT⟩ fun h' eb => ⟨rfl, I.turned (t' := s.toks) (fun b o hb q => eb b o hb q) f0 f1 f3 f4 f5⟩
  self := fun A i s Q E st h => let ⟨⟨_, he⟩, _⟩ := st; wpAny_pyIter_enum he h
def iEnumT (K : PySem.W.Frag) (ta : TA) : TI := fun σ H R => ta σ H fun vs H1 => ∃ a xs, vs = [.ref a] ∧ SqT K H1 a xs ∧ R (IteT K a) H1
theorem pi_enumT {X : Cx} {e : Expr} {ta : TA} {p pos tpos : Pos} {elts : List Expr} {kk : Nat} (hg : Gl X "enumerate") (hm : X.mg "enumerate" = none) (ha : PA X [e] ta) (hs : starEach [e] X.env = [(false, eval e X.env)] := by rfl) :
    PI X (.Tuple elts kk tpos) (.Call (.Name "enumerate" p) [e] [] pos) (iEnumT X.K ta) := by
  refine ⟨fun pins s σ H R I h => ?_⟩
  refine Call_ (ld_blt I hg hm boot_enumerate (PyProof.Rows.callWith_type1 (thn (ha.run pos pins s σ H _ I h) fun us s1 ⟨vs, H1, I1, r1, q1⟩ => ?_) hs rfl))
  obtain ⟨a, xs, ex, hq, q⟩ := q1
  subst ex
  obtain ⟨u, rfl, rfl⟩ := vals1 r1
  obtain ⟨its, rv, p', hz⟩ := I1.tuple hq
  have hT : s1.heap.IsTuple a its.toArray := p'
  refine by_enum_call (begins_tuple a its.toArray) hT fun h' he hit hk => wpAny_pyIter_enum he ?_
  have I2 : Inv X pins σ H1 { s1 with heap := h' } := I1.kept (t' := s1.toks) hk
  refine ⟨s1.heap.objs.size + 1, [s1.heap.objs.size + 1, s1.heap.objs.size], _, _, H1, rfl, I2, turn_enumT a (s1.heap.objs.size + 1) s1.heap.objs.size, ⟨⟨.none, he⟩, ⟨_, hit, rfl, rfl⟩, Nat.succ_ne_self _⟩, fun b hb => ?_, q⟩
  have e' : b = s1.heap.objs.size + 1 ∨ b = s1.heap.objs.size := by simpa using hb
  have hle : s1.heap.objs.size ≤ b := by
    rcases e' with z | z
    · rw [z]; exact Nat.le_add_right _ _
    · rw [z]; exact Nat.le_refl _
  exact I1.fpOk hle (I1.hok.fresh hle)
end BY
end

section
set_option Elab.async false
set_option linter.all false
set_option maxRecDepth 100000
set_option maxHeartbeats 4000000
namespace BY
open PySem PySem.Spec PyProof.Rows L2
open Evl (Ex ex_l ex_t)
/-! ### calls that the layer lacks -/
theorem by_min2 {prog : Program} {w : World} {A : Around} {E : Value → Shared → Prop} {s : Shared} {x y : Value} {d e : PyData} {as bs : List Addr} {Q : Value → Shared → Prop} (hh : A.handled = none) (hx : Reads s.heap x d as) (hy : Reads s.heap y e bs) (ha : PySem.W.AlikeAll [d, e]) (hu : A.units + 1 + PyData.depthAll [d, e] < cLine)
    (h : ∀ h' tk, (∀ b o, s.heap.get? b = some o → h'.get? b = some o) → Q (if PySem.W.dataLt e d = true then y else x) { s with heap := h', toks := tk }) :
    wpAny (model prog w) A (call (.builtin "min") [x, y]) Q E s := by
  have hname : (toString "min" ++ toString ".loop" : String) = "min.loop" := by decide
  refine call_function_tree PySem.F.kind_min PySem.F.plain_min PySem.F.entry_min (PySem.F.args_min2 _ _) ?_
  show wpAny _ A.in1 (Builtin.Builtins.bindParams "min" ["key", "default"] 0 ⟨[], []⟩ >>= _) _ _ s
  refine wpAny_bind (wpAny_of_eq (show Builtin.Builtins.bindParams "min" ["key", "default"] 0 ⟨[], []⟩ = pure [none, none] from rfl) ?_)
  show wpAny _ A.in1 (newTuple [x, y] >>= _) _ _ s
  refine wpAny_bind (wpAny_newObj_type ?_)
  have k0 : ∀ b o, s.heap.get? b = some o → (s.heap.push { cls := .type "tuple", data := .seq #[x, y] }).get? b = some o := fun b o q => Heap.get?_push_of_some _ q
  have hT : (s.heap.push { cls := .type "tuple", data := .seq #[x, y] }).IsTuple s.heap.objs.size #[x, y] := ⟨_, Heap.get?_push_size _ rfl, rfl, 0, rfl⟩
  have hr : ReadsAll (s.heap.push { cls := .type "tuple", data := .seq #[x, y] }) (#[x, y] : Array Value).toList [d, e] (as ++ (bs ++ [])) := .cons (Reads.keeps k0 hx) (.cons (Reads.keeps k0 hy) .nil)
  refine wpAny_bind (PySem.W.iter_tupleW (A := A.in1) (s := { s with heap := s.heap.push { cls := .type "tuple", data := .seq #[x, y] } }) hh hT fun s₂ e2 W st hfp hw hk => ?_)
  refine wpAny_bind (wpAny_newObj_type ?_)
  have hSf : s₂.heap.objs.size ∉ [(s.heap.push { cls := .type "tuple", data := .seq #[x, y] }).objs.size, s.heap.objs.size] := fun hm => Nat.lt_irrefl _ (hfp _ hm)
  rw [hname]
  refine wpAny_pure ⟨plainId_quiet PySem.F.plain_min_loop _, codeAny_min_loop_firstH W (s.heap.push { cls := .type "tuple", data := .seq #[x, y] }) hw _ (PySem.W.cmpIn_lt (A := A.in1) (s := { s with heap := s.heap.push { cls := .type "tuple", data := .seq #[x, y] } }) hr ha (by show A.units + 1 + _ < _; exact hu)) s₂.heap.objs.size hSf (fresh_in hk) _ (by show 0 < 2; decide) (fun b o q => Heap.get?_push_of_some _ (hk b o q)) (W.frame 0 s₂ _ s₂.toks st (Nat.le_refl _) fun b _ o q => Heap.get?_push_of_some _ q) (Heap.get?_push_size _ rfl) fun v s' hP hm => ?_⟩
  have m := Moved.drop_new (tk := s₂.toks) hm (Nat.le_refl _)
  obtain ⟨h', tk, rfl, hk'⟩ := PySem.W.moved_old (s := { s with heap := s.heap.push { cls := .type "tuple", data := .seq #[x, y] } }) e2 rfl m
  have hv : v = if PySem.W.dataLt e d = true then y else x := by
    have hP' : (#[x, y] : Array Value)[argBest (fun i j => PySem.W.dataLt ([d, e].getD i .none) ([d, e].getD j .none)) 1]? = some v := hP
    by_cases c : PySem.W.dataLt e d = true
    · have q : argBest (fun i j => PySem.W.dataLt ([d, e].getD i .none) ([d, e].getD j .none)) 1 = 1 := by simp [argBest, c]
      rw [q] at hP'
      rw [if_pos c]
      simpa using hP'.symm
    · have q : argBest (fun i j => PySem.W.dataLt ([d, e].getD i .none) ([d, e].getD j .none)) 1 = 0 := by simp [argBest, c]
      rw [q] at hP'
      rw [if_neg c]
      simpa using hP'.symm
  rw [hv]
  exact h h' tk fun b o q => hk' b o (k0 b o q)
section
variable {X : Cx}
/-- min of a list of data, the first of the least -/
def rMinD (K : PySem.W.Frag) : List V → Hp → VK → Prop := fun vs H Q => ∃ (a : Addr) (xs : List V) (d : PyData) (ds : List PyData), vs = [V.ref a] ∧ SqL K H a xs ∧ DpAll K H xs (d :: ds) ∧ PySem.W.AlikeAll (d :: ds) ∧ PyData.depthAll (d :: ds) ≤ 64 ∧
  ∀ (i : Nat) (x : V), xs[i]? = some x → (d :: ds)[i]? = some (PySem.W.minD d ds) → Q x H
theorem cr_minD (hc : X.calm = true) (hu : X.A.units + 100 < cLine) : CallR X (.builtin "min") (rMinD X.K) := by
  intro pins s σ H vs us Q I r h
  obtain ⟨a, xs, d, ds, rfl, hs, hd, hal, hdp, q⟩ := h
  obtain ⟨its, rv, hl, _⟩ := I.list hs
  rw [Vals.ref1 r]
  obtain ⟨as, hr⟩ := Dp.readsAll I (d :: ds) xs its hd rv
  refine PySem.W.min_list_data (I.ok.hd hc) hl.isList (by simpa using hr) hal (by omega) fun i v h' tk bs hv rd hk => ?_
  have hv' : its[i]? = some v := by simpa using hv
  have hi : i < xs.length := by rw [rv.length]; exact (List.getElem?_eq_some_iff.mp hv').1
  obtain ⟨u, hu', ru⟩ := rv.get (List.getElem?_eq_getElem hi)
  have e1 : u = v := Option.some.inj (hu'.symm.trans hv')
  subst e1
  obtain ⟨dd, ed, rdd⟩ := dpAll_at' hd (List.getElem?_eq_getElem hi)
  have I2 : Inv X pins σ H { s with heap := h', toks := tk } := I.kept hk
  obtain ⟨cs, rr⟩ := Dp.reads I2 dd xs[i] u rdd ru
  obtain ⟨e2, _⟩ := PySem.Reads.unique rr _ _ rd
  rw [e2] at ed
  exact ⟨xs[i], H, I2, ru, q i xs[i] (List.getElem?_eq_getElem hi) ed⟩
def rMin2D (K : PySem.W.Frag) : List V → Hp → VK → Prop := fun vs H Q => ∃ (x y : V) (d e : PyData), vs = [x, y] ∧ Dp K H x d ∧ Dp K H y e ∧ PySem.W.AlikeAll [d, e] ∧ PyData.depthAll [d, e] ≤ 64 ∧ Q (if PySem.W.dataLt e d = true then y else x) H
theorem cr_min2D (hc : X.calm = true) (hu : X.A.units + 100 < cLine) : CallR X (.builtin "min") (rMin2D X.K) := by
  intro pins s σ H vs us Q I r h
  obtain ⟨x, y, d, e, rfl, hx, hy, hal, hdp, q⟩ := h
  obtain ⟨u, v, rfl, r1, r2⟩ := vals2 r
  obtain ⟨as, h1⟩ := Dp.reads I d x u hx r1
  obtain ⟨bs, h2⟩ := Dp.reads I e y v hy r2
  refine by_min2 (I.ok.hd hc) h1 h2 hal (by omega) fun h' tk hk => ⟨_, H, I.kept hk, ?_, q⟩
  by_cases c : PySem.W.dataLt e d = true
  · rw [if_pos c, if_pos c]; exact r2
  · rw [if_neg c, if_neg c]; exact r1
/-- x in t, t a tuple of data -/
def rInTD (K : PySem.W.Frag) (neg : Bool) : R2 := fun x y H Q => ∃ d ds, Dp K H x d ∧ Dp K H y (.tuple ds) ∧ SeqAt.shaped d = true ∧ SeqAt.shaped (.tuple ds) = true ∧ Q (.bl (if neg then !(ds.any fun z => PyData.eqv z d) else ds.any fun z => PyData.eqv z d)) H
theorem shaped_items {ds : List PyData} (h : SeqAt.shaped (.tuple ds) = true) : PyData.canLayAll0 ds = true ∧ PyData.depthAll ds ≤ 64 := by
  have h' : (PyData.canLay0 (.tuple ds) && decide (PyData.depth (.tuple ds) ≤ 64)) = true := h
  rw [Bool.and_eq_true] at h'
  obtain ⟨h1, h2⟩ := h'
  have h3 := of_decide_eq_true h2
  simp only [PyData.canLay0] at h1
  simp only [PyData.depth] at h3
  exact ⟨h1, by omega⟩
theorem op_inTD (hu : X.A.units + 100 < cLine) : OpR X (compareOp .In) (rInTD X.K false) := by
  intro pins s σ H x y v u Q I rx ry h
  obtain ⟨d, ds, hd, he, sd, se, q⟩ := h
  obtain ⟨as, r1⟩ := Dp.reads I d x v hd rx
  obtain ⟨bs, r2⟩ := Dp.reads I (.tuple ds) y u he ry
  obtain ⟨c1, c2⟩ := shaped_items se
  have hm := Nat.min_le_left (PyData.depthAll ds) d.depth
  exact SeqAt.in_tuple_reads r2 r1 c1 (SeqAt.canLay_of_shaped sd) (by omega) ⟨.bl _, H, I, rfl, q⟩
theorem op_niTD (hu : X.A.units + 100 < cLine) : OpR X (compareOp .NotIn) (rInTD X.K true) := by
  intro pins s σ H x y v u Q I rx ry h
  obtain ⟨d, ds, hd, he, sd, se, q⟩ := h
  obtain ⟨as, r1⟩ := Dp.reads I d x v hd rx
  obtain ⟨bs, r2⟩ := Dp.reads I (.tuple ds) y u he ry
  obtain ⟨c1, c2⟩ := shaped_items se
  have hm := Nat.min_le_left (PyData.depthAll ds) d.depth
  exact SeqAt.notIn_tuple_reads r2 r1 c1 (SeqAt.canLay_of_shaped sd) (by omega) ⟨.bl _, H, I, rfl, q⟩
/-- set(t), t a tuple of ints -/
def rSetTI (K : PySem.W.Frag) (w : World) : List V → Hp → VK → Prop := fun vs H Q => ∃ (a : Addr) (ns : List Int), vs = [V.ref a] ∧ SqT K H a (ns.map V.int) ∧ ns.length ≤ 1000 ∧ ∀ (p : Addr) (c : Nat), H p = none → c ≤ ns.length → Q (.ref p) (upd H p (SetO w p (fun j => decide (j ∈ ns)) c))
theorem cr_setTI (hc : X.calm = true) : CallR X (.type "set") (rSetTI X.K X.w) := by
  intro pins s σ H vs us Q I r h
  obtain ⟨a, ns, rfl, hs, hz, q⟩ := h
  obtain ⟨its, rv, hl, _⟩ := I.tuple hs
  rw [Vals.ref1 r]
  have hT : s.heap.IsTuple a its.toArray := hl
  refine call_set_tupI ns (I.ok.hd hc) hT (by simpa using RZ.intsAre_vals rv) (Nat.lt_of_le_of_lt (Nat.succ_le_succ hz) (by decide)) fun h' tk c hR hle hk => ?_
  exact ⟨.ref _, upd H s.heap.objs.size (SetO X.w s.heap.objs.size (fun j => decide (j ∈ ns)) c), I.laid (t' := tk) hk (Nat.le_refl _) (setO_new hR), rfl, q _ c (I.hok.fresh (Nat.le_refl _)) hle⟩
end
end BY
end

section
set_option Elab.async false
set_option linter.all false
set_option maxRecDepth 100000
set_option maxHeartbeats 4000000
namespace BY
open PySem PySem.Spec PyProof.Rows L2
open Evl (Ex ex_l ex_t)
section
variable {K : PySem.W.Frag} {w : World} {δ δ' : Slots} {κ κ1 κ2 κ3 : Cells} {ta tb tc te tl : TE} {t u tt : TT} {x y z a b : AV} {r : R2} {tas : TA} {as : List AV} {P P' : Out → Prop} {D : Ends} {tu tw : TS} {g : TG} {wi : TI} {n : Nat} {it : Nat → AV}
/-! ### enumerate of a tuple that is data -/
theorem src_enumT {ds : List PyData} (h : EvAs K tas δ κ [.d (.tuple ds)] κ1) : Src K (iEnumT K tas) δ κ ds.length (fun i => .d (.tuple [.int (i : Int), ds.getD i .none])) κ1 (fun _ => True) := fun G H ps σ R E Q q =>
  h G H ps σ R E _ fun v G1 H1 p1 s R1 rs => by
    cases rs with
    | cons r1 rt =>
      cases rt
      cases r1 with
      | d r1 =>
        cases r1 with
        | @tup a vs _ s1 s2 =>
          refine ⟨a, vs, rfl, ex_t R1.sub s1, q _ G1 H1 p1 s R1 fun G' H' ps' κ' i s' R' _ => ?_⟩
          have hs : SqT K H' a vs := ex_t R'.sub (ex_t s'.g s1)
          have hl := dpAll_len s2
          refine ⟨fun hi => ⟨⟨vs, vs[i]'(by omega), hs, by simp [show i < vs.length by omega]⟩, fun x H2 y => ?_⟩, fun e => ⟨vs, hs, by omega⟩⟩
          obtain ⟨T, x1, rfl, hT, rfl, e2⟩ := y
          obtain ⟨d, ed, rd⟩ := dpAll_at' s2 (e2 vs hs)
          refine ⟨upd G' T (.tup [.int (i : Nat), x1]), stp_new R'.sub hT, rep_new R' hT, .d (.tup (.inl (.inl upd_same)) (.cons (.int _) (.cons ?_ .nil)))⟩
          rw [List.getD_eq_getElem?_getD, ed]
          exact dp_mono (ex_up (ex_none R'.sub hT)) _ _ (dp_mono s'.g _ _ rd)
/-! ### isinstance -/
def clsOf : PyData → String
  | .none => "NoneType"
  | .bool _ => "bool"
  | .int _ => "int"
  | .str _ => "str"
  | .list _ => "list"
  | .tuple _ => "tuple"
  | .dict _ => "dict"
theorem tyx_dp {G : Hp} : ∀ {v : V} {d : PyData}, Dp K G v d → TyX K G v (.type (clsOf d))
  | _, _, .non => .base .non
  | _, _, .bl b => .base (.bl b)
  | _, _, .int i => .base (.int i)
  | _, _, .str x => .base (.str x)
  | _, _, .lst h _ => by
    rcases h with (h | ⟨o, h⟩) | ⟨o, its, n, h1, h2, _⟩
    · exact .base (.lst h)
    · exact .base (.frz h)
    · exact .kList h1 h2
  | _, _, .tup h _ => by
    rcases h with (h | ⟨o, h⟩) | ⟨o, its, n, h1, h2, _⟩
    · exact .base (.tup h)
    · exact .fTuple h
    · exact .kTuple h1 h2
/-- the class of a value, by what it holds -/
inductive ACls (κ : Cells) : AV → String → Prop
  | d {x : PyData} : ACls κ (.d x) (clsOf x)
  | c {k : Nat} {xs : List AV} : κ[k]? = some xs → ACls κ (.c k) "list"
  | t {xs : List AV} : ACls κ (.t xs) "tuple"
theorem tyx_av {G H : Hp} {ps : List Addr} {v : V} {T : String} (R : Rep K G H ps κ) (c : ACls κ x T) (h : VR K G ps v x) : TyX K H v (.type T) := by
  cases c with
  | d => cases h with | d h => exact tyx_dp (dp_mono R.sub _ _ h)
  | c hk =>
    cases h with
    | c h =>
      obtain ⟨vs, e, _⟩ := R.cellOf h hk
      exact .base (.lst e)
  | t =>
    cases h with
    | t h _ =>
      rcases ex_t R.sub h with (h | ⟨o, h⟩) | ⟨o, its, n, h1, h2, _⟩
      · exact .base (.tup h)
      · exact .fTuple h
      · exact .kTuple h1 h2
theorem rc_isi {T U : String} {bb : Bool} (c : ACls κ x T) (e : kitB T U = some bb) : RC K (rIsi K) κ [x, .v (.ty U)] (.d (.bool bb)) κ := fun G H ps vs R rs Q q => by
  cases rs with
  | cons r1 rt =>
    cases rt with
    | cons r2 rt =>
      cases rt
      cases r2
      exact ⟨_, _, _, _, bb, rfl, .ty U, tyx_av R c r1, kit_ty e, q _ G H ps .refl R (.d (.bl _))⟩
/-! ### calls over data -/
theorem dp_ints {G : Hp} : ∀ {vs : List V} {ns : List Int}, DpAll K G vs (ns.map PyData.int) → vs = ns.map V.int
  | _, [], h => by cases h; rfl
  | _, n :: ns, h => by
    cases h with
    | cons h1 h2 => cases h1; rw [dp_ints h2]; rfl
theorem dp_bools {G : Hp} : ∀ {vs : List V} {ns : List Bool}, DpAll K G vs (ns.map PyData.bool) → vs = ns.map V.bl
  | _, [], h => by cases h; rfl
  | _, n :: ns, h => by
    cases h with
    | cons h1 h2 => cases h1; rw [dp_bools h2]; rfl
theorem ints_dp {G : Hp} : ∀ ns : List Int, DpAll K G (ns.map V.int) (ns.map PyData.int)
  | [] => .nil
  | n :: ns => .cons (.int n) (ints_dp ns)
theorem rc_any {bs : List Bool} : RC K (rAny K) κ [.d (.list (bs.map .bool))] (.d (.bool (bs.any id))) κ := fun G H ps vs R rs Q q => by
  cases rs with
  | cons r1 rt =>
    cases rt
    cases r1 with
    | d r1 =>
      cases r1 with
      | lst s1 s2 =>
        obtain rfl := dp_bools s2
        exact ⟨_, bs, rfl, ex_l R.sub s1, q _ G H ps .refl R (.d (.bl _))⟩
theorem rc_all {bs : List Bool} : RC K (rAll K) κ [.d (.list (bs.map .bool))] (.d (.bool (bs.all id))) κ := fun G H ps vs R rs Q q => by
  cases rs with
  | cons r1 rt =>
    cases rt
    cases r1 with
    | d r1 =>
      cases r1 with
      | lst s1 s2 =>
        obtain rfl := dp_bools s2
        exact ⟨_, bs, rfl, ex_l R.sub s1, q _ G H ps .refl R (.d (.bl _))⟩
/-- min of a list whose items are data (a cell, or data) -/
theorem rc_minC {k : Nat} {d : PyData} {ds : List PyData} (hk : κ[k]? = some ((d :: ds).map AV.d)) (ha : PySem.W.AlikeAll (d :: ds)) (hz : PyData.depthAll (d :: ds) ≤ 64) : RC K (rMinD K) κ [.c k] (.d (PySem.W.minD d ds)) κ := fun G H ps vs R rs Q q => by
  cases rs with
  | cons r1 rt =>
    cases rt
    cases r1 with
    | c r1 =>
      obtain ⟨ws, e, r2⟩ := R.cellOf r1 hk
      have r3 := vrs_dpAll r2
      refine ⟨_, ws, d, ds, rfl, .inl (.inl e), dpAll_mono R.sub _ _ r3, ha, hz, fun i v hv hd => q _ G H ps .refl R (.d ?_)⟩
      obtain ⟨v', e', rd⟩ := dpAll_at r3 hd
      rw [hv] at e'
      cases e'
      exact rd
theorem rc_minD {d : PyData} {ds : List PyData} (ha : PySem.W.AlikeAll (d :: ds)) (hz : PyData.depthAll (d :: ds) ≤ 64) : RC K (rMinD K) κ [.d (.list (d :: ds))] (.d (PySem.W.minD d ds)) κ := fun G H ps vs R rs Q q => by
  cases rs with
  | cons r1 rt =>
    cases rt
    cases r1 with
    | d r1 =>
      cases r1 with
      | @lst a ws _ s1 r3 =>
        refine ⟨_, ws, d, ds, rfl, ex_l R.sub s1, dpAll_mono R.sub _ _ r3, ha, hz, fun i v hv hd => q _ G H ps .refl R (.d ?_)⟩
        obtain ⟨v', e', rd⟩ := dpAll_at r3 hd
        rw [hv] at e'
        cases e'
        exact rd
theorem rc_min2 {d e : PyData} (ha : PySem.W.AlikeAll [d, e]) (hz : PyData.depthAll [d, e] ≤ 64) : RC K (rMin2D K) κ [.d d, .d e] (.d (if PySem.W.dataLt e d = true then e else d)) κ := fun G H ps vs R rs Q q => by
  cases rs with
  | cons r1 rt =>
    cases rt with
    | cons r2 rt =>
      cases rt
      cases r1 with
      | d r1 =>
        cases r2 with
        | d r2 =>
          refine ⟨_, _, d, e, rfl, dp_mono R.sub _ _ r1, dp_mono R.sub _ _ r2, ha, hz, q _ G H ps .refl R ?_⟩
          by_cases c : PySem.W.dataLt e d = true
          · rw [if_pos c, if_pos c]; exact .d r2
          · rw [if_neg c, if_neg c]; exact .d r1
theorem rc_min2I {i j : Int} : RC K (fun xs H Q => ∃ i j, xs = [V.int i, V.int j] ∧ Q (V.int (if j < i then j else i)) H) κ [.d (.int i), .d (.int j)] (.d (.int (if j < i then j else i))) κ := fun G H ps vs R rs Q q => by
  cases rs with
  | cons r1 rt =>
    cases rt with
    | cons r2 rt =>
      cases rt
      cases r1 with
      | d r1 => cases r1; cases r2 with | d r2 => cases r2; exact ⟨i, j, rfl, q _ G H ps .refl R (.d (.int _))⟩
theorem rc_intB {c : Bool} : RC K (fun xs H Q => (∃ i, xs = [V.int i] ∧ Q (V.int i) H) ∨ ∃ k, xs = [V.bl k] ∧ Q (V.int (if k then 1 else 0)) H) κ [.d (.bool c)] (.d (.int (if c then 1 else 0))) κ := fun G H ps vs R rs Q q => by
  cases rs with
  | cons r1 rt =>
    cases rt
    cases r1 with
    | d r1 => cases r1; exact .inr ⟨c, rfl, q _ G H ps .refl R (.d (.int _))⟩
def rLst (K : PySem.W.Frag) : List V → Hp → VK → Prop := fun xs H Q => ∃ p ys, xs = [.ref p] ∧ (SqL K H p ys ∨ SqT K H p ys) ∧ ∀ l, H l = none → Q (.ref l) (upd H l (.lst ys))
/-- list(t): a new cell, or data -/
theorem rc_listTD {ds : List PyData} : RC K (rLst K) κ [.d (.tuple ds)] (.d (.list ds)) κ := fun G H ps vs R rs Q q => by
  cases rs with
  | cons r1 rt =>
    cases rt
    cases r1 with
    | d r1 =>
      cases r1 with
      | tup s1 s2 => exact ⟨_, _, rfl, .inr (ex_t R.sub s1), fun l hl => q _ _ _ ps (stp_new R.sub hl) (rep_new R hl) (.d (.lst (.inl (.inl upd_same)) (dpAll_mono (ex_up (ex_none R.sub hl)) _ _ s2)))⟩
theorem rc_listLC {ds : List PyData} {m : Nat} (hm : m = κ.length) : RC K (rLst K) κ [.d (.list ds)] (.c m) (κ ++ [ds.map .d]) := fun G H ps vs R rs Q q => by
  cases rs with
  | cons r1 rt =>
    cases rt
    cases r1 with
    | d r1 =>
      cases r1 with
      | lst s1 s2 => exact ⟨_, _, rfl, .inl (ex_l R.sub s1), fun l hl => q _ _ _ (ps ++ [l]) (stp_cell hl) (rep_cell R hl (dpAll_vrs s2)) (.c (by rw [hm, ← R.len, List.getElem?_append_right (Nat.le_refl _)]; simp))⟩
theorem rc_listCC {ds : List AV} {k m : Nat} (hk : κ[k]? = some ds) (hm : m = κ.length) : RC K (rLst K) κ [.c k] (.c m) (κ ++ [ds]) := fun G H ps vs R rs Q q => by
  cases rs with
  | cons r1 rt =>
    cases rt
    cases r1 with
    | c r1 =>
      obtain ⟨ws, e, r2⟩ := R.cellOf r1 hk
      exact ⟨_, _, rfl, .inl (.inl (.inl e)), fun l hl => q _ _ _ (ps ++ [l]) (stp_cell hl) (rep_cell R hl r2) (.c (by rw [hm, ← R.len, List.getElem?_append_right (Nat.le_refl _)]; simp))⟩
def rTpl (K : PySem.W.Frag) : List V → Hp → VK → Prop := fun xs H Q => ∃ p ys, xs = [.ref p] ∧ ((SqL K H p ys ∧ ∀ l, H l = none → Q (.ref l) (upd H l (.tup ys))) ∨ (SqT K H p ys ∧ Q (.ref p) H))
theorem rc_tupC {ds : List PyData} {k : Nat} (hk : κ[k]? = some (ds.map AV.d)) : RC K (rTpl K) κ [.c k] (.d (.tuple ds)) κ := fun G H ps vs R rs Q q => by
  cases rs with
  | cons r1 rt =>
    cases rt
    cases r1 with
    | c r1 =>
      obtain ⟨ws, e, r2⟩ := R.cellOf r1 hk
      exact ⟨_, _, rfl, .inl ⟨.inl (.inl e), fun l hl => q _ _ _ ps (stp_new R.sub hl) (rep_new R hl) (.d (.tup (.inl (.inl upd_same)) (dpAll_mono (ex_up (ex_none R.sub hl)) _ _ (vrs_dpAll r2))))⟩⟩
theorem rc_tupL {ds : List PyData} : RC K (rTpl K) κ [.d (.list ds)] (.d (.tuple ds)) κ := fun G H ps vs R rs Q q => by
  cases rs with
  | cons r1 rt =>
    cases rt
    cases r1 with
    | d r1 =>
      cases r1 with
      | lst s1 s2 => exact ⟨_, _, rfl, .inl ⟨ex_l R.sub s1, fun l hl => q _ _ _ ps (stp_new R.sub hl) (rep_new R hl) (.d (.tup (.inl (.inl upd_same)) (dpAll_mono (ex_up (ex_none R.sub hl)) _ _ s2)))⟩⟩
/-- sorted(set(t)) -/
theorem evx_sortedSet {ns out : List Int} (h : EvAs K tas δ κ [.d (.tuple (ns.map .int))] κ1) (hz : ns.length < 64) (ho : ∀ ms : List Int, ms.Pairwise (· < ·) → (∀ k : Int, k ∈ ms ↔ k ∈ ns) → ms = out) :
    EvX K (tCB (rSortedSet w) (tCons (tCB (rSetTI K w) tas) tNil)) δ κ (.d (.list (out.map .int))) κ1 := fun G H ps σ R E Q q =>
  h G H ps σ R E _ fun v G1 H1 p1 s R1 rs => by
    cases rs with
    | cons r1 rt =>
      cases rt
      cases r1 with
      | d r1 =>
        cases r1 with
        | @tup a vs _ s1 s2 =>
          obtain rfl := dp_ints s2
          refine ⟨a, ns, rfl, ex_t R1.sub s1, by omega, fun p c hp hc => ⟨p, _, c, rfl, upd_same, by omega, fun ms l hs hm hlen hl => ?_⟩⟩
          have e := ho ms hs fun k => (hm k).trans decide_eq_true_iff
          subst e
          have hl1 : H1 l = none := by
            by_cases z : l = p
            · subst z; exact hp
            · rw [upd_ne z] at hl; exact hl
          have s2' : Stp G1 H1 p1 (upd G1 l (.lst (ms.map V.int))) (upd (upd H1 p (SetO w p (fun j => decide (j ∈ ns)) c)) l (.lst (ms.map V.int))) p1 := by
            have q1 := stp_new (G := G1) (H := H1) (ps := p1) (o := .lst (ms.map V.int)) R1.sub hl1
            refine ⟨q1.g, q1.pre, fun b o e hb => ?_, fun b o e => ?_, q1.fresh⟩
            · rw [upd_ne (ne_of_none e hl1), upd_ne (ne_of_none e hp)]; exact e
            · exact ⟨o, by rw [upd_ne (ne_of_none e hl1), upd_ne (ne_of_none e hp)]; exact e⟩
          have R2 : Rep K (upd G1 l (.lst (ms.map V.int))) (upd (upd H1 p (SetO w p (fun j => decide (j ∈ ns)) c)) l (.lst (ms.map V.int))) p1 κ1 :=
            rep_new (side_rep R1 (ex_none R1.sub hp) (not_ps R1 hp)) hl
          exact q _ _ _ p1 (s.trans R.sub s2') R2 (.d (.lst (.inl (.inl upd_same)) (ints_dp ms)))
/-! ### in -/
theorem rx_inT {d : PyData} {ds : List PyData} {neg : Bool} (hx : AVD κ x d) (h1 : SeqAt.shaped d = true) (h2 : SeqAt.shaped (.tuple ds) = true) : RX K (rInTD K neg) κ x (.d (.tuple ds)) (.d (.bool (if neg then !(ds.any fun z => PyData.eqv z d) else ds.any fun z => PyData.eqv z d))) κ := fun G H ps vx vy R r1 r2 Q q => by
  cases r2 with
  | d r2 => exact ⟨d, ds, avd_dp R d x vx hx r1, dp_mono R.sub _ _ r2, h1, h2, q _ G H ps .refl R (.d (.bl _))⟩
/-! ### slices and sums of tuples, lists -/
def EvO (K : PySem.W.Frag) (to : TO) (δ : Slots) (κ : Cells) (i : Option Int) : Prop :=
  ∀ G H ps σ, Rep K G H ps κ → EnvR K G ps σ δ → ∀ Q : Option Int → Hp → Prop, (∀ G' H' ps', Stp G H ps G' H' ps' → Rep K G' H' ps' κ → Q i H') → to σ H Q
theorem evo_none : EvO K tNoPart δ κ none := fun G H ps σ R E Q q => q G H ps .refl R
theorem evo_some {i : Int} (h : EvX K te δ κ (.d (.int i)) κ) : EvO K (tPart te) δ κ (some i) := fun G H ps σ R E Q q => h G H ps σ R E _ fun v G1 H1 p1 s R1 r1 => by
  cases r1 with
  | d r1 => cases r1; exact ⟨i, rfl, q G1 H1 p1 s R1⟩
def cutD {α : Type} (xs : List α) (lo hi : Option Int) : List α := (xs.drop (HT.sIx xs.length 0 lo)).take (HT.sIx xs.length xs.length hi - HT.sIx xs.length 0 lo)
theorem cut_all {α : Type} {xs : List α} {lo hi : Option Int} (h : HT.sIx xs.length 0 lo = 0 ∧ HT.sIx xs.length xs.length hi = xs.length) : cutD xs lo hi = xs := by
  unfold cutD
  rw [h.1, h.2]
  simp
theorem evx_slT {lo hi : Option Int} {tlo thi : TO} {ds : List PyData} (h : EvX K te δ κ (.d (.tuple ds)) κ1) (h1 : EvO K tlo δ κ1 lo) (h2 : EvO K thi δ κ1 hi) : EvX K (tSl (rSlA K) te tlo thi) δ κ (.d (.tuple (cutD ds lo hi))) κ1 := fun G H ps σ R E Q q =>
  h G H ps σ R E _ fun v G1 H1 p1 s R1 r1 => h1 G1 H1 p1 σ R1 (s.env E) _ fun G2 H2 p2 s2 R2 => h2 G2 H2 p2 σ R2 (s2.env (s.env E)) _ fun G3 H3 p3 s3 R3 => by
    have s03 := (s.trans R.sub s2).trans R.sub s3
    cases r1 with
    | d r1 =>
      have r1' := dp_mono s3.g _ _ (dp_mono s2.g _ _ r1)
      cases r1' with
      | @tup a vs _ t1 t2 =>
        have hl := dpAll_len t2
        refine ⟨a, vs, rfl, ex_t R3.sub t1, fun hw => ?_, fun hw p hp => ?_⟩
        · rw [hl] at hw
          exact q _ G3 H3 p3 s03 R3 (.d (by rw [cut_all hw]; exact .tup t1 t2))
        · refine q _ _ _ p3 (s03.trans R.sub (stp_new R3.sub hp)) (rep_new R3 hp) (.d (.tup (.inl (.inl upd_same)) (dpAll_mono (ex_up (ex_none R3.sub hp)) _ _ ?_)))
          unfold cutV cutD
          rw [hl]
          exact dpAll_take _ (dpAll_drop _ t2)
theorem rx_catT {xs ys : List PyData} (hz : xs.length + ys.length ≤ 100000 := by simp) : RX K (rCatA K) κ (.d (.tuple xs)) (.d (.tuple ys)) (.d (.tuple (xs ++ ys))) κ := fun G H ps vx vy R r1 r2 Q q => by
  cases r1 with
  | d r1 =>
    cases r2 with
    | d r2 =>
      cases r1 with
      | @tup a vs _ t1 t2 =>
        cases r2 with
        | @tup b us _ u1 u2 =>
          have l1 := dpAll_len t2
          have l2 := dpAll_len u2
          refine ⟨a, b, vs, us, rfl, rfl, ex_t R.sub t1, ex_t R.sub u1, Evl.sz_of (by omega), fun e => ?_, fun e1 e2 => ?_, fun e1 e2 p hp => ?_⟩
          · subst e
            have e : xs = [] := List.eq_nil_of_length_eq_zero (by rw [← l1]; rfl)
            subst e
            exact q _ G H ps .refl R (.d (.tup u1 u2))
          · subst e2
            have e : ys = [] := List.eq_nil_of_length_eq_zero (by rw [← l2]; rfl)
            subst e
            exact q _ G H ps .refl R (.d (by rw [List.append_nil]; exact .tup t1 t2))
          · exact q _ _ _ ps (stp_new R.sub hp) (rep_new R hp) (.d (.tup (.inl (.inl upd_same)) (dpAll_mono (ex_up (ex_none R.sub hp)) _ _ (dpAll_app t2 u2))))
theorem rx_catC {xs ys : List AV} {j k m : Nat} (hj : κ[j]? = some xs) (hk : κ[k]? = some ys) (hm : m = κ.length) (hz : xs.length + ys.length ≤ 100000 := by simp) : RX K rCat κ (.c j) (.c k) (.c m) (κ ++ [xs ++ ys]) := fun G H ps vx vy R r1 r2 Q q => by
  cases r1 with
  | c r1 =>
    cases r2 with
    | c r2 =>
      obtain ⟨vs, e1, s1⟩ := R.cellOf r1 hj
      obtain ⟨us, e2, s2⟩ := R.cellOf r2 hk
      have l1 := vrs_len s1
      have l2 := vrs_len s2
      exact ⟨_, _, vs, us, rfl, rfl, e1, e2, Evl.sz_of (by omega), fun p hp => q _ _ _ (ps ++ [p]) (stp_cell hp) (rep_cell R hp (vrs_app s1 s2)) (.c (by rw [hm, ← R.len, List.getElem?_append_right (Nat.le_refl _)]; simp))⟩
/-! ### cells changed -/
theorem evx_bm {rm : V → List V → Hp → VK → Prop} {k : Nat} {xs : List AV} (h : EvX K te δ κ (.c k) κ1) (hk : κ1[k]? = some xs) (ha : EvAs K tas δ κ1 as κ2) (hr : RM K rm κ2 (.c k) as z κ3) : EvX K (tBM K "list" rm te tas) δ κ z κ3 := fun G H ps σ R E Q q =>
  h G H ps σ R E _ fun v G1 H1 p1 s R1 r1 => by
    have hty : tyV K "list" v H1 := by
      cases r1 with
      | c r1 =>
        obtain ⟨vs, e, _⟩ := R1.cellOf r1 hk
        exact .inl ⟨rfl, vs, .inl (.inl e)⟩
    exact ⟨hty, ha G1 H1 p1 σ R1 (s.env E) _ fun us G2 H2 p2 s2 R2 rs => hr G2 H2 p2 v us R2 (s2.vr r1) rs Q fun v' G3 H3 p3 s3 R3 r3 => q v' G3 H3 p3 ((s.trans R.sub s2).trans R.sub s3) R3 r3⟩
theorem rm_append {k : Nat} {xs : List AV} (hk : κ[k]? = some xs) (hz : xs.length < 100000) : RM K rAppend κ (.c k) [x] (.d .none) (κ.set k (xs ++ [x])) := fun G H ps vx vs R r1 rs Q q => by
  cases r1 with
  | @c p _ r1 =>
    cases rs with
    | cons r2 rt =>
      cases rt
      obtain ⟨ws, e, s1⟩ := R.cellOf r1 hk
      have l1 := vrs_len s1
      exact ⟨p, ws, _, rfl, rfl, e, Evl.sz_lt (by omega), q _ _ _ ps (stp_set R r1) (rep_set R r1 hk (vrs_app s1 (.cons r2 .nil))) (.d .non)⟩
theorem rm_pop0 {k : Nat} {xs : List AV} (hk : κ[k]? = some (x :: xs)) : RM K rPopAt κ (.c k) [.d (.int 0)] x (κ.set k xs) := fun G H ps vx vs R r1 rs Q q => by
  cases r1 with
  | @c p _ r1 =>
    cases rs with
    | cons r2 rt =>
      cases rt
      cases r2 with
      | d r2 =>
        cases r2
        obtain ⟨ws, e, s1⟩ := R.cellOf r1 hk
        cases s1 with
        | @cons v vs' _ _ h1 h2 =>
          exact ⟨p, _, 0, 0, v, rfl, rfl, e, by decide, by decide, by simp [seqIndex?], rfl, q _ _ _ ps (stp_set R r1) (rep_set R r1 hk h2) h1⟩
/-- o[i] = e -/
theorem stx_setC {k j : Nat} {xs : List AV} (h : EvX K te δ κ a κ1) (ho : EvX K ta δ κ1 (.c k) κ2) (hi : EvX K tb δ κ2 (.d (.int (j : Int))) κ3) (hk : κ3[k]? = some xs) (hj : j < xs.length) (p : P (.nx δ (κ3.set k (xs.set j a)))) : StX K (tAsg te (gSub ta tb rSetL)) δ κ P := fun G H ps σ D R E F =>
  h G H ps σ R E _ fun v G1 H1 p1 s1 R1 r1 => ho G1 H1 p1 σ R1 (s1.env E) _ fun v2 G2 H2 p2 s2 R2 r2 => hi G2 H2 p2 σ R2 (s2.env (s1.env E)) _ fun v3 G3 H3 p3 s3 R3 r3 => by
    have r2' := s3.vr r2
    cases r2' with
    | @c q _ r2' =>
      cases r3 with
      | d r3 =>
        cases r3
        obtain ⟨ws, e, rs⟩ := R3.cellOf r2' hk
        have l1 := vrs_len rs
        refine ⟨q, ws, _, j, rfl, rfl, e, Evl.ixN_nat (by omega), ?_⟩
        have s03 := (s1.trans R.sub s2).trans R.sub s3
        exact F.nx _ _ p3 σ δ _ (s03.trans R.sub (stp_set R3 r2')) (rep_set R3 r2' hk (vrs_set (s3.vr (s2.vr r1)) rs)) (s03.env E) p
/-! ### while -/
theorem stx_while (I : Nat → Slots → Cells → Prop) (m0 : Nat) (h0 : I m0 δ κ) (hs : ∀ m δ' κ', I m δ' κ' → ∃ c κa, EvB K t δ' κ' c κa ∧ (c = true → StX K tu δ' κa (turnP P (fun δ κ => ∃ m', m' < m ∧ I m' δ κ))) ∧ (c = false → P (.nx δ' κa))) : StX K (tWhile t tu) δ κ P := fun G H ps σ D R E F => by
  refine ⟨fun m σ' H' => At K G H ps (I m) σ' H', ⟨m0, G, ps, δ, κ, .refl, R, E, h0⟩, ?_⟩
  rintro m σ' H' ⟨G1, p1, δ1, κ1, s1, R1, E1, q⟩
  obtain ⟨c, κa, hb, hT, hF⟩ := hs m δ1 κ1 q
  refine hb G1 H' p1 σ' R1 E1 _ fun G2 H2 p2 s2 R2 => ?_
  cases c with
  | true =>
    refine ⟨At K G H ps (fun δ κ => ∃ m', m' < m ∧ I m' δ κ), fun σ3 H3 h3 => ?_, ?_⟩
    · obtain ⟨G3, p3, δ3, κ3, s3, R3, E3, m', hm, q3⟩ := h3
      exact ⟨m', hm, G3, p3, δ3, κ3, s3, R3, E3, q3⟩
    · exact hT rfl G2 H2 p2 σ' _ R2 (s2.env E1) (fin_turn F R.sub (s1.trans R.sub s2) R.sub (s1.trans R.sub s2))
  | false => exact F.nx G2 H2 p2 σ' δ1 κa (s1.trans R.sub s2) R2 (s2.env E1) (hF rfl)
end
end BY
end

section
set_option Elab.async false
set_option linter.all false
set_option maxRecDepth 100000
set_option maxHeartbeats 4000000
namespace BY
open PySem PySem.Spec PyProof.Rows L2
open Evl (Ex ex_l ex_t)
/-! ### a def keeps its promise, by its body -/
mutual
/-- its cells are among the first n -/
def low (n : Nat) : AV → Bool
  | .d _ => true
  | .c k => decide (k < n)
  | .t xs => lows n xs
  | .v _ => true
def lows (n : Nat) : List AV → Bool
  | [] => true
  | x :: xs => low n x && lows n xs
end
section
variable {K : PySem.W.Frag} {G H : Hp} {ps qs : List Addr}
mutual
theorem vr_low : ∀ (a : AV) (v : V), low ps.length a = true → VR K G (ps ++ qs) v a → VR K G ps v a
  | .d x, _, _, h => by cases h with | d h => exact .d h
  | .c k, _, hl, h => by
    cases h with
    | c h =>
      have hk : k < ps.length := by simpa [low] using hl
      rw [List.getElem?_append_left hk] at h
      exact .c h
  | .t xs, _, hl, h => by
    cases h with
    | t h1 h2 => exact .t h1 (vrs_low xs _ (by simpa [low] using hl) h2)
  | .v x, _, _, h => by cases h; exact .v
theorem vrs_low : ∀ (as : List AV) (vs : List V), lows ps.length as = true → VRs K G (ps ++ qs) vs as → VRs K G ps vs as
  | [], _, _, h => by cases h; exact .nil
  | a :: as, _, hl, h => by
    have hl' : low ps.length a = true ∧ lows ps.length as = true := by simpa [lows] using hl
    cases h with
    | cons h1 h2 => exact .cons (vr_low a _ hl'.1 h1) (vrs_low as _ hl'.2 h2)
end
theorem low_of : ∀ {a : AV} {v : V}, VR K G ps v a → low ps.length a = true := by
  intro a v h
  refine VR.rec (motive_1 := fun v a _ => low ps.length a = true) (motive_2 := fun vs as _ => lows ps.length as = true) ?_ ?_ ?_ ?_ ?_ ?_ h
  · intros; rfl
  · intro p k e
    simpa [low] using (List.getElem?_eq_some_iff.mp e).1
  · intro a vs xs _ _ h
    simpa [low] using h
  · intros; rfl
  · rfl
  · intro v vs x xs _ _ h1 h2
    simp [lows, h1, h2]
theorem lows_of : ∀ {as : List AV} {vs : List V}, VRs K G ps vs as → lows ps.length as = true
  | _, _, .nil => rfl
  | _, _, .cons h t => by simp [lows, low_of h, lows_of t]
/-- the last cells thrown away -/
theorem rep_drop {κ junk : Cells} {ps' : List Addr} (R : Rep K G H ps' (κ ++ junk)) (hl : ∀ xs ∈ κ, lows κ.length xs = true) : Rep K G H (ps'.take κ.length) κ := by
  have hlen : ps'.length = κ.length + junk.length := by rw [R.len, List.length_append]
  have hps : (ps'.take κ.length).length = κ.length := by rw [List.length_take]; omega
  refine ⟨R.sub, R.nd.sublist (List.take_sublist _ _), hps, fun k p xs hp hk => ?_⟩
  have hkl : k < κ.length := (List.getElem?_eq_some_iff.mp hk).1
  have hp' : ps'[k]? = some p := by
    rw [List.getElem?_take] at hp
    simpa [hkl] using hp
  obtain ⟨g, vs, e, r⟩ := R.cell k p xs hp' (by rw [List.getElem?_append_left hkl]; exact hk)
  refine ⟨g, vs, e, ?_⟩
  rw [← List.take_append_drop κ.length ps'] at r
  exact vrs_low xs vs (by rw [hps]; exact hl xs (List.mem_of_getElem? hk)) r
end
/-- how a body's way out meets a promise: the value a behind the cells κ' -/
inductive Meets (a : AV) (κ' : Cells) : AV → Cells → Prop
  | eq {junk : Cells} : low κ'.length a = true → Meets a κ' a (κ' ++ junk)
  | frz {junk : Cells} {k : Nat} {ds : List PyData} : a = .d (.list ds) → κ'.length ≤ k → (κ' ++ junk)[k]? = some (ds.map AV.d) → Meets a κ' (.c k) (κ' ++ junk)
theorem Meets.same {a : AV} {κ' : Cells} (h : low κ'.length a = true) : Meets a κ' a κ' := by
  have q := Meets.eq (a := a) (κ' := κ') (junk := []) h
  rw [List.append_nil] at q
  exact q
/-- the outcomes that keep a promise -/
def okP (a : AV) (κ' : Cells) : Out → Prop
  | .rt b κ => Meets a κ' b κ
  | .nx _ κ => a = .d .none ∧ ∃ junk, κ = κ' ++ junk
  | _ => False
section
variable {P : Program} {w : World} {K : PySem.W.Frag} {mg : Str → Option Value} {base : Heap}
theorem frz_rep {κ junk : Cells} {G H : Hp} {ps' : List Addr} {k : Nat} {p : Addr} {vs : List V} (R : Rep K G H ps' (κ ++ junk)) (hk : κ.length ≤ k) (hp : ps'[k]? = some p) (e : H p = some (.lst vs)) (gp : G p = none) (hl : ∀ xs ∈ κ, lows κ.length xs = true) :
    Rep K (upd G p (.lst vs)) H (ps'.take κ.length) κ := by
  have R0 := rep_drop R hl
  refine ⟨fun b o h => ?_, R0.nd, R0.len, fun j q xs hq hj => ?_⟩
  · by_cases z : b = p
    · subst z; rw [upd_same] at h; cases h; exact e
    · rw [upd_ne z] at h; exact R0.sub b o h
  · obtain ⟨g, ws, e1, r⟩ := R0.cell j q xs hq hj
    have hjl : j < κ.length := (List.getElem?_eq_some_iff.mp hj).1
    have hq' : ps'[j]? = some q := by
      rw [List.getElem?_take] at hq
      simpa [hjl] using hq
    refine ⟨?_, ws, e1, vrs_mono (ex_up gp) (qs := []) (by simp) _ _ r⟩
    rw [upd_ne (fun z => by have := nodup_at R.nd hq' (by rw [z]; exact hp); omega)]
    exact g
theorem stp_drop {G H G' H' : Hp} {ps ps' : List Addr} {n : Nat} (s : Stp G H ps G' H' ps') (h1 : ps.length ≤ n) : Stp G H ps G' H' (ps'.take n) := by
  obtain ⟨qs, e, f⟩ := s.pre
  refine ⟨s.g, ⟨qs.take (n - ps.length), ?_, fun q hq => f q (List.mem_of_mem_take hq)⟩, s.keep, s.kept, s.fresh⟩
  rw [e, List.take_append, List.take_of_length_le h1]
theorem fn_x {x qual : Str} {st : Stmt} {f : Addr} {fd : FuncData} {N pars : List Str} {k : Nat} {fx : FX} (F : Fun K x qual st f fd) (S : FnScope N pars (defScope st)) (hlen : ∀ as κ a κ', fx as κ a κ' → as.length = pars.length)
    (hk : ∀ as κ a κ', fx as κ a κ' → κ.length ≤ κ'.length)
    (hbody : ∀ (cdv : Value) (A : Around) (outer : List Env) (s : Shared) (H : Hp) (E : XK), Room k (A.deeper (envOfC qual (defScope st) s.heap.objs.size f cdv)) →
      ∃ t, PSs (cxOf CX0 P w K mg base N qual (defScope st) f cdv A outer s H E).nox (defBody st) t ∧ ∀ as κ a κ', fx as κ a κ' → (∀ xs ∈ κ, lows κ.length xs = true) → (∀ b ∈ as, low κ.length b = true) →
        (∀ xs ∈ κ', lows κ'.length xs = true) ∧ StX K t (as.map some ++ List.replicate (N.length - as.length) none) κ (okP a κ')) : FnOk P w K mg base CX0 (k + 1) f fd pars (spX K fx) := by
  refine F.ok S (fun vs H Q E h => ?_) (fun cdv A outer s H vs Q E hr h => ?_)
  · obtain ⟨G, ps, κ, as, a, κ', R, r, hf, _⟩ := h
    rw [vrs_len r]
    exact hlen as κ a κ' hf
  · obtain ⟨G, ps, κ, as, a, κ', R, r, hf, q⟩ := h
    obtain ⟨t, ht, hst⟩ := hbody cdv A outer s H E hr
    refine ⟨t, ht, ?_⟩
    have lk : ∀ xs ∈ κ, lows κ.length xs = true := fun xs hx => by
      obtain ⟨j, hj⟩ := List.getElem?_of_mem hx
      have hjl := (List.getElem?_eq_some_iff.mp hj).1
      obtain ⟨p, hp⟩ := R.pAt hj
      obtain ⟨_, vs', _, r'⟩ := R.cell j p xs hp hj
      have := lows_of r'
      rw [R.len] at this
      exact this
    have la : ∀ b ∈ as, low κ.length b = true := fun b hb => by
      obtain ⟨j, hj⟩ := List.getElem?_of_mem hb
      obtain ⟨v, _, rv⟩ := vrs_at r hj
      have := low_of rv
      rw [R.len] at this
      exact this
    obtain ⟨lk', hs⟩ := hst as κ a κ' hf lk la
    have hkk := hk as κ a κ' hf
    have E0 : EnvR K G ps (L2.start N vs) (as.map some ++ List.replicate (N.length - as.length) none) := by
      unfold L2.start
      rw [vrs_len r]
      exact EnvR.start r _
    have hps : ps.length ≤ κ'.length := by rw [R.len]; exact hkk
    refine hs G H ps (L2.start N vs) _ R E0 ⟨fun G' H' ps' σ δ κ2 s2 R2 E2 p => ?_, fun G' H' ps' v b κ2 s2 R2 r2 p => ?_, fun _ _ _ _ _ _ _ _ _ p => p.elim, fun _ _ _ _ _ _ _ _ _ p => p.elim⟩
    · obtain ⟨rfl, junk, rfl⟩ := p
      exact q .non G' H' (ps'.take κ'.length) (stp_drop s2 hps) (rep_drop R2 lk') (.d .non)
    · have hlen' : (ps'.take κ'.length).length = κ'.length := by
        cases p <;> (rw [List.length_take, R2.len, List.length_append]; omega)
      cases p with
      | eq hl =>
        refine q v G' H' (ps'.take κ'.length) (stp_drop s2 hps) (rep_drop R2 lk') ?_
        rw [← List.take_append_drop κ'.length ps'] at r2
        exact vr_low a v (by rw [hlen']; exact hl) r2
      | @frz junk j ds ha hj hc =>
        subst ha
        cases r2 with
        | @c p0 _ hp0 =>
          obtain ⟨gp, ws, e, r3⟩ := R2.cell j p0 _ hp0 hc
          have sd := stp_drop s2 hps
          have s3 : Stp G H ps (upd G' p0 (.lst ws)) H' (ps'.take κ'.length) := by
            refine ⟨fun b o hb => ?_, sd.pre, sd.keep, sd.kept, fun b o hb => ?_⟩
            · rw [upd_ne (ne_of_none (s2.g b o hb) gp)]; exact s2.g b o hb
            · by_cases z : b = p0
              · subst z
                refine .inr ?_
                obtain ⟨qs, eq, fq⟩ := s2.pre
                have : j ≥ ps.length := by omega
                rw [eq, List.getElem?_append_right this] at hp0
                exact fq _ (List.mem_of_getElem? hp0)
              · rw [upd_ne z] at hb; exact s2.fresh b o hb
          exact q (.ref p0) (upd G' p0 (.lst ws)) H' (ps'.take κ'.length) s3 (frz_rep R2 hj hp0 e gp lk') (.d (.lst (.inl (.inl upd_same)) (dpAll_mono (ex_up gp) _ _ (vrs_dpAll r3))))
end
end BY
end

section
set_option Elab.async false
set_option linter.all false
set_option maxRecDepth 100000
set_option maxHeartbeats 4000000
namespace BY
open PySem PySem.Spec PyProof.Rows L2
open Evl (Ex ex_l ex_t)
theorem hu64 {k : Nat} {A : Around} (r : Room k A) : A.units + 64 < cLine := by have := r.un; omega
theorem hu100 {k : Nat} {A : Around} (r : Room k A) : A.units + 100 < cLine := by have := r.un; omega
/-! ### rules by whatever the values are -/
def rAddG (K : PySem.W.Frag) : R2 := fun x y H Q => (rI0 fun i j => .int (i + j)) x y H Q ∨ (rCatA K x y H Q ∨ rCat x y H Q)
def rMinG (K : PySem.W.Frag) : List V → Hp → VK → Prop := fun xs H Q => rMinD K xs H Q ∨ rMin2D K xs H Q
def tTru (K : PySem.W.Frag) (ta : TE) : TT := fun σ H Q => ta σ H fun x H' => ∃ k, TruV K x H' k ∧ Q k H'
section
variable {X : Cx}
theorem op_addG : OpR X (binaryOp .Add) (rAddG X.K) := OpR.or op_add (OpR.or op_catA op_cat)
theorem cr_minG (hc : X.calm = true) (hu : X.A.units + 100 < cLine) : CallR X (.builtin "min") (rMinG X.K) := CallR.or (cr_minD hc hu) (cr_min2D hc hu)
theorem pt_tru {a : Expr} {ta : TE} (ha : PE X a ta) (he : ∀ whole, isTrue a X.env whole = (do let v ← whole; standAt a.pos; holding [v] (truthy v)) := by intro _; rfl) : PT X a (tTru X.K ta) := pt_truth ha he
end
section
variable {K : PySem.W.Frag} {w : World} {δ δ' : Slots} {κ κ1 κ2 κ3 : Cells} {ta tb tc te tl : TE} {t u tt : TT} {x y z a b : AV} {r : R2} {tas : TA} {as : List AV} {P P' : Out → Prop} {D : Ends} {tu tw : TS} {g : TG} {wi : TI} {n : Nat} {it : Nat → AV}
theorem rx_addI {i j : Int} : RX K (rAddG K) κ (.d (.int i)) (.d (.int j)) (.d (.int (i + j))) κ := fun G H ps vx vy R r1 r2 Q q => .inl (rx_int (g := fun i j => i + j) G H ps vx vy R r1 r2 Q q)
theorem rx_addT {xs ys : List PyData} (hz : xs.length + ys.length ≤ 100000 := by simp) : RX K (rAddG K) κ (.d (.tuple xs)) (.d (.tuple ys)) (.d (.tuple (xs ++ ys))) κ := fun G H ps vx vy R r1 r2 Q q => .inr (.inl (rx_catT hz G H ps vx vy R r1 r2 Q q))
theorem rx_addC {xs ys : List AV} {j k m : Nat} (hj : κ[j]? = some xs) (hk : κ[k]? = some ys) (hm : m = κ.length) (hz : xs.length + ys.length ≤ 100000 := by simp) : RX K (rAddG K) κ (.c j) (.c k) (.c m) (κ ++ [xs ++ ys]) := fun G H ps vx vy R r1 r2 Q q => .inr (.inr (rx_catC hj hk hm hz G H ps vx vy R r1 r2 Q q))
theorem rx_ixTDg {ds : List PyData} {i : Nat} {d : PyData} (h : ds[i]? = some d) : RX K (rIx K) κ (.d (.tuple ds)) (.d (.int (i : Int))) (.d d) κ := fun G H ps vx vy R r1 r2 Q q => .inr (.inl (rx_ixTD h G H ps vx vy R r1 r2 Q q))
theorem rx_ixTTg {ds : List AV} {i : Nat} {d : AV} (h : ds[i]? = some d) : RX K (rIx K) κ (.t ds) (.d (.int (i : Int))) d κ := fun G H ps vx vy R r1 r2 Q q => .inr (.inl (rx_ixTT h G H ps vx vy R r1 r2 Q q))
theorem rx_ixLDg {ds : List PyData} {i : Nat} {d : PyData} (h : ds[i]? = some d) : RX K (rIx K) κ (.d (.list ds)) (.d (.int (i : Int))) (.d d) κ := fun G H ps vx vy R r1 r2 Q q => .inl (rx_ixLD h G H ps vx vy R r1 r2 Q q)
theorem rx_ixCg {ds : List AV} {k i : Nat} {d : AV} (hk : κ[k]? = some ds) (h : ds[i]? = some d) : RX K (rIx K) κ (.c k) (.d (.int (i : Int))) d κ := fun G H ps vx vy R r1 r2 Q q => .inl (rx_ixC hk h G H ps vx vy R r1 r2 Q q)
theorem rc_minGC {k : Nat} {d : PyData} {ds : List PyData} (hk : κ[k]? = some ((d :: ds).map AV.d)) (ha : PySem.W.AlikeAll (d :: ds)) (hz : PyData.depthAll (d :: ds) ≤ 64) : RC K (rMinG K) κ [.c k] (.d (PySem.W.minD d ds)) κ := fun G H ps vs R rs Q q => .inl (rc_minC hk ha hz G H ps vs R rs Q q)
theorem rc_minGD {d : PyData} {ds : List PyData} (ha : PySem.W.AlikeAll (d :: ds)) (hz : PyData.depthAll (d :: ds) ≤ 64) : RC K (rMinG K) κ [.d (.list (d :: ds))] (.d (PySem.W.minD d ds)) κ := fun G H ps vs R rs Q q => .inl (rc_minD ha hz G H ps vs R rs Q q)
theorem rc_minG2 {d e : PyData} (ha : PySem.W.AlikeAll [d, e]) (hz : PyData.depthAll [d, e] ≤ 64) : RC K (rMinG K) κ [.d d, .d e] (.d (if PySem.W.dataLt e d = true then e else d)) κ := fun G H ps vs R rs Q q => .inr (rc_min2 ha hz G H ps vs R rs Q q)
/-! truth -/
theorem isEmpty_dp {G : Hp} : ∀ {vs : List V} {ds : List PyData}, DpAll K G vs ds → vs.isEmpty = ds.isEmpty
  | _, _, .nil => rfl
  | _, _, .cons _ _ => rfl
theorem isEmpty_vrs {G : Hp} {ps : List Addr} : ∀ {vs : List V} {ds : List AV}, VRs K G ps vs ds → vs.isEmpty = ds.isEmpty
  | _, _, .nil => rfl
  | _, _, .cons _ _ => rfl
theorem evb_truT {ds : List PyData} (h : EvX K te δ κ (.d (.tuple ds)) κ1) : EvB K (tTru K te) δ κ (!ds.isEmpty) κ1 := fun G H ps σ R E Q q =>
  h G H ps σ R E _ fun v G1 H1 p1 s R1 r1 => by
    cases r1 with
    | d r1 =>
      cases r1 with
      | @tup a vs _ t1 t2 => exact ⟨_, .inr (.inl ⟨vs, ex_t R1.sub t1, rfl⟩), by rw [isEmpty_dp t2]; exact q G1 H1 p1 s R1⟩
theorem evb_truL {ds : List PyData} (h : EvX K te δ κ (.d (.list ds)) κ1) : EvB K (tTru K te) δ κ (!ds.isEmpty) κ1 := fun G H ps σ R E Q q =>
  h G H ps σ R E _ fun v G1 H1 p1 s R1 r1 => by
    cases r1 with
    | d r1 =>
      cases r1 with
      | @lst a vs _ t1 t2 => exact ⟨_, .inl ⟨vs, ex_l R1.sub t1, rfl⟩, by rw [isEmpty_dp t2]; exact q G1 H1 p1 s R1⟩
theorem evb_truC {k : Nat} {xs : List AV} (h : EvX K te δ κ (.c k) κ1) (hk : κ1[k]? = some xs) : EvB K (tTru K te) δ κ (!xs.isEmpty) κ1 := fun G H ps σ R E Q q =>
  h G H ps σ R E _ fun v G1 H1 p1 s R1 r1 => by
    cases r1 with
    | c r1 =>
      obtain ⟨vs, e, r2⟩ := R1.cellOf r1 hk
      exact ⟨_, .inl ⟨vs, .inl (.inl e), rfl⟩, by rw [isEmpty_vrs r2]; exact q G1 H1 p1 s R1⟩
theorem evb_truB {c : Bool} (h : EvX K te δ κ (.d (.bool c)) κ1) : EvB K (tTru K te) δ κ c κ1 := fun G H ps σ R E Q q =>
  h G H ps σ R E _ fun v G1 H1 p1 s R1 r1 => by
    cases r1 with
    | d r1 => cases r1; exact ⟨c, rfl, q G1 H1 p1 s R1⟩
theorem evb_yes : EvB K tYes δ κ true κ := fun G H ps σ R E Q q => q G H ps .refl R
/-! a <= b <= c, over ints -/
theorem evx_chain {g h : Int → Int → Bool} {i j k : Int} (h1 : EvX K ta δ κ (.d (.int i)) κ1) (h2 : EvX K tb δ κ1 (.d (.int j)) κ1) (h3 : EvX K tc δ κ1 (.d (.int k)) κ1) :
    EvX K (tChain (rI0 fun i j => .bl (g i j)) (rI0 fun i j => .bl (h i j)) ta tb tc) δ κ (.d (.bool (g i j && h j k))) κ1 := fun G H ps σ R E Q q =>
  h1 G H ps σ R E _ fun v G1 H1 p1 s R1 r1 => h2 G1 H1 p1 σ R1 (s.env E) _ fun v2 G2 H2 p2 s2 R2 r2 => by
    cases r1 with
    | d r1 =>
      cases r1
      cases r2 with
      | d r2 =>
        cases r2
        have s12 := s.trans R.sub s2
        refine ⟨i, j, rfl, rfl, g i j, rfl, ?_⟩
        cases hg : g i j with
        | true =>
          show tc σ H2 _
          refine h3 G2 H2 p2 σ R2 (s12.env E) _ fun v3 G3 H3 p3 s3 R3 r3 => ?_
          cases r3 with
          | d r3 =>
            cases r3
            refine ⟨j, k, rfl, rfl, ?_⟩
            have q' := q (.bl (h j k)) G3 H3 p3 (s12.trans R.sub s3) R3
            rw [hg] at q'
            exact q' (.d (.bl _))
        | false =>
          show Q (.bl false) H2
          have q' := q (.bl false) G2 H2 p2 s12 R2
          rw [hg] at q'
          exact q' (.d (.bl _))
/-! two names at once -/
theorem stx_par {i j : Nat} (h : EvAs K tas δ κ [a, b] κ1) (k : P (.nx ((δ.set i (some a)).set j (some b)) κ1)) : StX K (tPar i j tas) δ κ P := fun G H ps σ D R E F =>
  h G H ps σ R E _ fun vs G1 H1 p1 s R1 rs => by
    cases rs with
    | cons r1 rt =>
      cases rt with
      | cons r2 rt =>
        cases rt
        exact ⟨_, _, rfl, F.nx G1 H1 p1 _ _ κ1 s R1 (((s.env E).set r1).set r2) k⟩
end
/-! ### defs of the top, with their promises -/
structure Has (P : Program) (w : World) (K : PySem.W.Frag) (mg : Str → Option Value) (base : Heap) (x : Str) (k : Nat) (pars : List Str) (fx : FX) : Prop where
  ex : ∃ f fd, FnOk P w K mg base CX0 k f fd pars (spX K fx) ∧ mg x = some (.ref f) ∧ PySem.W.keepIn K (.ref f) = true ∧ Binds K fd pars []
/-- a def as the top leaves it -/
structure Top (K : PySem.W.Frag) (mg : Str → Option Value) (x : Str) (st : Stmt) (pars : List Str) : Prop where
  ex : ∃ f fd, Fun K x x st f fd ∧ mg x = some (.ref f) ∧ Binds K fd pars []
section
variable {X : Cx} {x : Str} {k j : Nat} {ps : List Str} {fx : FX}
def tHas (K : PySem.W.Frag) (fx : FX) (t : TA) : TE := tCall (spX K fx) [] E0 t
theorem pe_has (F : Has X.prog X.w X.K X.mg X.base x k ps fx) (hr : Room j X.A) {e : Expr} {es : List Expr} {t : TA} {p pos : Pos} (ha : PA X (e :: es) t) (hkj : k ≤ j := by decide) (hg : Gl X x := by rfl) (hdb : (x == ("__debug__" : Str)) = false := by decide)
    (hs : starEach (e :: es) X.env = (false, eval e X.env) :: starEach es X.env := by rfl) (hb : (backTo pos (starEach es X.env)).any (·.1) = false := by rfl) :
    PE X (.Call (.Name x p) (e :: es) [] pos) (tHas X.K fx t) := by
  obtain ⟨f, fd, ok, hm, kp, bd⟩ := F.ex
  exact pe_call ok (hr.mono hkj) hg hm kp bd .nil pass0 ha hdb hs hb
end
theorem evx_has {K : PySem.W.Frag} {δ : Slots} {κ κ1 κ2 : Cells} {tas : TA} {as : List AV} {a : AV} {fx : FX} (h : EvAs K tas δ κ as κ1) (hf : fx as κ1 a κ2) : EvX K (tHas K fx tas) δ κ a κ2 := evx_call0 h hf
end BY
end

section
set_option Elab.async false
set_option linter.all false
set_option maxRecDepth 100000
set_option maxHeartbeats 4000000
namespace BY
open PySem PySem.Spec PyProof.Rows L2
open Evl (Ex ex_l ex_t)
/-! ### what is walked: a list or a tuple -/
def rInt1 : List V → Hp → VK → Prop := fun xs H Q => (∃ i, xs = [.int i] ∧ Q (.int i) H) ∨ ∃ k, xs = [.bl k] ∧ Q (.int (if k then 1 else 0)) H
def iSeq (K : PySem.W.Frag) (tl : TE) : TI := fun σ H R => iList K tl σ H R ∨ iTup K tl σ H R
theorem pi_seq {X : Cx} {tg l : Expr} {tl : TE} (hl : PE X l tl) : PI X tg l (iSeq X.K tl) := ⟨fun pins s σ H R I h => by
  rcases h with h | h
  · exact (pi_list hl).run pins s σ H R I h
  · exact (pi_tup hl).run pins s σ H R I h⟩
section
variable {K : PySem.W.Frag} {w : World} {δ δ' : Slots} {κ κ1 κ2 κ3 : Cells} {ta tb tc te tl : TE} {t u tt : TT} {x y z a b : AV} {r : R2} {tas : TA} {as : List AV} {P P' : Out → Prop} {D : Ends} {tu tw : TS} {g : TG} {wi : TI} {n : Nat} {it : Nat → AV} {Inv : Cells → Prop}
theorem src_seqL (S : Src K (iList K tl) δ κ n it κ1 Inv) : Src K (iSeq K tl) δ κ n it κ1 Inv := fun G H ps σ R E q h => .inl (S G H ps σ R E q h)
theorem src_seqT (S : Src K (iTup K tl) δ κ n it κ1 Inv) : Src K (iSeq K tl) δ κ n it κ1 Inv := fun G H ps σ R E q h => .inr (S G H ps σ R E q h)
/-! ### evaluation with a choice of outcomes -/
def EvY (K : PySem.W.Frag) (te : TE) (δ : Slots) (κ : Cells) (Po : AV → Cells → Prop) : Prop :=
  ∀ G H ps σ, Rep K G H ps κ → EnvR K G ps σ δ → ∀ Q : VK, (∀ v a κ' G' H' ps', Po a κ' → Stp G H ps G' H' ps' → Rep K G' H' ps' κ' → VR K G' ps' v a → Q v H') → te σ H Q
def EvYs (K : PySem.W.Frag) (ta : TA) (δ : Slots) (κ : Cells) (Po : List AV → Cells → Prop) : Prop :=
  ∀ G H ps σ, Rep K G H ps κ → EnvR K G ps σ δ → ∀ Q : List V → Hp → Prop, (∀ v a κ' G' H' ps', Po a κ' → Stp G H ps G' H' ps' → Rep K G' H' ps' κ' → VRs K G' ps' v a → Q v H') → ta σ H Q
def EvYB (K : PySem.W.Frag) (tt : TT) (δ : Slots) (κ : Cells) (Po : Bool → Cells → Prop) : Prop :=
  ∀ G H ps σ, Rep K G H ps κ → EnvR K G ps σ δ → ∀ Q : Bool → Hp → Prop, (∀ c κ' G' H' ps', Po c κ' → Stp G H ps G' H' ps' → Rep K G' H' ps' κ' → Q c H') → tt σ H Q
variable {Po Po' : AV → Cells → Prop} {Pl : List AV → Cells → Prop} {Pb : Bool → Cells → Prop}
theorem EvX.toY (h : EvX K te δ κ a κ1) : EvY K te δ κ (fun b κ' => b = a ∧ κ' = κ1) := fun G H ps σ R E Q q => h G H ps σ R E Q fun v G' H' ps' s R' r => q v a κ1 G' H' ps' ⟨rfl, rfl⟩ s R' r
theorem EvAs.toY (h : EvAs K tas δ κ as κ1) : EvYs K tas δ κ (fun b κ' => b = as ∧ κ' = κ1) := fun G H ps σ R E Q q => h G H ps σ R E Q fun v G' H' ps' s R' r => q v as κ1 G' H' ps' ⟨rfl, rfl⟩ s R' r
theorem EvB.toY {c : Bool} (h : EvB K tt δ κ c κ1) : EvYB K tt δ κ (fun b κ' => b = c ∧ κ' = κ1) := fun G H ps σ R E Q q => h G H ps σ R E Q fun G' H' ps' s R' => q c κ1 G' H' ps' ⟨rfl, rfl⟩ s R'
theorem EvY.mono (h : EvY K te δ κ Po) (i : ∀ a κ', Po a κ' → Po' a κ') : EvY K te δ κ Po' := fun G H ps σ R E Q q => h G H ps σ R E Q fun v a κ' G' H' ps' p s R' r => q v a κ' G' H' ps' (i a κ' p) s R' r
/-- from an outcome that is one of those asked -/
theorem evy_of (h : EvX K te δ κ a κ1) (p : Po a κ1) : EvY K te δ κ Po := h.toY.mono fun _ _ e => by obtain ⟨rfl, rfl⟩ := e; exact p
theorem evys_of (h : EvAs K tas δ κ as κ1) (p : Pl as κ1) : EvYs K tas δ κ Pl := fun G H ps σ R E Q q => h G H ps σ R E Q fun v G' H' ps' s R' r => q v as κ1 G' H' ps' p s R' r
theorem evyb_of {c : Bool} (h : EvB K tt δ κ c κ1) (p : Pb c κ1) : EvYB K tt δ κ Pb := fun G H ps σ R E Q q => h G H ps σ R E Q fun G' H' ps' s R' => q c κ1 G' H' ps' p s R'
theorem evy_op {P1 : AV → Cells → Prop} (h1 : EvY K ta δ κ P1) (h2 : ∀ x κ1, P1 x κ1 → EvY K tb δ κ1 (fun y κ2 => ∃ z κ3, RX K r κ2 x y z κ3 ∧ Po z κ3)) : EvY K (tOp r ta tb) δ κ Po := fun G H ps σ R E Q q =>
  h1 G H ps σ R E _ fun v1 x κ1 G1 H1 p1 q1 s1 R1 r1 => h2 x κ1 q1 G1 H1 p1 σ R1 (s1.env E) _ fun v2 y κ2 G2 H2 p2 ⟨z, κ3, hr, qz⟩ s2 R2 r2 =>
    hr G2 H2 p2 v1 v2 R2 (s2.vr r1) r2 Q fun v3 G3 H3 p3 s3 R3 r3 => q v3 z κ3 G3 H3 p3 qz ((s1.trans R.sub s2).trans R.sub s3) R3 r3
theorem evys_cons {P1 : AV → Cells → Prop} (h1 : EvY K ta δ κ P1) (h2 : ∀ x κ1, P1 x κ1 → EvYs K tas δ κ1 (fun xs κ2 => Pl (x :: xs) κ2)) : EvYs K (tCons ta tas) δ κ Pl := fun G H ps σ R E Q q =>
  h1 G H ps σ R E _ fun v1 x κ1 G1 H1 p1 q1 s1 R1 r1 => h2 x κ1 q1 G1 H1 p1 σ R1 (s1.env E) _ fun v2 y κ2 G2 H2 p2 q2 s2 R2 r2 => q _ _ κ2 G2 H2 p2 q2 (s1.trans R.sub s2) R2 (.cons (s2.vr r1) r2)
theorem evys_nil (h : Pl [] κ) : EvYs K tNil δ κ Pl := evys_of eva_nil h
/-- arguments first, then what is done with them -/
theorem evy_tup {ds : List AV → List PyData} (h : EvYs K tas δ κ (fun as κ' => as = (ds as).map AV.d ∧ as.length ≤ 100000 ∧ Po (.d (.tuple (ds as))) κ')) : EvY K (tTup tas) δ κ Po := fun G H ps σ R E Q q =>
  h G H ps σ R E _ fun vs as κ1 G1 H1 p1 ⟨e, hl, hp⟩ s1 R1 r1 => by
    rw [e] at r1
    refine ⟨by rw [vrs_len r1, ← e]; exact Evl.sz_of hl, fun p hp' => q _ _ _ _ _ p1 hp (s1.trans R.sub (stp_new R1.sub hp')) (rep_new R1 hp')
      (.d (.tup (.inl (.inl upd_same)) (dpAll_mono (ex_up (ex_none R1.sub hp')) _ _ (vrs_dpAll r1))))⟩
theorem evy_cb {rc : List V → Hp → VK → Prop} (h : EvYs K tas δ κ (fun as κ' => ∃ z κ3, RC K rc κ' as z κ3 ∧ Po z κ3)) : EvY K (tCB rc tas) δ κ Po := fun G H ps σ R E Q q =>
  h G H ps σ R E _ fun vs as κ1 G1 H1 p1 ⟨z, κ3, hr, qz⟩ s1 R1 r1 => hr G1 H1 p1 vs R1 r1 Q fun v3 G3 H3 p3 s3 R3 r3 => q v3 z κ3 G3 H3 p3 qz (s1.trans R.sub s3) R3 r3
theorem evyb_test (h : EvY K te δ κ (fun a κ' => ∃ c, a = .d (.bool c) ∧ Pb c κ')) : EvYB K (tTest te) δ κ Pb := fun G H ps σ R E Q q =>
  h G H ps σ R E _ fun v a κ1 G1 H1 p1 ⟨c, e, hp⟩ s1 R1 r1 => by
    subst e
    cases r1 with
    | d r1 => cases r1; exact ⟨c, rfl, q c κ1 G1 H1 p1 hp s1 R1⟩
theorem evyb_and (h1 : EvYB K t δ κ (fun c κ' => if c = true then EvYB K u δ κ' Pb else Pb false κ')) : EvYB K (tAnd t u) δ κ Pb := fun G H ps σ R E Q q =>
  h1 G H ps σ R E _ fun c κ1 G1 H1 p1 hc s1 R1 => by
    cases c with
    | true =>
      show u σ H1 Q
      exact hc G1 H1 p1 σ R1 (s1.env E) Q fun c2 κ2 G2 H2 p2 hp s2 R2 => q c2 κ2 G2 H2 p2 hp (s1.trans R.sub s2) R2
    | false =>
      show Q false H1
      exact q false κ1 G1 H1 p1 hc s1 R1
theorem evy_if (h1 : EvYB K t δ κ (fun c κ' => if c = true then EvY K ta δ κ' Po else EvY K tb δ κ' Po)) : EvY K (tIf t ta tb) δ κ Po := fun G H ps σ R E Q q =>
  h1 G H ps σ R E _ fun c κ1 G1 H1 p1 hc s1 R1 => by
    cases c with
    | true =>
      show ta σ H1 Q
      exact hc G1 H1 p1 σ R1 (s1.env E) Q fun v a κ2 G2 H2 p2 hp s2 R2 => q v a κ2 G2 H2 p2 hp (s1.trans R.sub s2) R2
    | false =>
      show tb σ H1 Q
      exact hc G1 H1 p1 σ R1 (s1.env E) Q fun v a κ2 G2 H2 p2 hp s2 R2 => q v a κ2 G2 H2 p2 hp (s1.trans R.sub s2) R2
/-! statements -/
theorem sty_asg {i : Nat} (h : EvY K te δ κ (fun a κ1 => P (.nx (δ.set i (some a)) κ1))) : StX K (tAsg te (gName i)) δ κ P := fun G H ps σ D R E F =>
  h G H ps σ R E _ fun v a κ1 G1 H1 p1 hp s R1 r => F.nx G1 H1 p1 _ _ κ1 s R1 ((s.env E).set r) hp
theorem sty_ret (h : EvY K te δ κ (fun a κ1 => P (.rt a κ1))) : StX K (tRet te) δ κ P := fun G H ps σ D R E F =>
  h G H ps σ R E _ fun v a κ1 G1 H1 p1 hp s R1 r => F.rt G1 H1 p1 v a κ1 s R1 r hp
theorem sty_drop (h : EvY K te δ κ (fun _ κ1 => P (.nx δ κ1))) : StX K (tDrop te) δ κ P := fun G H ps σ D R E F =>
  h G H ps σ R E _ fun v a κ1 G1 H1 p1 hp s R1 r => F.nx G1 H1 p1 _ _ κ1 s R1 (s.env E) hp
theorem sty_par {i j : Nat} (h : EvYs K tas δ κ (fun as κ1 => ∃ a b, as = [a, b] ∧ P (.nx ((δ.set i (some a)).set j (some b)) κ1))) : StX K (tPar i j tas) δ κ P := fun G H ps σ D R E F =>
  h G H ps σ R E _ fun vs as κ1 G1 H1 p1 ⟨a, b, e, hp⟩ s R1 rs => by
    subst e
    cases rs with
    | cons r1 rt =>
      cases rt with
      | cons r2 rt =>
        cases rt
        exact ⟨_, _, rfl, F.nx G1 H1 p1 _ _ κ1 s R1 (((s.env E).set r1).set r2) hp⟩
theorem sty_if (h : EvYB K t δ κ (fun c κ1 => if c = true then StX K tu δ κ1 P else StX K tw δ κ1 P)) : StX K (tIfS t tu tw) δ κ P := fun G H ps σ D R E F =>
  h G H ps σ R E _ fun c κ1 G1 H1 p1 hc s R1 => by
    cases c with
    | true =>
      show tu D σ H1
      exact hc G1 H1 p1 σ D R1 (s.env E) (F.step R.sub s)
    | false =>
      show tw D σ H1
      exact hc G1 H1 p1 σ D R1 (s.env E) (F.step R.sub s)
theorem sty_while (I : Nat → Slots → Cells → Prop) (m0 : Nat) (h0 : I m0 δ κ) (hs : ∀ m δ' κ', I m δ' κ' → EvYB K t δ' κ' (fun c κa => if c = true then StX K tu δ' κa (turnP P (fun δ κ => ∃ m', m' < m ∧ I m' δ κ)) else P (.nx δ' κa))) : StX K (tWhile t tu) δ κ P := fun G H ps σ D R E F => by
  refine ⟨fun m σ' H' => At K G H ps (I m) σ' H', ⟨m0, G, ps, δ, κ, .refl, R, E, h0⟩, ?_⟩
  rintro m σ' H' ⟨G1, p1, δ1, κ1, s1, R1, E1, q⟩
  refine hs m δ1 κ1 q G1 H' p1 σ' R1 E1 _ fun c κa G2 H2 p2 hc s2 R2 => ?_
  cases c with
  | true =>
    refine ⟨At K G H ps (fun δ κ => ∃ m', m' < m ∧ I m' δ κ), fun σ3 H3 h3 => ?_, ?_⟩
    · obtain ⟨G3, p3, δ3, κ3, s3, R3, E3, m', hm, q3⟩ := h3
      exact ⟨m', hm, G3, p3, δ3, κ3, s3, R3, E3, q3⟩
    · exact hc G2 H2 p2 σ' _ R2 (s2.env E1) (fin_turn F R.sub (s1.trans R.sub s2) R.sub (s1.trans R.sub s2))
  | false => exact F.nx G2 H2 p2 σ' δ1 κa (s1.trans R.sub s2) R2 (s2.env E1) hc
/-! calls of defs that draw -/
abbrev FY := List AV → Cells → (AV → Cells → Prop) → Prop
/-- f as κ Po: with such arguments and cells the def's outcomes are among Po -/
def spY (K : PySem.W.Frag) (f : List AV → Cells → AV → Cells → Prop) (pre : List AV → Cells → Prop) : Sp := fun vs H Q _ => ∃ G ps κ as, Rep K G H ps κ ∧ VRs K G ps vs as ∧ pre as κ ∧ ∀ v a κ' G' H' ps', f as κ a κ' → Stp G H ps G' H' ps' → Rep K G' H' ps' κ' → VR K G' ps' v a → Q v H'
def tHasY (K : PySem.W.Frag) (f : List AV → Cells → AV → Cells → Prop) (pre : List AV → Cells → Prop) (t : TA) : TE := tCall (spY K f pre) [] E0 t
theorem evy_has {f : List AV → Cells → AV → Cells → Prop} {pre : List AV → Cells → Prop} (h : EvYs K tas δ κ (fun as κ1 => pre as κ1 ∧ ∀ a κ2, f as κ1 a κ2 → Po a κ2)) : EvY K (tHasY K f pre tas) δ κ Po := fun G H ps σ R E Q q =>
  h G H ps σ R E _ fun vs as κ1 G1 H1 p1 ⟨hp, hf⟩ s1 R1 r1 => by
    refine ⟨G1, p1, κ1, as, R1, by rw [List.append_nil]; exact r1, hp, fun v a κ2 G2 H2 p2 hfa s2 R2 r2 => q v a κ2 G2 H2 p2 (hf a κ2 hfa) (s1.trans R.sub s2) R2 r2⟩
end
structure HasY (P : Program) (w : World) (K : PySem.W.Frag) (mg : Str → Option Value) (base : Heap) (x : Str) (k : Nat) (pars : List Str) (f : List AV → Cells → AV → Cells → Prop) (pre : List AV → Cells → Prop) : Prop where
  ex : ∃ g fd, FnOk P w K mg base CX0 k g fd pars (spY K f pre) ∧ mg x = some (.ref g) ∧ PySem.W.keepIn K (.ref g) = true ∧ Binds K fd pars []
theorem pe_hasY {X : Cx} {x : Str} {k j : Nat} {ps : List Str} {f : List AV → Cells → AV → Cells → Prop} {pre : List AV → Cells → Prop} (F : HasY X.prog X.w X.K X.mg X.base x k ps f pre) (hr : Room j X.A) {e : Expr} {es : List Expr} {t : TA} {p pos : Pos} (ha : PA X (e :: es) t) (hkj : k ≤ j := by decide) (hg : Gl X x := by rfl) (hdb : (x == ("__debug__" : Str)) = false := by decide)
    (hs : starEach (e :: es) X.env = (false, eval e X.env) :: starEach es X.env := by rfl) (hb : (backTo pos (starEach es X.env)).any (·.1) = false := by rfl) :
    PE X (.Call (.Name x p) (e :: es) [] pos) (tHasY X.K f pre t) := by
  obtain ⟨g, fd, ok, hm, kp, bd⟩ := F.ex
  exact pe_call ok (hr.mono hkj) hg hm kp bd .nil pass0 ha hdb hs hb
/-- the outcomes that keep such a promise -/
def okY (post : AV → Cells → Prop) : Out → Prop
  | .rt b κ => ∃ a κ', post a κ' ∧ (∀ xs ∈ κ', lows κ'.length xs = true) ∧ Meets a κ' b κ
  | .nx _ κ => ∃ κ' junk, post (.d .none) κ' ∧ (∀ xs ∈ κ', lows κ'.length xs = true) ∧ κ = κ' ++ junk
  | _ => False
section
variable {P : Program} {w : World} {K : PySem.W.Frag} {mg : Str → Option Value} {base : Heap}
theorem fn_y {x qual : Str} {st : Stmt} {f : Addr} {fd : FuncData} {N pars : List Str} {k : Nat} {fy : List AV → Cells → AV → Cells → Prop} {pre : List AV → Cells → Prop} (F : Fun K x qual st f fd) (S : FnScope N pars (defScope st)) (hlen : ∀ as κ, pre as κ → as.length = pars.length)
    (hk : ∀ as κ a κ', fy as κ a κ' → κ.length ≤ κ'.length)
    (hbody : ∀ (cdv : Value) (A : Around) (outer : List Env) (s : Shared) (H : Hp) (E : XK), Room k (A.deeper (envOfC qual (defScope st) s.heap.objs.size f cdv)) →
      ∃ t, PSs (cxOf CX0 P w K mg base N qual (defScope st) f cdv A outer s H E).nox (defBody st) t ∧ ∀ as κ, pre as κ → (∀ xs ∈ κ, lows κ.length xs = true) → (∀ b ∈ as, low κ.length b = true) →
        StX K t (as.map some ++ List.replicate (N.length - as.length) none) κ (okY (fy as κ))) : FnOk P w K mg base CX0 (k + 1) f fd pars (spY K fy pre) := by
  refine F.ok S (fun vs H Q E h => ?_) (fun cdv A outer s H vs Q E hr h => ?_)
  · obtain ⟨G, ps, κ, as, R, r, hf, _⟩ := h
    rw [vrs_len r]
    exact hlen as κ hf
  · obtain ⟨G, ps, κ, as, R, r, hf, q⟩ := h
    obtain ⟨t, ht, hst⟩ := hbody cdv A outer s H E hr
    refine ⟨t, ht, ?_⟩
    have lk : ∀ xs ∈ κ, lows κ.length xs = true := fun xs hx => by
      obtain ⟨j, hj⟩ := List.getElem?_of_mem hx
      obtain ⟨p, hp⟩ := R.pAt hj
      obtain ⟨_, vs', _, r'⟩ := R.cell j p xs hp hj
      have := lows_of r'
      rw [R.len] at this
      exact this
    have la : ∀ b ∈ as, low κ.length b = true := fun b hb => by
      obtain ⟨j, hj⟩ := List.getElem?_of_mem hb
      obtain ⟨v, _, rv⟩ := vrs_at r hj
      have := low_of rv
      rw [R.len] at this
      exact this
    have hs := hst as κ hf lk la
    have E0 : EnvR K G ps (L2.start N vs) (as.map some ++ List.replicate (N.length - as.length) none) := by
      unfold L2.start
      rw [vrs_len r]
      exact EnvR.start r _
    refine hs G H ps (L2.start N vs) _ R E0 ⟨fun G' H' ps' σ δ κ2 s2 R2 E2 p => ?_, fun G' H' ps' v b κ2 s2 R2 r2 p => ?_, fun _ _ _ _ _ _ _ _ _ p => p.elim, fun _ _ _ _ _ _ _ _ _ p => p.elim⟩
    · obtain ⟨κ', junk, hp, lk', rfl⟩ := p
      have hps : ps.length ≤ κ'.length := by rw [R.len]; exact hk _ _ _ _ hp
      exact q .non _ κ' G' H' (ps'.take κ'.length) hp (stp_drop s2 hps) (rep_drop R2 lk') (.d .non)
    · obtain ⟨a, κ', hp, lk', m⟩ := p
      have hps : ps.length ≤ κ'.length := by rw [R.len]; exact hk _ _ _ _ hp
      have hlen' : (ps'.take κ'.length).length = κ'.length := by
        cases m <;> (rw [List.length_take, R2.len, List.length_append]; omega)
      cases m with
      | eq hl =>
        refine q v _ κ' G' H' (ps'.take κ'.length) hp (stp_drop s2 hps) (rep_drop R2 lk') ?_
        rw [← List.take_append_drop κ'.length ps'] at r2
        exact vr_low _ v (by rw [hlen']; exact hl) r2
      | @frz junk j ds ha hj hc =>
        subst ha
        cases r2 with
        | @c p0 _ hp0 =>
          obtain ⟨gp, ws, e, r3⟩ := R2.cell j p0 _ hp0 hc
          have sd := stp_drop s2 hps
          have s3 : Stp G H ps (upd G' p0 (.lst ws)) H' (ps'.take κ'.length) := by
            refine ⟨fun b o hb => ?_, sd.pre, sd.keep, sd.kept, fun b o hb => ?_⟩
            · rw [upd_ne (ne_of_none (s2.g b o hb) gp)]; exact s2.g b o hb
            · by_cases z : b = p0
              · subst z
                refine .inr ?_
                obtain ⟨qs, eq, fq⟩ := s2.pre
                have : j ≥ ps.length := by omega
                rw [eq, List.getElem?_append_right this] at hp0
                exact fq _ (List.mem_of_getElem? hp0)
              · rw [upd_ne z] at hb; exact s2.fresh b o hb
          exact q (.ref p0) _ κ' (upd G' p0 (.lst ws)) H' (ps'.take κ'.length) hp s3 (frz_rep R2 hj hp0 e gp lk') (.d (.lst (.inl (.inl upd_same)) (dpAll_mono (ex_up gp) _ _ (vrs_dpAll r3))))
end
end BY
end

section
set_option Elab.async false
set_option linter.all false
set_option maxRecDepth 100000
set_option maxHeartbeats 4000000
namespace BY
open PySem PySem.Spec PyProof.Rows L2
open Evl (Ex ex_l ex_t)
/-! ### a def with a keyword-only parameter behind one other -/
structure HasK (P : Program) (w : World) (K : PySem.W.Frag) (mg : Str → Option Value) (base : Heap) (x : Str) (k : Nat) (pars ks : List Str) (dvs : List V) (fx : FX) : Prop where
  ex : ∃ f fd, FnOk P w K mg base CX0 k f fd pars (spX K fx) ∧ mg x = some (.ref f) ∧ PySem.W.keepIn K (.ref f) = true ∧ KBn K fd pars 1 ks (· ++ ·) (· ++ ·) ∧ ∃ ds, Vals dvs ds ∧ Binds K fd pars ds
def tHasK (K : PySem.W.Frag) (m : Nat) (fx : FX) (t tk : TA) : TE := tCallN 1 m (spX K fx) (· ++ ·) E0 t tk
def tHasD (K : PySem.W.Frag) (dvs : List V) (fx : FX) (t : TA) : TE := tCall (spX K fx) dvs E0 t
section
variable {X : Cx} {x : Str} {k j : Nat} {ps ks : List Str} {dvs : List V} {fx : FX}
theorem pe_hasK (F : HasK X.prog X.w X.K X.mg X.base x k ps ks dvs fx) (hr : Room j X.A) {e : Expr} {es : List Expr} {kws : List Keyword} {t tk : TA} {p pos : Pos} {m : Nat} (ha : PA X (e :: es) t) (hkw : PK X kws tk) (hml : ks.length = m := by rfl) (hkj : k ≤ j := by decide) (hg : Gl X x := by rfl)
    (hall : (backToKw pos (keywordEach kws X.env)).all (·.1.isSome) = true := by rfl) (hks : (backToKw pos (keywordEach kws X.env)).filterMap (·.1) = ks := by rfl)
    (hdb : (x == ("__debug__" : Str)) = false := by decide) (hs : starEach (e :: es) X.env = (false, eval e X.env) :: starEach es X.env := by rfl)
    (hpl : ((backTo pos (starEach (e :: es) X.env)).any (·.1) || (backToKw pos (keywordEach kws X.env)).any (·.1.isNone)) = false := by rfl) :
    PE X (.Call (.Name x p) (e :: es) kws pos) (tHasK X.K m fx t tk) := by
  subst hml
  obtain ⟨f, fd, ok, hm, kp, kb, _⟩ := F.ex
  exact pe_callN ok (hr.mono hkj) hg hm kp kb pass0 ha hkw hall hks hdb hs hpl
theorem pe_hasD (F : HasK X.prog X.w X.K X.mg X.base x k ps ks dvs fx) (hr : Room j X.A) {e : Expr} {es : List Expr} {t : TA} {p pos : Pos} (ha : PA X (e :: es) t) (hkj : k ≤ j := by decide) (hg : Gl X x := by rfl) (hdb : (x == ("__debug__" : Str)) = false := by decide)
    (hs : starEach (e :: es) X.env = (false, eval e X.env) :: starEach es X.env := by rfl) (hb : (backTo pos (starEach es X.env)).any (·.1) = false := by rfl) :
    PE X (.Call (.Name x p) (e :: es) [] pos) (tHasD X.K dvs fx t) := by
  obtain ⟨f, fd, ok, hm, kp, _, ds, hv, bd⟩ := F.ex
  exact pe_call ok (hr.mono hkj) hg hm kp bd hv pass0 ha hdb hs hb
end
section
variable {K : PySem.W.Frag} {δ : Slots} {κ κ1 κ2 κ3 : Cells} {tas tks : TA} {as bs : List AV} {a : AV} {fx : FX}
theorem evx_hasK {m : Nat} (h : EvAs K tas δ κ as κ1) (hk : EvAs K tks δ κ1 bs κ2) (h1 : as.length = 1) (hm : bs.length = m) (hf : fx (as ++ bs) κ2 a κ3) : EvX K (tHasK K m fx tas tks) δ κ a κ3 := fun G H ps σ R E Q q =>
  h G H ps σ R E _ fun vs G1 H1 p1 s1 R1 r1 => hk G1 H1 p1 σ R1 (s1.env E) _ fun ws G2 H2 p2 s2 R2 r2 =>
    ⟨by rw [vrs_len r1]; exact h1, by rw [vrs_len r2]; exact hm, G2, p2, κ2, as ++ bs, a, κ3, R2, vrs_app (s2.vrs r1) r2, hf, fun v G3 H3 p3 s3 R3 r3 => q v G3 H3 p3 ((s1.trans R.sub s2).trans R.sub s3) R3 r3⟩
theorem evx_hasD {dvs : List V} {das : List AV} (h : EvAs K tas δ κ as κ1) (hd : ∀ G ps, VRs K G ps dvs das) (hf : fx (as ++ das) κ1 a κ2) : EvX K (tHasD K dvs fx tas) δ κ a κ2 := evx_call h hd hf
end

/-! ### what the program's plans are -/
structure Road where
  one : Nat
  other : Nat
  cost : Nat
  members : Nat
  lans : List Nat
structure Plan where
  ranks : List Nat
  roads : List Road
abbrev nI (n : Nat) : PyData := .int (n : Int)
def encRoad (r : Road) : PyData := .tuple [nI r.one, nI r.other, nI r.cost, nI r.members, .tuple (r.lans.map nI)]
def encPlan (p : Plan) : PyData := .tuple [.tuple (p.ranks.map nI), .tuple (p.roads.map encRoad)]
def encPair (x : Nat × Nat) : PyData := .tuple [nI x.1, nI x.2]
def encDown (d : List (Nat × Nat)) : PyData := .tuple (d.map encPair)
structure RoadOk (n : Nat) (r : Road) : Prop where
  lt : r.one < r.other
  in_ : r.other < n
  c1 : 1 ≤ r.cost
  c9 : r.cost ≤ 9
  m1 : 1 ≤ r.members
  m3 : r.members ≤ 3
  l3 : ∀ l ∈ r.lans, l ≤ 3
  up : r.lans.Pairwise (· < ·)
structure PlanOk (p : Plan) : Prop where
  n1 : 1 ≤ p.ranks.length
  n6 : p.ranks.length ≤ 6
  r9 : ∀ r ∈ p.ranks, r ≤ 9
  m8 : p.roads.length ≤ 8
  rd : ∀ r ∈ p.roads, RoadOk p.ranks.length r
def DownOk (p : Plan) (d : List (Nat × Nat)) : Prop := ∀ x ∈ d, ∃ r, p.roads[x.1]? = some r ∧ x.2 < r.members
/-! the program's plain defs, as functions -/
def isNum (x : PyData) (lo hi : Int) : Bool := match x with
  | .int i => decide (lo ≤ i) && decide (i ≤ hi)
  | _ => false
def isTup (x : PyData) (n : Int) : Bool := match x with
  | .tuple ds => decide ((ds.length : Int) = n)
  | _ => false
def isUp (number members : Nat) (down : List (Nat × Nat)) : Bool := (List.range members).any fun m => !down.contains (number, m)
def upOf (roads : List Road) (down : List (Nat × Nat)) : List Nat := (List.range roads.length).filter fun k => match roads[k]? with
  | some r => isUp k r.members down
  | none => false
def otherEnd (r : Road) (b : Nat) : Option Nat := if b = r.one then some r.other else if b = r.other then some r.one else none
def encOpt : Option Nat → PyData
  | none => .none
  | some n => nI n
abbrev Best := (Nat × Nat) × Nat
def encName (x : Nat × Nat) : PyData := .tuple [nI x.1, nI x.2]
def encBest (b : Best) : PyData := .tuple [encName b.1, nI b.2]
def fx_is_number : FX := fun as κ a κ' => ∃ x lo hi, as = [.d x, .d (.int lo), .d (.int hi)] ∧ a = .d (.bool (isNum x lo hi)) ∧ κ' = κ
def fx_is_tuple : FX := fun as κ a κ' => ∃ x n, as = [.d x, .d (.int n)] ∧ a = .d (.bool (isTup x n)) ∧ κ' = κ
def fx_is_lan : FX := fun as κ a κ' => ∃ x, as = [.d x] ∧ a = .d (.bool (isNum x 0 3)) ∧ κ' = κ
def fx_check_plan : FX := fun as κ a κ' => ∃ p, PlanOk p ∧ as = [.d (encPlan p)] ∧ a = .d .none ∧ κ' = κ
def fx__check_ranks : FX := fun as κ a κ' => ∃ p, PlanOk p ∧ as = [.d (.tuple (p.ranks.map nI))] ∧ a = .d .none ∧ κ' = κ
def fx__check_roads : FX := fun as κ a κ' => ∃ p, PlanOk p ∧ as = [.d (.tuple (p.roads.map encRoad)), .d (nI p.ranks.length)] ∧ a = .d .none ∧ κ' = κ
def fx__is_road : FX := fun as κ a κ' => ∃ r n, RoadOk n r ∧ as = [.d (encRoad r), .d (nI n)] ∧ a = .d (.bool true) ∧ κ' = κ
def fx__are_lans : FX := fun as κ a κ' => ∃ ls : List Nat, (∀ l ∈ ls, l ≤ 3) ∧ ls.Pairwise (· < ·) ∧ as = [.d (.tuple (ls.map nI))] ∧ a = .d (.bool true) ∧ κ' = κ
def fx_check_road : FX := fun as κ a κ' => ∃ p i, i < p.roads.length ∧ as = [.d (encPlan p), .d (nI i)] ∧ a = .d .none ∧ κ' = κ
def fx_check_down : FX := fun as κ a κ' => ∃ p d, PlanOk p ∧ DownOk p d ∧ as = [.d (encPlan p), .d (encDown d)] ∧ a = .d .none ∧ κ' = κ
def fx_name_of : FX := fun as κ a κ' => ∃ p b rk, p.ranks[b]? = some rk ∧ as = [.d (encPlan p), .d (nI b)] ∧ a = .d (encName (rk, b)) ∧ κ' = κ
def fx_roads_up : FX := fun as κ a κ' => ∃ p d, PlanOk p ∧ d.length ≤ 1000 ∧ as = [.d (encPlan p), .d (encDown d)] ∧ a = .d (.list ((upOf p.roads d).map nI)) ∧ κ' = κ
def upMem (k m : Nat) (d : List (Nat × Nat)) : List Nat := (List.range m).filter fun j => !d.contains (k, j)
theorem upMem_isUp (k m : Nat) (d : List (Nat × Nat)) : (!((upMem k m d).map nI).isEmpty) = isUp k m d := by
  unfold upMem isUp
  rw [Bool.eq_iff_iff]
  simp [List.isEmpty_iff, List.any_eq_true, List.filter_eq_nil_iff]
def fx_check_member : FX := fun as κ a κ' => ∃ (p : Plan) (x : Nat × Nat) (r : Road), PlanOk p ∧ p.roads[x.1]? = some r ∧ x.2 < r.members ∧ as = [.d (encPlan p), .d (nI x.1), .d (nI x.2)] ∧ a = .d .none ∧ κ' = κ
def fx_members_up : FX := fun as κ a κ' => ∃ (p : Plan) (k : Nat) (r : Road) (d : List (Nat × Nat)), p.roads[k]? = some r ∧ r.members ≤ 3 ∧ as = [.d (encPlan p), .d (nI k), .d (encDown d)] ∧ a = .d (.list ((upMem k r.members d).map nI)) ∧ κ' = κ
def fx_other_end : FX := fun as κ a κ' => ∃ r b, as = [.d (encRoad r), .d (nI b)] ∧ a = .d (encOpt (otherEnd r b)) ∧ κ' = κ
def fx__farther : FX := fun as κ a κ' => ∃ (x : Best) (c : Nat), as = [.d (encBest x), .d (nI c)] ∧ a = .d (encBest (x.1, x.2 + c)) ∧ κ' = κ
end BY
end

section
set_option Elab.async false
set_option linter.all false
set_option maxRecDepth 100000
set_option maxHeartbeats 4000000
namespace BY
open PySem PySem.Spec PyProof.Rows L2
open Evl (Ex ex_l ex_t)
structure Good (K : PySem.W.Frag) (fx : FX) (t : TS) (n np : Nat) : Prop where
  len : ∀ {as κ a κ'}, fx as κ a κ' → as.length = np
  grow : ∀ {as κ a κ'}, fx as κ a κ' → κ.length ≤ κ'.length
  lo : ∀ {as κ a κ'}, fx as κ a κ' → (∀ xs ∈ κ, lows κ.length xs = true) → (∀ b ∈ as, low κ.length b = true) → ∀ xs ∈ κ', lows κ'.length xs = true
  run : ∀ {as κ a κ'}, fx as κ a κ' → StX K t (as.map some ++ List.replicate (n - as.length) none) κ (okP a κ')
/-- a def that reads alone and hands back data -/
theorem Good.pure {K : PySem.W.Frag} {fx : FX} {t : TS} {n np : Nat} (h : ∀ {as κ a κ'}, fx as κ a κ' → as.length = np ∧ κ' = κ) (r : ∀ {as κ a κ'}, fx as κ a κ' → StX K t (as.map some ++ List.replicate (n - as.length) none) κ (okP a κ')) : Good K fx t n np :=
  ⟨fun q => (h q).1, fun q => by rw [(h q).2]; exact Nat.le_refl _, fun q l _ => by rw [(h q).2]; exact l, r⟩
theorem has_of {P : Program} {w : World} {K : PySem.W.Frag} {mg : Str → Option Value} {base : Heap} {x : Str} {k : Nat} {N pars : List Str} {st : Stmt} {fx : FX} {t : TS} (T : Top K mg x st pars) (S : FnScope N pars (defScope st)) (g : Good K fx t N.length pars.length)
    (hd : ∀ (cdv : Value) (A : Around) (outer : List Env) (s : Shared) (H : Hp) (E : XK) (f : Addr) (hr : Room k (A.deeper (envOfC x (defScope st) s.heap.objs.size f cdv))), PSs (cxOf CX0 P w K mg base N x (defScope st) f cdv A outer s H E).nox (defBody st) t) :
    Has P w K mg base x (k + 1) pars fx := by
  obtain ⟨f, fd, F, hm, bd⟩ := T.ex
  exact ⟨f, fd, fn_x F S (fun _ _ _ _ q => g.len q) (fun _ _ _ _ q => g.grow q) (fun cdv A outer s H E hr => ⟨t, hd cdv A outer s H E f hr, fun as κ a κ' q l1 l2 => ⟨g.lo q l1 l2, g.run q⟩⟩), hm, F.kp, bd⟩
/-- what the module leaves of the built-ins -/
structure Bs (mg : Str → Option Value) : Prop where
  isinstance_ : mg "isinstance" = none
  len_ : mg "len" = none
  any_ : mg "any" = none
  all_ : mg "all" = none
  min_ : mg "min" = none
  sorted_ : mg "sorted" = none
  set_ : mg "set" = none
  list_ : mg "list" = none
  tuple_ : mg "tuple" = none
  int_ : mg "int" = none
  bool_ : mg "bool" = none
  str_ : mg "str" = none
  range_ : mg "range" = none
  enumerate_ : mg "enumerate" = none
/-! outcomes -/
theorem ok_rt {d : PyData} {κ : Cells} : okP (.d d) κ (.rt (.d d) κ) := Meets.same (by simp [low])
theorem ok_rtJ {d : PyData} {κ junk : Cells} : okP (.d d) κ (.rt (.d d) (κ ++ junk)) := Meets.eq (by simp [low])
theorem ok_nx {δ : Slots} {κ : Cells} : okP (.d .none) κ (.nx δ κ) := ⟨rfl, [], by simp⟩
theorem ok_frz {ds : List PyData} {κ : Cells} {xs : List AV} (h : xs = ds.map AV.d) : okP (.d (.list ds)) κ (.rt (.c κ.length) (κ ++ [xs])) := Meets.frz rfl (Nat.le_refl _) (by rw [h]; simp)
/-! isinstance, isNum -/
theorem kb_refl (a : String) : kitB a a = some true := by unfold kitB; rw [if_pos (by simp)]
def isaBool : PyData → Bool
  | .bool _ => true
  | _ => false
def isaInt : PyData → Bool
  | .bool _ => true
  | .int _ => true
  | _ => false
def isaTuple : PyData → Bool
  | .tuple _ => true
  | _ => false
def isaList : PyData → Bool
  | .list _ => true
  | _ => false
def isaStr : PyData → Bool
  | .str _ => true
  | _ => false
theorem kb_bool (x : PyData) : kitB (clsOf x) "bool" = some (isaBool x) := by cases x <;> (simp only [clsOf, isaBool]; decide +kernel)
theorem kb_int (x : PyData) : kitB (clsOf x) "int" = some (isaInt x) := by cases x <;> (simp only [clsOf, isaInt]; decide +kernel)
theorem kb_tuple (x : PyData) : kitB (clsOf x) "tuple" = some (isaTuple x) := by cases x <;> (simp only [clsOf, isaTuple]; decide +kernel)
theorem kb_list (x : PyData) : kitB (clsOf x) "list" = some (isaList x) := by cases x <;> (simp only [clsOf, isaList]; decide +kernel)
theorem kb_str (x : PyData) : kitB (clsOf x) "str" = some (isaStr x) := by cases x <;> (simp only [clsOf, isaStr]; decide +kernel)
end BY
end

section
set_option Elab.async false
set_option linter.all false
set_option maxRecDepth 100000
set_option maxHeartbeats 4000000
namespace BY
open PySem PySem.Spec PyProof.Rows L2
open Evl (Ex ex_l ex_t)
section
variable {K : PySem.W.Frag} {w : World} {δ δ' : Slots} {κ κ1 κ2 κ3 κ4 κ5 : Cells} {ta tb tc te tl td tf : TE} {t u tt : TT} {r : R2} {tas : TA}
theorem ru_negI {i : Int} : RU K (rU fun i => .int (-i)) κ (.d (.int i)) (.d (.int (-i))) κ := fun G H ps vx R r1 Q q => by
  cases r1 with
  | d r1 => cases r1; exact ⟨i, rfl, q _ G H ps .refl R (.d (.int _))⟩
theorem evx_tup1 {x : PyData} (h1 : EvX K ta δ κ (.d x) κ1) : EvX K (tTup (tCons ta tNil)) δ κ (.d (.tuple [x])) κ1 := evx_tupD (ds := [x]) (eva_cons h1 eva_nil)
theorem evx_tup2 {x y : PyData} (h1 : EvX K ta δ κ (.d x) κ1) (h2 : EvX K tb δ κ1 (.d y) κ2) : EvX K (tTup (tCons ta (tCons tb tNil))) δ κ (.d (.tuple [x, y])) κ2 := evx_tupD (ds := [x, y]) (eva_cons h1 (eva_cons h2 eva_nil))
theorem evx_tup3 {x y z : PyData} (h1 : EvX K ta δ κ (.d x) κ1) (h2 : EvX K tb δ κ1 (.d y) κ2) (h3 : EvX K tc δ κ2 (.d z) κ3) : EvX K (tTup (tCons ta (tCons tb (tCons tc tNil)))) δ κ (.d (.tuple [x, y, z])) κ3 := evx_tupD (ds := [x, y, z]) (eva_cons h1 (eva_cons h2 (eva_cons h3 eva_nil)))
theorem evx_tup4 {x y z v : PyData} (h1 : EvX K ta δ κ (.d x) κ1) (h2 : EvX K tb δ κ1 (.d y) κ2) (h3 : EvX K tc δ κ2 (.d z) κ3) (h4 : EvX K td δ κ3 (.d v) κ4) : EvX K (tTup (tCons ta (tCons tb (tCons tc (tCons td tNil))))) δ κ (.d (.tuple [x, y, z, v])) κ4 := evx_tupD (ds := [x, y, z, v]) (eva_cons h1 (eva_cons h2 (eva_cons h3 (eva_cons h4 eva_nil))))
theorem rx_eqDI {i j : Int} : RX K (rEqD K) κ (.d (.int i)) (.d (.int j)) (.d (.bool (decide (i = j)))) κ := by
  have h := rx_eqD (K := K) (κ := κ) (x := .d (.int i)) (y := .d (.int j)) .d .d (by rfl) (by rfl)
  have e : PyData.eqv (.int i) (.int j) = decide (i = j) := by simp [PyData.eqv]; rfl
  rw [e] at h
  exact h
theorem rx_neDI {i j : Int} : RX K (rNeD K) κ (.d (.int i)) (.d (.int j)) (.d (.bool (!decide (i = j)))) κ := by
  have h := rx_neD (K := K) (κ := κ) (x := .d (.int i)) (y := .d (.int j)) .d .d (by rfl) (by rfl)
  have e : PyData.eqv (.int i) (.int j) = decide (i = j) := by simp [PyData.eqv]; rfl
  rw [e] at h
  exact h
theorem rx_ixT0 {ds : List PyData} {d : PyData} (h : ds[0]? = some d) : RX K (rIx K) κ (.d (.tuple ds)) (.d (.int 0)) (.d d) κ := rx_ixTDg (i := 0) h
theorem rx_ixT1 {ds : List PyData} {d : PyData} (h : ds[1]? = some d) : RX K (rIx K) κ (.d (.tuple ds)) (.d (.int 1)) (.d d) κ := rx_ixTDg (i := 1) h
theorem rx_ixT2 {ds : List PyData} {d : PyData} (h : ds[2]? = some d) : RX K (rIx K) κ (.d (.tuple ds)) (.d (.int 2)) (.d d) κ := rx_ixTDg (i := 2) h
theorem rx_ixT3 {ds : List PyData} {d : PyData} (h : ds[3]? = some d) : RX K (rIx K) κ (.d (.tuple ds)) (.d (.int 3)) (.d d) κ := rx_ixTDg (i := 3) h
theorem rx_ixT4 {ds : List PyData} {d : PyData} (h : ds[4]? = some d) : RX K (rIx K) κ (.d (.tuple ds)) (.d (.int 4)) (.d d) κ := rx_ixTDg (i := 4) h
end
local macro_rules | `(tactic| walk_at "ev") => `(tactic| first
  | exact evx_var rfl | exact evx_int | exact evx_bl | exact evx_non | exact evx_str | exact evx_v | exact eva_nil
  | (apply eva_cons; (focus (walk_at "ev")); (focus (walk_at "ev")))
  | (apply evx_op; (focus (walk_at "ev")); (focus (walk_at "ev")); (focus (walk_at "rx")))
  | (apply evx_un; (focus (walk_at "ev")); (focus (exact ru_negI)))
  | (apply evx_tup2 <;> (walk_at "ev"))
  | (apply evx_tup3 <;> (walk_at "ev"))
  | (apply evx_slT; (focus (walk_at "ev")); (focus (walk_at "eo")); (focus (walk_at "eo")))
  | (apply evx_cb; (focus (walk_at "ev")); (focus (walk_at "rc")))
  | (apply evx_chain <;> (walk_at "ev"))
  | (apply evx_has; (focus (walk_at "ev")); (focus (walk_at "fx"))))
local macro_rules | `(tactic| walk_at "eo") => `(tactic| first | exact evo_none | exact evo_some (by walk_at "ev"))
local macro_rules | `(tactic| walk_at "fx") => `(tactic| first | exact ⟨_, _, _, rfl, rfl, rfl⟩ | exact ⟨_, _, rfl, rfl, rfl⟩ | exact ⟨_, rfl, rfl, rfl⟩)
local macro_rules | `(tactic| walk_at "rx") => `(tactic| first
  | exact rx_addI | exact rx_eqDI | exact rx_neDI | exact rx_ixT0 rfl | exact rx_ixT1 rfl | exact rx_ixT2 rfl | exact rx_ixT3 rfl | exact rx_ixT4 rfl | exact rx_isN | exact rx_notN | exact rx_int | exact rx_bl)
local macro_rules | `(tactic| walk_at "rc") => `(tactic| first
  | exact rc_isi .d (kb_bool _) | exact rc_isi .d (kb_int _) | exact rc_isi .d (kb_tuple _) | exact rc_isi .d (kb_list _) | exact rc_isi .d (kb_str _) | exact rc_lenT | exact rc_lenL | exact rc_any | exact rc_all)
def t_is_number (K : PySem.W.Frag) (w : World) : TS := (tSeq (tIfS (tOr (tTru K (tCB (rIsi K) (tCons (tVar 0) (tCons (tC (.ty "bool")) tNil)))) (tNot (tTru K (tCB (rIsi K) (tCons (tVar 0) (tCons (tC (.ty "int")) tNil)))))) (tRet (tC (.bl false))) tNext) (tRet (tChain (rI0 fun i j => .bl (decide (i ≤ j))) (rI0 fun i j => .bl (decide (i ≤ j))) (tVar 1) (tVar 0) (tVar 2))))
def t_is_tuple (K : PySem.W.Frag) (w : World) : TS := (tRet (tAndV (tCB (rIsi K) (tCons (tVar 0) (tCons (tC (.ty "tuple")) tNil))) (tOp (rEqD K) (tCB (rLn K) (tCons (tVar 0) tNil)) (tVar 1))))
def t_is_lan (K : PySem.W.Frag) (w : World) : TS := (tRet (tHas K fx_is_number (tCons (tVar 0) (tCons (tC (.int 0)) (tCons (tC (.int 3)) tNil)))))
def t__farther (K : PySem.W.Frag) (w : World) : TS := (tSeq (tAsg (tVar 0) (gTup K 2 (gCons (gName 2) (gCons (gName 3) gNil)))) (tRet (tTup (tCons (tVar 2) (tCons (tOp (rAddG K) (tVar 3) (tVar 1)) tNil)))))
section
variable {K : PySem.W.Frag} {w : World}
theorem good_is_number : Good K fx_is_number (t_is_number K w) 3 3 := .pure (by rintro as κ a κ' ⟨x, lo, hi, rfl, rfl, rfl⟩; exact ⟨rfl, rfl⟩) (by
  rintro as κ a κ' ⟨x, lo, hi, rfl, rfl, rfl⟩
  show StX K (t_is_number K w) [some (.d x), some (.d (.int lo)), some (.d (.int hi))] _ _
  have h1 : EvB K (tTru K (tCB (rIsi K) (tCons (tVar 0) (tCons (tC (.ty "bool")) tNil)))) [some (.d x), some (.d (.int lo)), some (.d (.int hi))] κ' (isaBool x) κ' := evb_truB (by walk_at "ev")
  have h2 : EvB K (tTru K (tCB (rIsi K) (tCons (tVar 0) (tCons (tC (.ty "int")) tNil)))) [some (.d x), some (.d (.int lo)), some (.d (.int hi))] κ' (isaInt x) κ' := evb_truB (by walk_at "ev")
  cases x with
  | int i => exact stx_seq' (stx_ifF (evb_orF h1 (evb_not h2)) (stx_next (stx_ret (by walk_at "ev") ok_rt)))
  | bool b => exact stx_seq' (stx_ifT (evb_orT h1) (stx_ret (by walk_at "ev") ok_rt))
  | _ => exact stx_seq' (stx_ifT (evb_orF h1 (evb_not h2)) (stx_ret (by walk_at "ev") ok_rt)))
theorem good_is_tuple : Good K fx_is_tuple (t_is_tuple K w) 2 2 := .pure (by rintro as κ a κ' ⟨x, n, rfl, rfl, rfl⟩; exact ⟨rfl, rfl⟩) (by
  rintro as κ a κ' ⟨x, n, rfl, rfl, rfl⟩
  show StX K (t_is_tuple K w) [some (.d x), some (.d (.int n))] _ _
  have h1 : EvX K (tCB (rIsi K) (tCons (tVar 0) (tCons (tC (.ty "tuple")) tNil))) [some (.d x), some (.d (.int n))] κ' (.d (.bool (isaTuple x))) κ' := by walk_at "ev"
  cases x with
  | tuple ds => exact stx_ret (evx_andV h1 fun _ => by walk_at "ev") ok_rt
  | _ => exact stx_ret (evx_andV (c := true) h1 fun q => by cases q) ok_rt)
theorem good_is_lan : Good K fx_is_lan (t_is_lan K w) 1 1 := .pure (by rintro as κ a κ' ⟨x, rfl, rfl, rfl⟩; exact ⟨rfl, rfl⟩) (by
  rintro as κ a κ' ⟨x, rfl, rfl, rfl⟩
  show StX K (t_is_lan K w) [some (.d x)] _ _
  exact stx_ret (by walk_at "ev") ok_rt)
theorem good__farther : Good K fx__farther (t__farther K w) 4 2 := .pure (by rintro as κ a κ' ⟨x, n, rfl, rfl, rfl⟩; exact ⟨rfl, rfl⟩) (by
  rintro as κ a κ' ⟨x, c, rfl, rfl, rfl⟩
  show StX K (t__farther K w) [some (.d (encBest x)), some (.d (nI c)), none, none] _ _
  exact stx_seq' (stx_asgG (by walk_at "ev") (gx_tupD (gxs_cons gx_name (gxs_cons gx_name gxs_nil)) rfl) (stx_ret (by walk_at "ev") ok_rt)))
end
end BY
end

section
set_option Elab.async false
set_option linter.all false
set_option maxRecDepth 100000
set_option maxHeartbeats 4000000
namespace BY
open PySem PySem.Spec PyProof.Rows L2
open Evl (Ex ex_l ex_t)
section
variable {K : PySem.W.Frag} {w : World} {δ δ' : Slots} {κ κ1 κ2 κ3 κ4 κ5 : Cells} {ta tb tc te tl td tf : TE} {t u tt : TT} {r : R2} {tas : TA} {P P' : Out → Prop} {D : Ends} {tu tw : TS} {g : TG} {wi : TI} {n : Nat} {it : Nat → AV} {Inv : Cells → Prop}
theorem getD_map {α β : Type} {f : α → β} {xs : List α} {i : Nat} {x : α} {d : β} (h : xs[i]? = some x) : (xs.map f).getD i d = f x := by
  rw [List.getD_eq_getElem?_getD, List.getElem?_map, h]
  rfl
theorem get_of {α : Type} {xs : List α} {i : Nat} (h : i < xs.length) : ∃ x, xs[i]? = some x := ⟨xs[i], List.getElem?_eq_getElem h⟩
theorem get_map {α β : Type} {f : α → β} {xs : List α} {i : Nat} {x : α} (h : xs[i]? = some x) : (xs.map f)[i]? = some (f x) := by
  rw [List.getElem?_map, h]
  rfl
/-- for k, x in enumerate(xs) -/
theorem stx_forE {α : Type} {xs : List α} {enc : α → PyData} (I : Nat → Slots → Cells → Prop) (h : EvAs K tas δ κ [.d (.tuple (xs.map enc))] κ1) (h0 : I 0 δ κ1)
    (hs : ∀ (i : Nat) (x : α) δ' κ', xs[i]? = some x → I i δ' κ' → ∃ δ2 js, GX K g (.d (.tuple [nI i, enc x])) δ' δ2 js ∧ StX K tu δ2 κ' (turnP P (I (i + 1)))) (hd : ∀ δ' κ', I xs.length δ' κ' → P (.nx δ' κ')) : StX K (tFor (iEnumT K tas) g tu) δ κ P :=
  stx_for I (src_enumT h) h0 (fun _ _ _ _ => trivial) (fun i δ' κ' hi hI => by
    rw [List.length_map] at hi
    obtain ⟨x, hx⟩ := get_of hi
    obtain ⟨δ2, js, hg, hst⟩ := hs i x δ' κ' hx hI
    refine ⟨δ2, js, ?_, hst⟩
    rw [getD_map hx]
    exact hg) (fun δ' κ' q => hd δ' κ' (by rw [List.length_map] at q; exact q))
theorem stx_forTu {α : Type} {xs : List α} {enc : α → PyData} (I : Nat → Slots → Cells → Prop) (h : EvX K tl δ κ (.d (.tuple (xs.map enc))) κ1) (h0 : I 0 δ κ1)
    (hs : ∀ (i : Nat) (x : α) δ' κ', xs[i]? = some x → I i δ' κ' → ∃ δ2 js, GX K g (.d (enc x)) δ' δ2 js ∧ StX K tu δ2 κ' (turnP P (I (i + 1)))) (hd : ∀ δ' κ', I xs.length δ' κ' → P (.nx δ' κ')) : StX K (tFor (iSeq K tl) g tu) δ κ P :=
  stx_for I (src_seqT (src_tupD h)) h0 (fun _ _ _ _ => trivial) (fun i δ' κ' hi hI => by
    rw [List.length_map] at hi
    obtain ⟨x, hx⟩ := get_of hi
    obtain ⟨δ2, js, hg, hst⟩ := hs i x δ' κ' hx hI
    refine ⟨δ2, js, ?_, hst⟩
    rw [getD_map hx]
    exact hg) (fun δ' κ' q => hd δ' κ' (by rw [List.length_map] at q; exact q))
theorem stx_forLi {α : Type} {xs : List α} {enc : α → PyData} (I : Nat → Slots → Cells → Prop) (h : EvX K tl δ κ (.d (.list (xs.map enc))) κ1) (h0 : I 0 δ κ1)
    (hs : ∀ (i : Nat) (x : α) δ' κ', xs[i]? = some x → I i δ' κ' → ∃ δ2 js, GX K g (.d (enc x)) δ' δ2 js ∧ StX K tu δ2 κ' (turnP P (I (i + 1)))) (hd : ∀ δ' κ', I xs.length δ' κ' → P (.nx δ' κ')) : StX K (tFor (iSeq K tl) g tu) δ κ P :=
  stx_for I (src_seqL (src_listD h)) h0 (fun _ _ _ _ => trivial) (fun i δ' κ' hi hI => by
    rw [List.length_map] at hi
    obtain ⟨x, hx⟩ := get_of hi
    obtain ⟨δ2, js, hg, hst⟩ := hs i x δ' κ' hx hI
    refine ⟨δ2, js, ?_, hst⟩
    rw [getD_map hx]
    exact hg) (fun δ' κ' q => hd δ' κ' (by rw [List.length_map] at q; exact q))
theorem stx_forRg {ta : TA} {m : Nat} (I : Nat → Slots → Cells → Prop) (h : EvAs K ta δ κ [.d (nI m)] κ1) (hm : m ≤ 100000) (h0 : I 0 δ κ1)
    (hs : ∀ (i : Nat) δ' κ', i < m → I i δ' κ' → ∃ δ2 js, GX K g (.d (nI i)) δ' δ2 js ∧ StX K tu δ2 κ' (turnP P (I (i + 1)))) (hd : ∀ δ' κ', I m δ' κ' → P (.nx δ' κ')) : StX K (tFor (iRng1 ta) g tu) δ κ P :=
  stx_for I (src_range1 h (by omega) (by omega)) h0 (fun _ _ _ _ => trivial) (fun i δ' κ' hi hI => hs i δ' κ' (by simpa using hi) hI) (fun δ' κ' q => hd δ' κ' (by simpa using q))
/-! comprehensions that read alone: the items' values -/
theorem lc_pure {vs : List Nat} {α : Type} {m : Nat} (S : Src K wi δ κ m it κ1 (fun _ => True)) (hm : m ≤ 100000) (f : Nat → Bool) (v : Nat → α) (enc : α → PyData)
    (hs : ∀ i, i < m → ∃ δ2 js, GX K g (it i) (wipeE δ vs) δ2 js ∧ (∀ j ∈ js, j ∈ vs) ∧ EvB K tt δ2 κ1 (f i) κ1 ∧ (f i = true → EvX K te δ2 κ1 (.d (enc (v i))) κ1)) :
    EvX K (tLc wi g tt te vs) δ κ (.d (.list ((((List.range m).filter f).map v).map enc))) κ1 := by
  refine evx_lcD (fun i acc κ' => κ' = κ1 ∧ acc = ((((List.range i).filter f).map v).map enc).map AV.d) S hm ⟨rfl, rfl⟩ (fun _ _ _ _ => trivial) (fun i acc κ' hi ⟨e1, e2⟩ => ?_) (fun acc κ' ⟨e1, e2⟩ => ⟨e2, e1⟩)
  subst e1 e2
  obtain ⟨δ2, js, hg, hj, hb, he⟩ := hs i hi
  refine ⟨δ2, js, f i, κ', hg, hj, hb, fun hf => ⟨_, κ', he hf, rfl, ?_⟩, fun hf => ⟨rfl, ?_⟩⟩
  · rw [List.range_succ, List.filter_append, List.map_append, List.map_append, List.map_append, List.filter_cons, if_pos hf]
    rfl
  · rw [List.range_succ, List.filter_append, List.filter_cons, if_neg (by rw [hf]; decide), List.filter_nil, List.append_nil]
theorem lc_pureA {vs : List Nat} {α : Type} {m : Nat} (S : Src K wi δ κ m it κ1 (fun _ => True)) (hm : m ≤ 100000) (v : Nat → α) (enc : α → PyData)
    (hs : ∀ i, i < m → ∃ δ2 js, GX K g (it i) (wipeE δ vs) δ2 js ∧ (∀ j ∈ js, j ∈ vs) ∧ EvX K te δ2 κ1 (.d (enc (v i))) κ1) :
    EvX K (tLc wi g tYes te vs) δ κ (.d (.list (((List.range m).map v).map enc))) κ1 := by
  have q := lc_pure (tt := tYes) (te := te) (g := g) (vs := vs) S hm (fun _ => true) v enc (fun i hi => by
    obtain ⟨δ2, js, h1, h2, h3⟩ := hs i hi
    exact ⟨δ2, js, h1, h2, evb_yes, fun _ => h3⟩)
  have e : (List.range m).filter (fun _ => true) = List.range m := by simp
  rw [e] at q
  exact q
/-- the same, the list a cell -/
theorem lc_pureC {vs : List Nat} {α : Type} {m n : Nat} (S : Src K wi δ κ m it κ1 (fun _ => True)) (hm : m ≤ 100000) (hn : n = κ1.length) (v : Nat → α) (enc : α → PyData)
    (hs : ∀ i, i < m → ∃ δ2 js, GX K g (it i) (wipeE δ vs) δ2 js ∧ (∀ j ∈ js, j ∈ vs) ∧ EvX K te δ2 κ1 (.d (enc (v i))) κ1) :
    EvX K (tLc wi g tYes te vs) δ κ (.c n) (κ1 ++ [(((List.range m).map v).map enc).map AV.d]) := by
  refine evx_lcC (fun i acc κ' => κ' = κ1 ∧ acc = (((List.range i).map v).map enc).map AV.d) S hm ⟨rfl, rfl⟩ (fun _ _ _ _ => trivial) (fun i acc κ' hi ⟨e1, e2⟩ => ?_) (fun acc κ' ⟨e1, e2⟩ => by subst e1 e2; exact ⟨rfl, hn⟩)
  subst e1 e2
  obtain ⟨δ2, js, hg, hj, he⟩ := hs i hi
  refine ⟨δ2, js, true, κ', hg, hj, evb_yes, fun _ => ⟨_, κ', he, rfl, ?_⟩, fun q => by cases q⟩
  rw [List.range_succ, List.map_append, List.map_append, List.map_append]
  rfl
end
local macro_rules | `(tactic| walk_at "ev") => `(tactic| first
  | exact evx_var rfl | exact evx_int | exact evx_bl | exact evx_non | exact evx_str | exact evx_v | exact eva_nil
  | (apply eva_cons; (focus (walk_at "ev")); (focus (walk_at "ev")))
  | (apply evx_op; (focus (walk_at "ev")); (focus (walk_at "ev")); (focus (walk_at "rx")))
  | (apply evx_un; (focus (walk_at "ev")); (focus (exact ru_negI)))
  | (apply evx_tup2 <;> (walk_at "ev"))
  | (apply evx_tup3 <;> (walk_at "ev"))
  | (apply evx_slT; (focus (walk_at "ev")); (focus (walk_at "eo")); (focus (walk_at "eo")))
  | (apply evx_cb; (focus (walk_at "ev")); (focus (walk_at "rc")))
  | (apply evx_chain <;> (walk_at "ev"))
  | (apply evx_has; (focus (walk_at "ev")); (focus (walk_at "fx"))))
local macro_rules | `(tactic| walk_at "eo") => `(tactic| first | exact evo_none | exact evo_some (by walk_at "ev"))
local macro_rules | `(tactic| walk_at "fx") => `(tactic| first | exact ⟨_, _, _, rfl, rfl, rfl⟩ | exact ⟨_, _, rfl, rfl, rfl⟩ | exact ⟨_, rfl, rfl, rfl⟩)
local macro_rules | `(tactic| walk_at "rx") => `(tactic| first
  | exact rx_addI | exact rx_eqDI | exact rx_neDI | exact rx_ixT0 rfl | exact rx_ixT1 rfl | exact rx_ixT2 rfl | exact rx_ixT3 rfl | exact rx_ixT4 rfl | exact rx_isN | exact rx_notN | exact rx_int | exact rx_bl)
local macro_rules | `(tactic| walk_at "rc") => `(tactic| first
  | exact rc_isi .d (kb_bool _) | exact rc_isi .d (kb_int _) | exact rc_isi .d (kb_tuple _) | exact rc_isi .d (kb_list _) | exact rc_isi .d (kb_str _) | exact rc_lenT | exact rc_lenL | exact rc_any | exact rc_all)
def t_name_of (K : PySem.W.Frag) (w : World) : TS := (tRet (tTup (tCons (tOp (rIx K) (tOp (rIx K) (tVar 0) (tC (.int 0))) (tVar 1)) (tCons (tVar 1) tNil))))
def t_other_end (K : PySem.W.Frag) (w : World) : TS := (tSeq (tAsg (tSl (rSlA K) (tVar 0) tNoPart (tPart (tC (.int 2)))) (gTup K 2 (gCons (gName 2) (gCons (gName 3) gNil)))) (tSeq (tIfS (tTest (tOp (rEqD K) (tVar 1) (tVar 2))) (tRet (tVar 3)) tNext) (tSeq (tIfS (tTest (tOp (rEqD K) (tVar 1) (tVar 3))) (tRet (tVar 2)) tNext) (tRet (tC .non)))))
def t__check_ranks (K : PySem.W.Frag) (w : World) : TS := (tSeq (tIfS (tOr (tNot (tTru K (tCB (rIsi K) (tCons (tVar 0) (tCons (tC (.ty "tuple")) tNil))))) (tNot (tTru K (tVar 0)))) tNever tNext) (tFor (iEnumT K (tCons (tVar 0) tNil)) (gTup K 2 (gCons (gName 1) (gCons (gName 2) gNil))) (tIfS (tOr (tTest (tOp (rEqD K) (tVar 1) (tC (.int 6)))) (tNot (tTru K (tHas K fx_is_number (tCons (tVar 2) (tCons (tC (.int 0)) (tCons (tC (.int 9)) tNil))))))) tNever tNext)))
def t_check_road (K : PySem.W.Frag) (w : World) : TS := (tIfS (tNot (tTru K (tHas K fx_is_number (tCons (tVar 1) (tCons (tC (.int 0)) (tCons (tOp (rI0 fun i j => .int (i - j)) (tCB (rLn K) (tCons (tOp (rIx K) (tVar 0) (tC (.int 1))) tNil)) (tC (.int 1))) tNil)))))) tNever tNext)
def t_check_member (K : PySem.W.Frag) (w : World) : TS := (tSeq (tDrop (tHas K fx_check_road (tCons (tVar 0) (tCons (tVar 1) tNil)))) (tIfS (tNot (tTru K (tHas K fx_is_number (tCons (tVar 2) (tCons (tC (.int 0)) (tCons (tOp (rI0 fun i j => .int (i - j)) (tOp (rIx K) (tOp (rIx K) (tOp (rIx K) (tVar 0) (tC (.int 1))) (tVar 1)) (tC (.int 3))) (tC (.int 1))) tNil)))))) tNever tNext))
def t_check_down (K : PySem.W.Frag) (w : World) : TS := (tSeq (tIfS (tNot (tTru K (tCB (rIsi K) (tCons (tVar 1) (tCons (tC (.ty "tuple")) tNil))))) tNever tNext) (tFor (iSeq K (tVar 1)) (gName 2) (tSeq (tIfS (tNot (tTru K (tHas K fx_is_tuple (tCons (tVar 2) (tCons (tC (.int 2)) tNil))))) tNever tNext) (tSeq (tAsg (tVar 2) (gTup K 2 (gCons (gName 3) (gCons (gName 4) gNil)))) (tDrop (tHas K fx_check_member (tCons (tVar 0) (tCons (tVar 3) (tCons (tVar 4) tNil)))))))))
def t_members_up (K : PySem.W.Frag) (w : World) : TS := (tRet (tLc (iRng1 (tCons (tOp (rIx K) (tOp (rIx K) (tOp (rIx K) (tVar 0) (tC (.int 1))) (tVar 1)) (tC (.int 3))) tNil)) (gName 3) (tTest (tOp (rInTD K true) (tTup (tCons (tVar 1) (tCons (tVar 3) tNil))) (tVar 2))) (tVar 3) [3]))
def t_roads_up (K : PySem.W.Frag) (w : World) : TS := (tRet (tLc (iRng1 (tCons (tCB (rLn K) (tCons (tOp (rIx K) (tVar 0) (tC (.int 1))) tNil)) tNil)) (gName 2) (tTru K (tHas K fx_members_up (tCons (tVar 0) (tCons (tVar 2) (tCons (tVar 1) tNil))))) (tVar 2) [2]))
section
variable {K : PySem.W.Frag} {w : World}
theorem isNum_of {n lo hi : Nat} (h1 : lo ≤ n) (h2 : n ≤ hi) : isNum (nI n) (lo : Int) (hi : Int) = true := by
  have a : ((lo : Int) ≤ (n : Int)) := by omega
  have b : ((n : Int) ≤ (hi : Int)) := by omega
  simp [isNum, nI, a, b]
theorem isNum0 {n hi : Nat} {k : Int} (hk : k = (hi : Int)) (h2 : n ≤ hi) : isNum (nI n) 0 k = true := by rw [hk]; exact isNum_of (lo := 0) (by omega) h2
theorem isNum1 {n hi : Nat} {k : Int} (hk : k = (hi : Int)) (h1 : 1 ≤ n) (h2 : n ≤ hi) : isNum (nI n) 1 k = true := by rw [hk]; exact isNum_of (lo := 1) h1 h2
theorem good_name_of : Good K fx_name_of (t_name_of K w) 2 2 := .pure (by rintro as κ a κ' ⟨p, b, rk, _, rfl, rfl, rfl⟩; exact ⟨rfl, rfl⟩) (by
  rintro as κ a κ' ⟨p, b, rk, h, rfl, rfl, rfl⟩
  show StX K (t_name_of K w) [some (.d (encPlan p)), some (.d (nI b))] _ _
  refine stx_ret (evx_tup2 (evx_op (evx_op (by walk_at "ev") (by walk_at "ev") (rx_ixT0 rfl)) (by walk_at "ev") (rx_ixTDg (get_map h))) (by walk_at "ev")) ok_rt)
theorem good_other_end : Good K fx_other_end (t_other_end K w) 4 2 := .pure (by rintro as κ a κ' ⟨r, b, rfl, rfl, rfl⟩; exact ⟨rfl, rfl⟩) (by
  rintro as κ a κ' ⟨r, b, rfl, rfl, rfl⟩
  show StX K (t_other_end K w) [some (.d (encRoad r)), some (.d (nI b)), none, none] _ _
  have h0 : EvX K (tSl (rSlA K) (tVar 0) tNoPart (tPart (tC (.int 2)))) [some (.d (encRoad r)), some (.d (nI b)), none, none] κ' (.d (.tuple [nI r.one, nI r.other])) κ' := evx_eq (by walk_at "ev") (by rfl)
  refine stx_seq' (stx_asgG h0 (gx_tupD (gxs_cons gx_name (gxs_cons gx_name gxs_nil)) rfl) ?_)
  show StX K _ [some (.d (encRoad r)), some (.d (nI b)), some (.d (nI r.one)), some (.d (nI r.other))] _ _
  have e1 : (((b : Nat) : Int) = ((r.one : Nat) : Int)) ↔ b = r.one := by omega
  have e2 : (((b : Nat) : Int) = ((r.other : Nat) : Int)) ↔ b = r.other := by omega
  refine stx_seq' (stx_if (evb_test (by walk_at "ev")) (fun h => stx_ret (by walk_at "ev") ?_) (fun h => stx_next ?_))
  · rw [otherEnd, if_pos (e1.mp (of_decide_eq_true h))]; exact ok_rt
  · refine stx_seq' (stx_if (evb_test (by walk_at "ev")) (fun h' => stx_ret (by walk_at "ev") ?_) (fun h' => stx_next (stx_ret (by walk_at "ev") ?_)))
    · rw [otherEnd, if_neg (fun z => (of_decide_eq_false h) (e1.mpr z)), if_pos (e2.mp (of_decide_eq_true h'))]; exact ok_rt
    · rw [otherEnd, if_neg (fun z => (of_decide_eq_false h) (e1.mpr z)), if_neg (fun z => (of_decide_eq_false h') (e2.mpr z))]; exact ok_rt)
theorem good__check_ranks : Good K fx__check_ranks (t__check_ranks K w) 3 1 := .pure (by rintro as κ a κ' ⟨p, _, rfl, rfl, rfl⟩; exact ⟨rfl, rfl⟩) (by
  rintro as κ a κ' ⟨p, ok, rfl, rfl, rfl⟩
  show StX K (t__check_ranks K w) [some (.d (.tuple (p.ranks.map nI))), none, none] _ _
  have h1 : EvB K (tTru K (tCB (rIsi K) (tCons (tVar 0) (tCons (tC (.ty "tuple")) tNil)))) [some (.d (.tuple (p.ranks.map nI))), none, none] κ' true κ' := evb_truB (by walk_at "ev")
  have h2 : EvB K (tTru K (tVar 0)) [some (.d (.tuple (p.ranks.map nI))), none, none] κ' (!(p.ranks.map nI).isEmpty) κ' := evb_truT (by walk_at "ev")
  have e : (!(p.ranks.map nI).isEmpty) = true := by
    have := ok.n1
    cases h : p.ranks with
    | nil => rw [h] at this; simp at this
    | cons a l => rfl
  rw [e] at h2
  refine stx_seq' (stx_ifF (evb_orF (evb_not h1) (evb_not h2)) (stx_next ?_))
  refine stx_forE (xs := p.ranks) (enc := nI) (fun i δ κ => κ = κ' ∧ ∃ u v, δ = [some (.d (.tuple (p.ranks.map nI))), u, v]) (by walk_at "ev") ⟨rfl, none, none, rfl⟩ ?_ (fun δ κ ⟨e, _⟩ => by rw [e]; exact ok_nx)
  rintro i x δ κ hx ⟨rfl, u, v, rfl⟩
  refine ⟨_, _, gx_tupD (gxs_cons gx_name (gxs_cons gx_name gxs_nil)) rfl, ?_⟩
  show StX K _ [some (.d (.tuple (p.ranks.map nI))), some (.d (nI i)), some (.d (nI x))] _ _
  have hi : i < p.ranks.length := (List.getElem?_eq_some_iff.mp hx).1
  have h6 := ok.n6
  have h9 := ok.r9 x (List.mem_of_getElem? hx)
  have q1 : EvB K (tTest (tOp (rEqD K) (tVar 1) (tC (.int 6)))) [some (.d (.tuple (p.ranks.map nI))), some (.d (nI i)), some (.d (nI x))] κ false κ := evb_eq (evb_test (by walk_at "ev")) (decide_eq_false (by omega))
  have q2 : EvB K (tTru K (tHas K fx_is_number (tCons (tVar 2) (tCons (tC (.int 0)) (tCons (tC (.int 9)) tNil))))) [some (.d (.tuple (p.ranks.map nI))), some (.d (nI i)), some (.d (nI x))] κ true κ := evb_eq (evb_truB (by walk_at "ev")) (isNum0 (hi := 9) rfl h9)
  exact stx_ifF (evb_orF q1 (evb_not q2)) (stx_next ⟨rfl, _, _, rfl⟩))
/-- membership of pairs -/
theorem pair_eqv (a b : Nat × Nat) : PyData.eqv (encPair a) (encPair b) = (a == b) := by
  obtain ⟨a1, a2⟩ := a
  obtain ⟨b1, b2⟩ := b
  have e1 : ((a1 : Int) == (b1 : Int)) = (a1 == b1) := by
    by_cases h : a1 = b1
    · subst h; simp
    · rw [beq_eq_false_iff_ne.mpr h, beq_eq_false_iff_ne.mpr (by omega)]
  have e2 : ((a2 : Int) == (b2 : Int)) = (a2 == b2) := by
    by_cases h : a2 = b2
    · subst h; simp
    · rw [beq_eq_false_iff_ne.mpr h, beq_eq_false_iff_ne.mpr (by omega)]
  have e : PyData.eqv (encPair (a1, a2)) (encPair (b1, b2)) = (((a1 : Int) == (b1 : Int)) && (((a2 : Int) == (b2 : Int)) && true)) := by simp only [encPair, nI, PyData.eqv, PyData.eqvAll]
  rw [e, e1, e2, Bool.and_true]
  rfl
theorem pair_shaped (x : Nat × Nat) : SeqAt.shaped (encPair x) = true := rfl
theorem pairs_lay : ∀ d : List (Nat × Nat), PyData.canLayAll0 (d.map encPair) = true
  | [] => rfl
  | x :: d => by simp only [List.map_cons, PyData.canLayAll0, pairs_lay d]; rfl
theorem pairs_depth : ∀ d : List (Nat × Nat), PyData.depthAll (d.map encPair) ≤ 1
  | [] => by simp [PyData.depthAll]
  | x :: d => by
    have h := pairs_depth d
    have h2 : (encPair x).depth = 1 := rfl
    simp only [List.map_cons, PyData.depthAll]
    omega
theorem down_shaped (d : List (Nat × Nat)) : SeqAt.shaped (encDown d) = true := by
  have h1 := pairs_lay d
  have h2 := pairs_depth d
  have h3 : (PyData.tuple (d.map encPair)).depth ≤ 64 := by simp only [PyData.depth]; omega
  show (PyData.canLay0 (.tuple (d.map encPair)) && decide ((PyData.tuple (d.map encPair)).depth ≤ 64)) = true
  rw [Bool.and_eq_true]
  exact ⟨by simp only [PyData.canLay0]; exact h1, decide_eq_true h3⟩
theorem any_pairs (d : List (Nat × Nat)) (x : Nat × Nat) : ((d.map encPair).any fun z => PyData.eqv z (encPair x)) = d.contains x := by
  rw [List.any_map, List.contains_eq_any_beq]
  congr 1
  funext z
  show PyData.eqv (encPair z) (encPair x) = (x == z)
  rw [pair_eqv]
  exact Bool.beq_comm ..
theorem good_members_up : Good K fx_members_up (t_members_up K w) 4 3 := .pure (by rintro as κ a κ' ⟨p, k, r, d, _, _, rfl, rfl, rfl⟩; exact ⟨rfl, rfl⟩) (by
  rintro as κ a κ' ⟨p, k, r, d, hr, hm, rfl, rfl, rfl⟩
  show StX K (t_members_up K w) [some (.d (encPlan p)), some (.d (nI k)), some (.d (encDown d)), none] _ _
  refine stx_ret (lc_pure (m := r.members) (src_range1 (n := (r.members : Int)) (eva_cons (evx_op (x := .d (encRoad r)) (evx_op (evx_op (x := .d (encPlan p)) (by walk_at "ev") (by walk_at "ev") (rx_ixT1 rfl)) (by walk_at "ev") (rx_ixTDg (get_map hr))) (by walk_at "ev") (rx_ixT3 rfl)) eva_nil)) (by omega) (fun i => !d.contains (k, i)) (fun i => i) nI (fun i hi => ⟨_, _, gx_name, by simp, ?_, fun _ => by walk_at "ev"⟩)) ?_
  · show EvB K _ [some (.d (encPlan p)), some (.d (nI k)), some (.d (encDown d)), some (.d (nI i))] κ' _ κ'
    refine evb_eq (evb_test (evx_op (x := .d (encPair (k, i))) (by walk_at "ev") (by walk_at "ev") (rx_inT .d (pair_shaped _) (down_shaped d)))) ?_
    rw [if_pos rfl]
    rw [any_pairs]
  · have e : ((List.range r.members).filter (fun i => !d.contains (k, i))).map (fun i => i) = upMem k r.members d := by rw [List.map_id']; rfl
    rw [e]
    exact ok_rt)
theorem good_check_road : Good K fx_check_road (t_check_road K w) 2 2 := .pure (by rintro as κ a κ' ⟨p, i, _, rfl, rfl, rfl⟩; exact ⟨rfl, rfl⟩) (by
  rintro as κ a κ' ⟨p, i, hi, rfl, rfl, rfl⟩
  show StX K (t_check_road K w) [some (.d (encPlan p)), some (.d (nI i))] _ _
  have q2 : EvB K (tTru K (tHas K fx_is_number (tCons (tVar 1) (tCons (tC (.int 0)) (tCons (tOp (rI0 fun i j => .int (i - j)) (tCB (rLn K) (tCons (tOp (rIx K) (tVar 0) (tC (.int 1))) tNil)) (tC (.int 1))) tNil))))) [some (.d (encPlan p)), some (.d (nI i))] κ' true κ' :=
    evb_eq (evb_truB (by walk_at "ev")) (by
      have e : (((p.roads.map encRoad).length : Int) - 1) = ((p.roads.length - 1 : Nat) : Int) := by rw [List.length_map]; omega
      exact isNum0 e (by omega))
  exact stx_ifF (evb_not q2) (stx_next ok_nx))
theorem good_check_member : Good K fx_check_member (t_check_member K w) 3 3 := .pure (by rintro as κ a κ' ⟨p, x, r, _, _, _, rfl, rfl, rfl⟩; exact ⟨rfl, rfl⟩) (by
  rintro as κ a κ' ⟨p, x, r, ok, hr, hm, rfl, rfl, rfl⟩
  show StX K (t_check_member K w) [some (.d (encPlan p)), some (.d (nI x.1)), some (.d (nI x.2))] _ _
  have hl : x.1 < p.roads.length := (List.getElem?_eq_some_iff.mp hr).1
  have hrd := ok.rd r (List.mem_of_getElem? hr)
  refine stx_seq' (stx_drop (evx_has (by walk_at "ev") ⟨p, x.1, hl, rfl, rfl, rfl⟩) ?_)
  have qr : EvX K (tOp (rIx K) (tOp (rIx K) (tOp (rIx K) (tVar 0) (tC (.int 1))) (tVar 1)) (tC (.int 3))) [some (.d (encPlan p)), some (.d (nI x.1)), some (.d (nI x.2))] κ' (.d (nI r.members)) κ' :=
    evx_op (evx_op (evx_op (x := .d (encPlan p)) (by walk_at "ev") (by walk_at "ev") (rx_ixT1 rfl)) (by walk_at "ev") (rx_ixTDg (get_map hr))) (by walk_at "ev") (rx_ixT3 rfl)
  have q2 : EvB K (tTru K (tHas K fx_is_number (tCons (tVar 2) (tCons (tC (.int 0)) (tCons (tOp (rI0 fun i j => .int (i - j)) (tOp (rIx K) (tOp (rIx K) (tOp (rIx K) (tVar 0) (tC (.int 1))) (tVar 1)) (tC (.int 3))) (tC (.int 1))) tNil))))) [some (.d (encPlan p)), some (.d (nI x.1)), some (.d (nI x.2))] κ' true κ' :=
    evb_eq (evb_truB (evx_has (eva_cons (by walk_at "ev") (eva_cons (by walk_at "ev") (eva_cons (evx_op qr (by walk_at "ev") rx_int) eva_nil))) ⟨_, _, _, rfl, rfl, rfl⟩)) (by
      have e : (((r.members : Nat) : Int) - 1) = ((r.members - 1 : Nat) : Int) := by have := hrd.m1; omega
      exact isNum0 e (by omega))
  exact stx_ifF (evb_not q2) (stx_next ok_nx))
theorem good_check_down : Good K fx_check_down (t_check_down K w) 5 2 := .pure (by rintro as κ a κ' ⟨p, d, _, _, rfl, rfl, rfl⟩; exact ⟨rfl, rfl⟩) (by
  rintro as κ a κ' ⟨p, d, ok, hd, rfl, rfl, rfl⟩
  show StX K (t_check_down K w) [some (.d (encPlan p)), some (.d (encDown d)), none, none, none] _ _
  have h1 : EvB K (tTru K (tCB (rIsi K) (tCons (tVar 1) (tCons (tC (.ty "tuple")) tNil)))) [some (.d (encPlan p)), some (.d (encDown d)), none, none, none] κ' true κ' := evb_truB (by walk_at "ev")
  refine stx_seq' (stx_ifF (evb_not h1) (stx_next ?_))
  refine stx_forTu (xs := d) (enc := encPair) (fun i δ κ => κ = κ' ∧ ∃ u v x, δ = [some (.d (encPlan p)), some (.d (encDown d)), u, v, x]) (by walk_at "ev") ⟨rfl, none, none, none, rfl⟩ ?_ (fun δ κ ⟨e, _⟩ => by rw [e]; exact ok_nx)
  rintro i x δ κ hx ⟨rfl, u, v, x1, rfl⟩
  obtain ⟨r, hr, hm⟩ := hd x (List.mem_of_getElem? hx)
  refine ⟨_, _, gx_name, ?_⟩
  show StX K _ [some (.d (encPlan p)), some (.d (encDown d)), some (.d (encPair x)), v, x1] _ _
  have q1 : EvB K (tTru K (tHas K fx_is_tuple (tCons (tVar 2) (tCons (tC (.int 2)) tNil)))) [some (.d (encPlan p)), some (.d (encDown d)), some (.d (encPair x)), v, x1] κ true κ := evb_eq (evb_truB (by walk_at "ev")) (by rfl)
  refine stx_seq' (stx_ifF (evb_not q1) (stx_next (stx_seq' (stx_asgG (a := .d (.tuple [nI x.1, nI x.2])) (by walk_at "ev") (gx_tupD (gxs_cons gx_name (gxs_cons gx_name gxs_nil)) rfl) ?_))))
  show StX K _ [some (.d (encPlan p)), some (.d (encDown d)), some (.d (encPair x)), some (.d (nI x.1)), some (.d (nI x.2))] _ _
  exact stx_drop (evx_has (by walk_at "ev") ⟨p, x, r, ok, hr, hm, rfl, rfl, rfl⟩) ⟨rfl, _, _, _, rfl⟩)
theorem good_roads_up : Good K fx_roads_up (t_roads_up K w) 3 2 := .pure (by rintro as κ a κ' ⟨p, d, _, _, rfl, rfl, rfl⟩; exact ⟨rfl, rfl⟩) (by
  rintro as κ a κ' ⟨p, d, ok, hd, rfl, rfl, rfl⟩
  show StX K (t_roads_up K w) [some (.d (encPlan p)), some (.d (encDown d)), none] _ _
  have hz := ok.m8
  refine stx_ret (lc_pure (m := p.roads.length) (src_range1 (n := ((p.roads.length : Nat) : Int)) (by rw [← List.length_map (f := encRoad)]; exact eva_cons (evx_cb (eva_cons (evx_op (x := .d (encPlan p)) (by walk_at "ev") (by walk_at "ev") (rx_ixT1 rfl)) eva_nil) rc_lenT) eva_nil)) (by omega) (fun i => match p.roads[i]? with | some r => isUp i r.members d | none => false) (fun i => i) nI (fun i hi => ?_)) ?_
  · obtain ⟨r, hr⟩ := get_of hi
    have hrd := ok.rd r (List.mem_of_getElem? hr)
    refine ⟨_, _, gx_name, by simp, ?_, fun _ => by walk_at "ev"⟩
    show EvB K _ [some (.d (encPlan p)), some (.d (encDown d)), some (.d (nI i))] _ _ _
    refine evb_eq (evb_truL (evx_has (by walk_at "ev") ⟨p, i, r, d, hr, hrd.m3, rfl, rfl, rfl⟩)) ?_
    rw [upMem_isUp, hr]
  · have e : ((List.range p.roads.length).filter (fun i => match p.roads[i]? with | some r => isUp i r.members d | none => false)).map (fun i => i) = upOf p.roads d := by rw [List.map_id']; rfl
    rw [e]
    exact ok_rt)
end
end BY
end

section
set_option Elab.async false
set_option linter.all false
set_option maxRecDepth 100000
set_option maxHeartbeats 4000000
namespace BY
open PySem PySem.Spec PyProof.Rows L2
open Evl (Ex ex_l ex_t)
local macro_rules | `(tactic| walk_at "ev") => `(tactic| first
  | exact evx_var rfl | exact evx_int | exact evx_bl | exact evx_non | exact evx_str | exact evx_v | exact eva_nil
  | (apply eva_cons; (focus (walk_at "ev")); (focus (walk_at "ev")))
  | (apply evx_op; (focus (walk_at "ev")); (focus (walk_at "ev")); (focus (walk_at "rx")))
  | (apply evx_un; (focus (walk_at "ev")); (focus (exact ru_negI)))
  | (apply evx_tup2 <;> (walk_at "ev"))
  | (apply evx_tup3 <;> (walk_at "ev"))
  | (apply evx_slT; (focus (walk_at "ev")); (focus (walk_at "eo")); (focus (walk_at "eo")))
  | (apply evx_cb; (focus (walk_at "ev")); (focus (walk_at "rc")))
  | (apply evx_chain <;> (walk_at "ev"))
  | (apply evx_has; (focus (walk_at "ev")); (focus (walk_at "fx"))))
local macro_rules | `(tactic| walk_at "eo") => `(tactic| first | exact evo_none | exact evo_some (by walk_at "ev"))
local macro_rules | `(tactic| walk_at "fx") => `(tactic| first | exact ⟨_, _, _, rfl, rfl, rfl⟩ | exact ⟨_, _, rfl, rfl, rfl⟩ | exact ⟨_, rfl, rfl, rfl⟩)
local macro_rules | `(tactic| walk_at "rx") => `(tactic| first
  | exact rx_addI | exact rx_eqDI | exact rx_neDI | exact rx_ixT0 rfl | exact rx_ixT1 rfl | exact rx_ixT2 rfl | exact rx_ixT3 rfl | exact rx_ixT4 rfl | exact rx_isN | exact rx_notN | exact rx_int | exact rx_bl)
local macro_rules | `(tactic| walk_at "rc") => `(tactic| first
  | exact rc_isi .d (kb_bool _) | exact rc_isi .d (kb_int _) | exact rc_isi .d (kb_tuple _) | exact rc_isi .d (kb_list _) | exact rc_isi .d (kb_str _) | exact rc_lenT | exact rc_lenL | exact rc_any | exact rc_all)
def t__are_lans (K : PySem.W.Frag) (w : World) : TS := (tSeq (tIfS (tOr (tNot (tTru K (tCB (rIsi K) (tCons (tVar 0) (tCons (tC (.ty "tuple")) tNil))))) (tNot (tTru K (tCB (rAll K) (tCons (tLc (iSeq K (tVar 0)) (gName 1) tYes (tHas K fx_is_lan (tCons (tVar 1) tNil)) [1]) tNil))))) (tRet (tC (.bl false))) tNext) (tRet (tOp (rEqD K) (tCB (rLst K) (tCons (tVar 0) tNil)) (tCB (rSortedSet w) (tCons (tCB (rSetTI K w) (tCons (tVar 0) tNil)) tNil)))))
def t__is_road (K : PySem.W.Frag) (w : World) : TS := (tSeq (tIfS (tNot (tTru K (tHas K fx_is_tuple (tCons (tVar 0) (tCons (tC (.int 5)) tNil))))) (tRet (tC (.bl false))) tNext) (tSeq (tAsg (tVar 0) (gTup K 5 (gCons (gName 2) (gCons (gName 3) (gCons (gName 4) (gCons (gName 5) (gCons (gName 6) gNil))))))) (tSeq (tIfS (tOr (tNot (tTru K (tHas K fx_is_number (tCons (tVar 3) (tCons (tC (.int 1)) (tCons (tOp (rI0 fun i j => .int (i - j)) (tVar 1) (tC (.int 1))) tNil)))))) (tNot (tTru K (tHas K fx_is_number (tCons (tVar 2) (tCons (tC (.int 0)) (tCons (tOp (rI0 fun i j => .int (i - j)) (tVar 3) (tC (.int 1))) tNil))))))) (tRet (tC (.bl false))) tNext) (tRet (tAndV (tHas K fx_is_number (tCons (tVar 4) (tCons (tC (.int 1)) (tCons (tC (.int 9)) tNil)))) (tAndV (tHas K fx_is_number (tCons (tVar 5) (tCons (tC (.int 1)) (tCons (tC (.int 3)) tNil)))) (tHas K fx__are_lans (tCons (tVar 6) tNil))))))))
def t__check_roads (K : PySem.W.Frag) (w : World) : TS := (tSeq (tIfS (tNot (tTru K (tCB (rIsi K) (tCons (tVar 0) (tCons (tC (.ty "tuple")) tNil))))) tNever tNext) (tFor (iEnumT K (tCons (tVar 0) tNil)) (gTup K 2 (gCons (gName 2) (gCons (gName 3) gNil))) (tIfS (tOr (tTest (tOp (rEqD K) (tVar 2) (tC (.int 8)))) (tNot (tTru K (tHas K fx__is_road (tCons (tVar 3) (tCons (tVar 1) tNil)))))) tNever tNext)))
def t_check_plan (K : PySem.W.Frag) (w : World) : TS := (tSeq (tIfS (tNot (tTru K (tHas K fx_is_tuple (tCons (tVar 0) (tCons (tC (.int 2)) tNil))))) tNever tNext) (tSeq (tAsg (tVar 0) (gTup K 2 (gCons (gName 1) (gCons (gName 2) gNil)))) (tSeq (tDrop (tHas K fx__check_ranks (tCons (tVar 1) tNil))) (tDrop (tHas K fx__check_roads (tCons (tVar 2) (tCons (tCB (rLn K) (tCons (tVar 1) tNil)) tNil)))))))
section
variable {K : PySem.W.Frag} {w : World}
theorem strict_same {l m : List Int} (hl : l.Pairwise (· < ·)) (hm : m.Pairwise (· < ·)) (h : ∀ k, k ∈ l ↔ k ∈ m) : l = m := by
  induction l generalizing m with
  | nil =>
    cases m with
    | nil => rfl
    | cons b m => exact absurd ((h b).mpr (by simp)) (by simp)
  | cons a l ih =>
    cases m with
    | nil => exact absurd ((h a).mp (by simp)) (by simp)
    | cons b m =>
      rw [List.pairwise_cons] at hl hm
      have e : a = b := by
        have h1 := (h a).mp (by simp)
        have h2 := (h b).mpr (by simp)
        rcases List.mem_cons.mp h1 with z | z
        · exact z
        · rcases List.mem_cons.mp h2 with y | y
          · exact y.symm
          · have := hm.1 a z
            have := hl.1 b y
            omega
      subst e
      rw [ih hl.2 hm.2 fun k => ?_]
      constructor
      · intro hk
        rcases List.mem_cons.mp ((h k).mp (by simp [hk])) with z | z
        · have := hl.1 k hk; omega
        · exact z
      · intro hk
        rcases List.mem_cons.mp ((h k).mpr (by simp [hk])) with z | z
        · have := hm.1 k hk; omega
        · exact z
theorem ints_all (ls : List Nat) : ls.map nI = (ls.map fun n : Nat => (n : Int)).map PyData.int := by rw [List.map_map]; rfl
theorem eqvAll_nI : ∀ ls : List Nat, PyData.eqvAll (ls.map nI) (ls.map nI) = true
  | [] => by simp [PyData.eqvAll]
  | l :: ls => by simp [PyData.eqvAll, PyData.eqv, nI, eqvAll_nI ls]
theorem nIs_lay : ∀ d : List Nat, PyData.canLayAll0 (d.map nI) = true
  | [] => rfl
  | x :: d => by simp only [List.map_cons, PyData.canLayAll0, nIs_lay d]; rfl
theorem nIs_depth : ∀ d : List Nat, PyData.depthAll (d.map nI) = 0
  | [] => by simp [PyData.depthAll]
  | x :: d => by
    have h2 : (nI x).depth = 0 := rfl
    simp only [List.map_cons, PyData.depthAll, nIs_depth d, h2]
    rfl
theorem shaped_nIs (ls : List Nat) : SeqAt.shaped (.list (ls.map nI)) = true := by
  have h3 : (PyData.list (ls.map nI)).depth ≤ 64 := by simp only [PyData.depth, nIs_depth]; omega
  show (PyData.canLay0 (.list (ls.map nI)) && decide ((PyData.list (ls.map nI)).depth ≤ 64)) = true
  rw [Bool.and_eq_true]
  exact ⟨by simp only [PyData.canLay0]; exact nIs_lay ls, decide_eq_true h3⟩
theorem pw_len : ∀ {ls : List Nat} {lo : Nat}, (∀ l ∈ ls, lo ≤ l ∧ l ≤ 3) → ls.Pairwise (· < ·) → ls.length + lo ≤ 4 ∨ ls = []
  | [], _, _, _ => .inr rfl
  | l :: ls, lo, h, p => by
    rw [List.pairwise_cons] at p
    have hl := h l (by simp)
    rcases pw_len (ls := ls) (lo := l + 1) (fun x hx => ⟨p.1 x hx, (h x (by simp [hx])).2⟩) p.2 with q | q
    · left; rw [List.length_cons]; omega
    · subst q; left; simp; omega
theorem good__are_lans : Good K fx__are_lans (t__are_lans K w) 2 1 := .pure (by rintro as κ a κ' ⟨ls, _, _, rfl, rfl, rfl⟩; exact ⟨rfl, rfl⟩) (by
  rintro as κ a κ' ⟨ls, h3, hp, rfl, rfl, rfl⟩
  show StX K (t__are_lans K w) [some (.d (.tuple (ls.map nI))), none] _ _
  have hlen : ls.length ≤ 4 := by
    rcases pw_len (lo := 0) (fun l hl => ⟨Nat.zero_le _, h3 l hl⟩) hp with q | q
    · omega
    · subst q; simp
  have h1 : EvB K (tTru K (tCB (rIsi K) (tCons (tVar 0) (tCons (tC (.ty "tuple")) tNil)))) [some (.d (.tuple (ls.map nI))), none] κ' true κ' := evb_truB (by walk_at "ev")
  have hm : (ls.map nI).length = ls.length := List.length_map ..
  have h2 : EvB K (tTru K (tCB (rAll K) (tCons (tLc (iSeq K (tVar 0)) (gName 1) tYes (tHas K fx_is_lan (tCons (tVar 1) tNil)) [1]) tNil))) [some (.d (.tuple (ls.map nI))), none] κ' true κ' := by
    refine evb_eq (evb_truB (evx_cb (eva_cons (lc_pureA (m := (ls.map nI).length) (src_seqT (src_tupD (ds := ls.map nI) (by walk_at "ev"))) (by omega) (fun _ => true) PyData.bool (fun i hi => ?_)) eva_nil) rc_all)) ?_
    · rw [hm] at hi
      obtain ⟨l, hl⟩ := get_of hi
      rw [getD_map hl]
      refine ⟨_, _, gx_name, by simp, ?_⟩
      exact evx_eq (evx_has (by walk_at "ev") ⟨_, rfl, rfl, rfl⟩) (congrArg (fun b => AV.d (PyData.bool b)) (isNum0 (hi := 3) rfl (h3 l (List.mem_of_getElem? hl))))
    · rw [List.all_map]
      exact List.all_eq_true.mpr fun _ _ => rfl
  refine stx_seq' (stx_ifF (evb_orF (evb_not h1) (evb_not h2)) (stx_next ?_))
  have e1 : EvX K (tCB (rLst K) (tCons (tVar 0) tNil)) [some (.d (.tuple (ls.map nI))), none] κ' (.d (.list (ls.map nI))) κ' := evx_cb (by walk_at "ev") rc_listTD
  have e2 : EvX K (tCB (rSortedSet w) (tCons (tCB (rSetTI K w) (tCons (tVar 0) tNil)) tNil)) [some (.d (.tuple (ls.map nI))), none] κ' (.d (.list (ls.map nI))) κ' := by
    rw [ints_all ls]
    refine evx_sortedSet (ns := ls.map fun n : Nat => (n : Int)) (out := ls.map fun n : Nat => (n : Int)) (by walk_at "ev") (by rw [List.length_map]; omega) fun ms h1 h2 => ?_
    refine strict_same h1 ?_ h2
    rw [List.pairwise_map]
    exact hp.imp fun h => by omega
  refine stx_ret (evx_eq (evx_op e1 e2 (rx_eqD .d .d (shaped_nIs ls) (shaped_nIs ls))) ?_) ok_rt
  simp only [PyData.eqv, eqvAll_nI])
theorem good__is_road : Good K fx__is_road (t__is_road K w) 7 2 := .pure (by rintro as κ a κ' ⟨r, n, _, rfl, rfl, rfl⟩; exact ⟨rfl, rfl⟩) (by
  rintro as κ a κ' ⟨r, n, ok, rfl, rfl, rfl⟩
  show StX K (t__is_road K w) [some (.d (encRoad r)), some (.d (nI n)), none, none, none, none, none] _ _
  have q1 : EvB K (tTru K (tHas K fx_is_tuple (tCons (tVar 0) (tCons (tC (.int 5)) tNil)))) [some (.d (encRoad r)), some (.d (nI n)), none, none, none, none, none] κ' true κ' := evb_eq (evb_truB (by walk_at "ev")) (by rfl)
  refine stx_seq' (stx_ifF (evb_not q1) (stx_next (stx_seq' (stx_asgG (a := .d (.tuple [nI r.one, nI r.other, nI r.cost, nI r.members, .tuple (r.lans.map nI)])) (by walk_at "ev") (gx_tupD (gxs_cons gx_name (gxs_cons gx_name (gxs_cons gx_name (gxs_cons gx_name (gxs_cons gx_name gxs_nil))))) rfl) ?_))))
  show StX K _ [some (.d (encRoad r)), some (.d (nI n)), some (.d (nI r.one)), some (.d (nI r.other)), some (.d (nI r.cost)), some (.d (nI r.members)), some (.d (.tuple (r.lans.map nI)))] _ _
  generalize hδ : ([some (.d (encRoad r)), some (.d (nI n)), some (.d (nI r.one)), some (.d (nI r.other)), some (.d (nI r.cost)), some (.d (nI r.members)), some (.d (.tuple (r.lans.map nI)))] : Slots) = δ
  have g1 : EvX K (tVar 1) δ κ' (.d (nI n)) κ' := by subst hδ; walk_at "ev"
  have g2 : EvX K (tVar 2) δ κ' (.d (nI r.one)) κ' := by subst hδ; walk_at "ev"
  have g3 : EvX K (tVar 3) δ κ' (.d (nI r.other)) κ' := by subst hδ; walk_at "ev"
  have g4 : EvX K (tVar 4) δ κ' (.d (nI r.cost)) κ' := by subst hδ; walk_at "ev"
  have g5 : EvX K (tVar 5) δ κ' (.d (nI r.members)) κ' := by subst hδ; walk_at "ev"
  have g6 : EvX K (tVar 6) δ κ' (.d (.tuple (r.lans.map nI))) κ' := by subst hδ; walk_at "ev"
  have n1 : ((n : Int) - 1) = ((n - 1 : Nat) : Int) := by have := ok.in_; omega
  have n2 : (((r.other : Nat) : Int) - 1) = ((r.other - 1 : Nat) : Int) := by have := ok.lt; omega
  have a1 : EvB K (tTru K (tHas K fx_is_number (tCons (tVar 3) (tCons (tC (.int 1)) (tCons (tOp (rI0 fun i j => .int (i - j)) (tVar 1) (tC (.int 1))) tNil))))) δ κ' true κ' :=
    evb_eq (evb_truB (evx_has (eva_cons g3 (eva_cons (by walk_at "ev") (eva_cons (evx_op g1 (by walk_at "ev") rx_int) eva_nil))) ⟨_, _, _, rfl, rfl, rfl⟩)) (isNum1 n1 (by have := ok.lt; omega) (by have := ok.in_; omega))
  have a2 : EvB K (tTru K (tHas K fx_is_number (tCons (tVar 2) (tCons (tC (.int 0)) (tCons (tOp (rI0 fun i j => .int (i - j)) (tVar 3) (tC (.int 1))) tNil))))) δ κ' true κ' :=
    evb_eq (evb_truB (evx_has (eva_cons g2 (eva_cons (by walk_at "ev") (eva_cons (evx_op g3 (by walk_at "ev") rx_int) eva_nil))) ⟨_, _, _, rfl, rfl, rfl⟩)) (isNum0 n2 (by have := ok.lt; omega))
  refine stx_seq' (stx_ifF (evb_orF (evb_not a1) (evb_not a2)) (stx_next ?_))
  refine stx_ret (evx_andV (b := true) (c := true) (evx_eq (evx_has (eva_cons g4 (eva_cons (by walk_at "ev") (eva_cons (by walk_at "ev") eva_nil))) ⟨_, _, _, rfl, rfl, rfl⟩) (congrArg (fun b => AV.d (PyData.bool b)) (isNum1 (hi := 9) rfl ok.c1 ok.c9))) fun _ =>
    evx_andV (b := true) (c := true) (evx_eq (evx_has (eva_cons g5 (eva_cons (by walk_at "ev") (eva_cons (by walk_at "ev") eva_nil))) ⟨_, _, _, rfl, rfl, rfl⟩) (congrArg (fun b => AV.d (PyData.bool b)) (isNum1 (hi := 3) rfl ok.m1 ok.m3))) fun _ => evx_has (eva_cons g6 eva_nil) ⟨r.lans, ok.l3, ok.up, rfl, rfl, rfl⟩) ok_rt)
theorem good__check_roads : Good K fx__check_roads (t__check_roads K w) 4 2 := .pure (by rintro as κ a κ' ⟨p, _, rfl, rfl, rfl⟩; exact ⟨rfl, rfl⟩) (by
  rintro as κ a κ' ⟨p, ok, rfl, rfl, rfl⟩
  show StX K (t__check_roads K w) [some (.d (.tuple (p.roads.map encRoad))), some (.d (nI p.ranks.length)), none, none] _ _
  have h1 : EvB K (tTru K (tCB (rIsi K) (tCons (tVar 0) (tCons (tC (.ty "tuple")) tNil)))) [some (.d (.tuple (p.roads.map encRoad))), some (.d (nI p.ranks.length)), none, none] κ' true κ' := evb_truB (by walk_at "ev")
  refine stx_seq' (stx_ifF (evb_not h1) (stx_next ?_))
  refine stx_forE (xs := p.roads) (enc := encRoad) (fun i δ κ => κ = κ' ∧ ∃ u v, δ = [some (.d (.tuple (p.roads.map encRoad))), some (.d (nI p.ranks.length)), u, v]) (by walk_at "ev") ⟨rfl, none, none, rfl⟩ ?_ (fun δ κ ⟨e, _⟩ => by rw [e]; exact ok_nx)
  rintro i x δ κ hx ⟨rfl, u, v, rfl⟩
  refine ⟨_, _, gx_tupD (gxs_cons gx_name (gxs_cons gx_name gxs_nil)) rfl, ?_⟩
  show StX K _ [some (.d (.tuple (p.roads.map encRoad))), some (.d (nI p.ranks.length)), some (.d (nI i)), some (.d (encRoad x))] _ _
  have hi : i < p.roads.length := (List.getElem?_eq_some_iff.mp hx).1
  have h6 := ok.m8
  have q1 : EvB K (tTest (tOp (rEqD K) (tVar 2) (tC (.int 8)))) [some (.d (.tuple (p.roads.map encRoad))), some (.d (nI p.ranks.length)), some (.d (nI i)), some (.d (encRoad x))] κ false κ := evb_eq (evb_test (by walk_at "ev")) (decide_eq_false (by omega))
  have q2 : EvB K (tTru K (tHas K fx__is_road (tCons (tVar 3) (tCons (tVar 1) tNil)))) [some (.d (.tuple (p.roads.map encRoad))), some (.d (nI p.ranks.length)), some (.d (nI i)), some (.d (encRoad x))] κ true κ :=
    evb_truB (evx_has (by walk_at "ev") ⟨x, p.ranks.length, ok.rd x (List.mem_of_getElem? hx), rfl, rfl, rfl⟩)
  exact stx_ifF (evb_orF q1 (evb_not q2)) (stx_next ⟨rfl, _, _, rfl⟩))
theorem good_check_plan : Good K fx_check_plan (t_check_plan K w) 3 1 := .pure (by rintro as κ a κ' ⟨p, _, rfl, rfl, rfl⟩; exact ⟨rfl, rfl⟩) (by
  rintro as κ a κ' ⟨p, ok, rfl, rfl, rfl⟩
  show StX K (t_check_plan K w) [some (.d (encPlan p)), none, none] _ _
  have q1 : EvB K (tTru K (tHas K fx_is_tuple (tCons (tVar 0) (tCons (tC (.int 2)) tNil)))) [some (.d (encPlan p)), none, none] κ' true κ' := evb_eq (evb_truB (by walk_at "ev")) (by rfl)
  refine stx_seq' (stx_ifF (evb_not q1) (stx_next (stx_seq' (stx_asgG (a := .d (.tuple [.tuple (p.ranks.map nI), .tuple (p.roads.map encRoad)])) (by walk_at "ev") (gx_tupD (gxs_cons gx_name (gxs_cons gx_name gxs_nil)) rfl) ?_))))
  show StX K _ [some (.d (encPlan p)), some (.d (.tuple (p.ranks.map nI))), some (.d (.tuple (p.roads.map encRoad)))] _ _
  refine stx_seq' (stx_drop (evx_has (by walk_at "ev") ⟨p, ok, rfl, rfl, rfl⟩) (stx_drop (evx_has (eva_cons (by walk_at "ev") (eva_cons (by walk_at "ev") eva_nil)) ⟨p, ok, ?_, rfl, rfl⟩) ok_nx))
  rw [List.length_map])
end
end BY
end

section
set_option Elab.async false
set_option linter.all false
set_option maxRecDepth 100000
set_option maxHeartbeats 4000000
namespace BY
open PySem PySem.Spec PyProof.Rows L2
open Evl (Ex ex_l ex_t)
/-! ### order of names and of what they lead to -/
def ltN (x y : Nat × Nat) : Bool := decide (x.1 < y.1) || (decide (x.1 = y.1) && decide (x.2 < y.2))
def ltB (x y : Best) : Bool := ltN x.1 y.1 || (decide (x.1 = y.1) && decide (x.2 < y.2))
theorem name_lt (x y : Nat × Nat) : PySem.W.dataLt (encName x) (encName y) = ltN x y := by
  unfold encName nI ltN
  rw [PySem.W.dataLt_ii]
  by_cases h1 : x.1 < y.1
  · have : (x.1 : Int) < (y.1 : Int) := by omega
    simp [h1, this]
  · by_cases h2 : x.1 = y.1
    · by_cases h3 : x.2 < y.2
      · have : (x.2 : Int) < (y.2 : Int) := by omega
        simp [h2, h3, this]
      · have : ¬ (x.2 : Int) < (y.2 : Int) := by omega
        simp [h2, h3, this]
    · have a : ¬ (x.1 : Int) < (y.1 : Int) := by omega
      have b : ¬ (x.1 : Int) = (y.1 : Int) := by omega
      simp [h1, h2, a, b]
theorem name_eqv (x y : Nat × Nat) : PyData.eqv (encName x) (encName y) = decide (x = y) := by
  have h := pair_eqv x y
  unfold encPair at h
  unfold encName
  rw [h]
  by_cases e : x = y
  · simp [e]
  · rw [decide_eq_false e, beq_eq_false_iff_ne.mpr e]
theorem best_lt (x y : Best) : PySem.W.dataLt (encBest x) (encBest y) = ltB x y := by
  unfold encBest ltB
  rw [PySem.W.dataLt_pair (by simp [PySem.W.alike, PySem.W.alikeAll, encName, nI]) (by simp [PySem.W.alike, nI]), name_lt, name_eqv]
  by_cases h : x.1 = y.1
  · have hn : ltN y.1 y.1 = false := by unfold ltN; simp
    simp only [h, hn, decide_true, if_true, Bool.false_or, Bool.true_and]
    have e : PyData.eqv (nI x.2) (nI y.2) = decide (x.2 = y.2) := by
      simp only [nI, PyData.eqv]
      by_cases e : x.2 = y.2
      · simp [e]
      · rw [decide_eq_false e, beq_eq_false_iff_ne.mpr (by omega)]
    rw [e]
    have e3 : PySem.W.dataLt (nI x.2) (nI y.2) = decide (x.2 < y.2) := by
      unfold nI
      rw [PySem.W.dataLt_int]
      by_cases q : x.2 < y.2
      · rw [decide_eq_true q, decide_eq_true (by omega)]
      · rw [decide_eq_false q, decide_eq_false (by omega)]
    rw [e3]
    by_cases e2 : x.2 = y.2
    · simp [e2]
    · simp [e2]
  · simp [h]
def bmin (x y : Best) : Best := if ltB y x = true then y else x
def nmin (x y : Nat × Nat) : Nat × Nat := if ltN y x = true then y else x
theorem best_alike (x y : Best) : PySem.W.alike (encBest x) (encBest y) = true := by simp [encBest, encName, nI, PySem.W.alike, PySem.W.alikeAll]
theorem best_depth (x : Best) : (encBest x).depth = 2 := rfl
theorem bests_depth : ∀ xs : List Best, PyData.depthAll (xs.map encBest) ≤ 2
  | [] => by simp [PyData.depthAll]
  | x :: xs => by
    have h := bests_depth xs
    have h2 := best_depth x
    simp only [List.map_cons, PyData.depthAll]
    omega
theorem bests_alike (xs : List Best) : PySem.W.AlikeAll (xs.map encBest) := by
  refine ⟨fun a ha b hb => ?_, fun a ha => ?_⟩
  · obtain ⟨x, _, rfl⟩ := List.mem_map.mp ha
    obtain ⟨y, _, rfl⟩ := List.mem_map.mp hb
    exact best_alike x y
  · obtain ⟨x, _, rfl⟩ := List.mem_map.mp ha
    intro e
    cases e
theorem names_alike (xs : List (Nat × Nat)) : PySem.W.AlikeAll (xs.map encName) := by
  refine ⟨fun a ha b hb => ?_, fun a ha => ?_⟩
  · obtain ⟨x, _, rfl⟩ := List.mem_map.mp ha
    obtain ⟨y, _, rfl⟩ := List.mem_map.mp hb
    simp [encName, nI, PySem.W.alike, PySem.W.alikeAll]
  · obtain ⟨x, _, rfl⟩ := List.mem_map.mp ha
    intro e
    cases e
theorem names_depth : ∀ xs : List (Nat × Nat), PyData.depthAll (xs.map encName) ≤ 1
  | [] => by simp [PyData.depthAll]
  | x :: xs => by
    have h := names_depth xs
    have h2 : (encName x).depth = 1 := rfl
    simp only [List.map_cons, PyData.depthAll]
    omega
theorem min_bests (x : Best) (xs : List Best) : PySem.W.minD (encBest x) (xs.map encBest) = encBest (xs.foldl bmin x) := by
  unfold PySem.W.minD
  induction xs generalizing x with
  | nil => rfl
  | cons y xs ih =>
    simp only [List.map_cons, List.foldl_cons]
    have e : (if PySem.W.dataLt (encBest y) (encBest x) = true then encBest y else encBest x) = encBest (bmin x y) := by
      rw [best_lt]
      unfold bmin
      by_cases c : ltB y x = true
      · rw [if_pos c, if_pos c]
      · rw [if_neg c, if_neg c]
    rw [e]
    exact ih _
theorem min_names (x : Nat × Nat) (xs : List (Nat × Nat)) : PySem.W.minD (encName x) (xs.map encName) = encName (xs.foldl nmin x) := by
  unfold PySem.W.minD
  induction xs generalizing x with
  | nil => rfl
  | cons y xs ih =>
    simp only [List.map_cons, List.foldl_cons]
    have e : (if PySem.W.dataLt (encName y) (encName x) = true then encName y else encName x) = encName (nmin x y) := by
      rw [name_lt]
      unfold nmin
      by_cases c : ltN y x = true
      · rw [if_pos c, if_pos c]
      · rw [if_neg c, if_neg c]
    rw [e]
    exact ih _
/-! ### the tree, as the program reckons it -/
def b0 : Best := ((0, 0), 0)
def farB (x : Best) (c : Nat) : Best := (x.1, x.2 + c)
def stepR (bs : List Best) (r : Road) : List Best :=
  let b1 := bs.set r.one (bmin (bs.getD r.one b0) (farB (bs.getD r.other b0) r.cost))
  b1.set r.other (bmin (b1.getD r.other b0) (farB (b1.getD r.one b0) r.cost))
def stepK (p : Plan) (bs : List Best) (k : Nat) : List Best := match p.roads[k]? with
  | some r => stepR bs r
  | none => bs
def startB (p : Plan) : List Best := (List.range p.ranks.length).map fun b => ((p.ranks.getD b 0, b), 0)
def nearF (p : Plan) (up : List Nat) : List Best := (List.range p.ranks.length).foldl (fun bs _ => up.foldl (stepK p) bs) (startB p)
def choicesF (p : Plan) (up fars : List Nat) (b : Nat) : List Best := up.filterMap fun k => match p.roads[k]? with
  | some r => match otherEnd r b with
    | some e => if fars.getD e 0 + r.cost = fars.getD b 0 then some ((p.ranks.getD e 0, e), k) else none
    | none => none
  | none => none
def wayF (p : Plan) (up fars : List Nat) (b : Nat) : Option Nat := match choicesF p up fars b with
  | [] => none
  | x :: xs => some (xs.foldl bmin x).2
theorem stepK_len (p : Plan) (bs : List Best) (k : Nat) : (stepK p bs k).length = bs.length := by
  unfold stepK
  cases p.roads[k]? with
  | none => rfl
  | some r => simp [stepR]
theorem fold_len (p : Plan) : ∀ (up : List Nat) (bs : List Best), (up.foldl (stepK p) bs).length = bs.length
  | [], _ => rfl
  | k :: up, bs => by rw [List.foldl_cons, fold_len p up, stepK_len]
theorem foldl_take {α β : Type} (f : β → α → β) (b : β) {xs : List α} {i : Nat} {x : α} (h : xs[i]? = some x) : (xs.take (i + 1)).foldl f b = f ((xs.take i).foldl f b) x := by
  rw [List.take_add_one, h, List.foldl_append]
  rfl
theorem foldl_range {β : Type} (f : β → Nat → β) (b : β) (i : Nat) : (List.range (i + 1)).foldl f b = f ((List.range i).foldl f b) i := by
  rw [List.range_succ, List.foldl_append]
  rfl
theorem near_len (p : Plan) (up : List Nat) : ∀ n, ((List.range n).foldl (fun bs _ => up.foldl (stepK p) bs) (startB p)).length = p.ranks.length
  | 0 => by simp [startB]
  | n + 1 => by rw [foldl_range, fold_len]; exact near_len p up n
def fx__nearest : FX := fun as κ a κ' => ∃ p up, PlanOk p ∧ (∀ k ∈ up, k < p.roads.length) ∧ as = [.d (encPlan p), .d (.list (up.map nI))] ∧ a = .d (.list ((nearF p up).map encBest)) ∧ κ' = κ
def fx__way : FX := fun as κ a κ' => ∃ p up fars b k, PlanOk p ∧ (∀ k ∈ up, k < p.roads.length) ∧ up.length ≤ 8 ∧ fars.length = p.ranks.length ∧ b < p.ranks.length ∧ κ[k]? = some ((fars.map nI).map .d) ∧ as = [.d (encPlan p), .d (.list (up.map nI)), .c k, .d (nI b)] ∧ a = .d (encOpt (wayF p up fars b)) ∧ κ' = κ
section
variable {K : PySem.W.Frag} {w : World} {κ : Cells}
theorem getD_of {α : Type} {xs : List α} {i : Nat} {d : α} (h : i < xs.length) : xs[i]? = some (xs.getD i d) := by
  rw [List.getD_eq_getElem?_getD, List.getElem?_eq_getElem h]
  rfl
theorem set_map {α β : Type} (f : α → β) (xs : List α) (i : Nat) (x : α) : (xs.set i x).map f = (xs.map f).set i (f x) := by rw [List.map_set]
theorem rx_ixB {bs : List Best} {k i : Nat} (hk : κ[k]? = some ((bs.map encBest).map AV.d)) (h : i < bs.length) : RX K (rIx K) κ (.c k) (.d (nI i)) (.d (encBest (bs.getD i b0))) κ := rx_ixCg hk (get_map (get_map (getD_of h)))
theorem rc_minB (x y : Best) : RC K (rMinG K) κ [.d (encBest x), .d (encBest y)] (.d (encBest (bmin x y))) κ := by
  have q := rc_minG2 (K := K) (κ := κ) (d := encBest x) (e := encBest y) (bests_alike [x, y]) (Nat.le_trans (bests_depth [x, y]) (by decide))
  have e : (if PySem.W.dataLt (encBest y) (encBest x) = true then encBest y else encBest x) = encBest (bmin x y) := by
    rw [best_lt]
    unfold bmin
    by_cases c : ltB y x = true
    · rw [if_pos c, if_pos c]
    · rw [if_neg c, if_neg c]
  rw [e] at q
  exact q
theorem get_cell {κ : Cells} {xs : List AV} : (κ ++ [xs])[κ.length]? = some xs := by simp
theorem set_cell {κ : Cells} {xs ys : List AV} : (κ ++ [xs]).set κ.length ys = κ ++ [ys] := by simp
end
end BY
end

section
set_option Elab.async false
set_option linter.all false
set_option maxRecDepth 100000
set_option maxHeartbeats 600000
namespace BY
open PySem PySem.Spec PyProof.Rows L2
open Evl (Ex ex_l ex_t)
local macro_rules | `(tactic| walk_at "ev") => `(tactic| first
  | exact evx_var rfl | exact evx_int | exact evx_bl | exact evx_non | exact evx_str | exact evx_v | exact eva_nil
  | (apply eva_cons; (focus (walk_at "ev")); (focus (walk_at "ev")))
  | (apply evx_op; (focus (walk_at "ev")); (focus (walk_at "ev")); (focus (walk_at "rx")))
  | (apply evx_un; (focus (walk_at "ev")); (focus (exact ru_negI)))
  | (apply evx_tup2 <;> (walk_at "ev"))
  | (apply evx_tup3 <;> (walk_at "ev"))
  | (apply evx_slT; (focus (walk_at "ev")); (focus (walk_at "eo")); (focus (walk_at "eo")))
  | (apply evx_cb; (focus (walk_at "ev")); (focus (walk_at "rc")))
  | (apply evx_chain <;> (walk_at "ev"))
  | (apply evx_has; (focus (walk_at "ev")); (focus (walk_at "fx"))))
local macro_rules | `(tactic| walk_at "eo") => `(tactic| first | exact evo_none | exact evo_some (by walk_at "ev"))
local macro_rules | `(tactic| walk_at "fx") => `(tactic| first | exact ⟨_, _, _, rfl, rfl, rfl⟩ | exact ⟨_, _, rfl, rfl, rfl⟩ | exact ⟨_, rfl, rfl, rfl⟩)
local macro_rules | `(tactic| walk_at "rx") => `(tactic| first
  | exact rx_addI | exact rx_eqDI | exact rx_neDI | exact rx_ixT0 rfl | exact rx_ixT1 rfl | exact rx_ixT2 rfl | exact rx_ixT3 rfl | exact rx_ixT4 rfl | exact rx_isN | exact rx_notN | exact rx_int | exact rx_bl)
local macro_rules | `(tactic| walk_at "rc") => `(tactic| first
  | exact rc_isi .d (kb_bool _) | exact rc_isi .d (kb_int _) | exact rc_isi .d (kb_tuple _) | exact rc_isi .d (kb_list _) | exact rc_isi .d (kb_str _) | exact rc_lenT | exact rc_lenL | exact rc_any | exact rc_all)
def t__nearest (K : PySem.W.Frag) (w : World) : TS := (tSeq (tAsg (tVar 0) (gTup K 2 (gCons (gName 2) (gCons (gName 3) gNil)))) (tSeq (tAsg (tLc (iRng1 (tCons (tCB (rLn K) (tCons (tVar 2) tNil)) tNil)) (gName 5) tYes (tTup (tCons (tHas K fx_name_of (tCons (tVar 0) (tCons (tVar 5) tNil))) (tCons (tC (.int 0)) tNil))) [5]) (gName 4)) (tSeq (tFor (iSeq K (tVar 2)) (gName 6) (tFor (iSeq K (tVar 1)) (gName 7) (tSeq (tAsg (tSl (rSlA K) (tOp (rIx K) (tVar 3) (tVar 7)) tNoPart (tPart (tC (.int 3)))) (gTup K 3 (gCons (gName 8) (gCons (gName 9) (gCons (gName 10) gNil))))) (tSeq (tAsg (tCB (rMinG K) (tCons (tOp (rIx K) (tVar 4) (tVar 8)) (tCons (tHas K fx__farther (tCons (tOp (rIx K) (tVar 4) (tVar 9)) (tCons (tVar 10) tNil))) tNil))) (gSub (tVar 4) (tVar 8) rSetL)) (tAsg (tCB (rMinG K) (tCons (tOp (rIx K) (tVar 4) (tVar 9)) (tCons (tHas K fx__farther (tCons (tOp (rIx K) (tVar 4) (tVar 8)) (tCons (tVar 10) tNil))) tNil))) (gSub (tVar 4) (tVar 9) rSetL)))))) (tRet (tVar 4)))))
section
variable {K : PySem.W.Frag} {w : World} {κ : Cells}
theorem good__nearest : Good K fx__nearest (t__nearest K w) 11 2 := .pure (by rintro as κ a κ' ⟨p, up, _, _, rfl, rfl, rfl⟩; exact ⟨rfl, rfl⟩) (by
  rintro as κ0 a κ ⟨p, up, ok, hup, rfl, rfl, rfl⟩
  show StX K (t__nearest K w) [some (.d (encPlan p)), some (.d (.list (up.map nI))), none, none, none, none, none, none, none, none, none] _ _
  refine stx_seq' (stx_asgG (a := .d (.tuple [.tuple (p.ranks.map nI), .tuple (p.roads.map encRoad)])) (by walk_at "ev") (gx_tupD (gxs_cons gx_name (gxs_cons gx_name gxs_nil)) rfl) ?_)
  show StX K _ [some (.d (encPlan p)), some (.d (.list (up.map nI))), some (.d (.tuple (p.ranks.map nI))), some (.d (.tuple (p.roads.map encRoad))), none, none, none, none, none, none, none] _ _
  have h6 := ok.n6
  have hm : (p.ranks.map nI).length = p.ranks.length := List.length_map ..
  refine stx_seq' (stx_asg (lc_pureC (m := p.ranks.length) (src_range1 (n := ((p.ranks.length : Nat) : Int)) (by rw [← hm]; walk_at "ev")) (by omega) rfl (fun b => ((p.ranks.getD b 0, b), 0)) encBest (fun i hi => ⟨_, _, gx_name, by simp, ?_⟩)) ?_)
  · exact evx_tup2 (evx_has (eva_cons (by walk_at "ev") (eva_cons (by walk_at "ev") eva_nil)) ⟨p, i, _, getD_of hi, rfl, rfl, rfl⟩) (by walk_at "ev")
  show StX K _ [some (.d (encPlan p)), some (.d (.list (up.map nI))), some (.d (.tuple (p.ranks.map nI))), some (.d (.tuple (p.roads.map encRoad))), some (.c κ.length), none, none, none, none, none, none] (κ ++ [((startB p).map encBest).map AV.d]) _
  refine stx_seq' (stx_forTu (xs := p.ranks) (enc := nI) (fun i δ κ1 => κ1 = κ ++ [(((List.range i).foldl (fun bs _ => up.foldl (stepK p) bs) (startB p)).map encBest).map AV.d] ∧ ∃ u1 u2 u3 u4 u5 u6, δ = [some (.d (encPlan p)), some (.d (.list (up.map nI))), some (.d (.tuple (p.ranks.map nI))), some (.d (.tuple (p.roads.map encRoad))), some (.c κ.length), u1, u2, u3, u4, u5, u6])
    (by walk_at "ev") ⟨rfl, none, none, none, none, none, none, rfl⟩ ?_ ?_)
  · rintro i x δ κ1 hx ⟨rfl, u1, u2, u3, u4, u5, u6, rfl⟩
    refine ⟨_, _, gx_name, ?_⟩
    show StX K _ [some (.d (encPlan p)), some (.d (.list (up.map nI))), some (.d (.tuple (p.ranks.map nI))), some (.d (.tuple (p.roads.map encRoad))), some (.c κ.length), u1, some (.d (nI x)), u3, u4, u5, u6] _ _
    generalize hB : (List.range i).foldl (fun bs _ => up.foldl (stepK p) bs) (startB p) = B
    have hlB : B.length = p.ranks.length := by rw [← hB]; exact near_len p up i
    refine stx_forLi (xs := up) (enc := nI) (fun j δ κ1 => κ1 = κ ++ [(((up.take j).foldl (stepK p) B).map encBest).map AV.d] ∧ ∃ v1 v2 v3 v4 v5 v6, δ = [some (.d (encPlan p)), some (.d (.list (up.map nI))), some (.d (.tuple (p.ranks.map nI))), some (.d (.tuple (p.roads.map encRoad))), some (.c κ.length), v1, v2, v3, v4, v5, v6])
      (by walk_at "ev") ⟨rfl, _, _, _, _, _, _, rfl⟩ ?_ ?_
    · rintro j k δ κ1 hk ⟨rfl, v1, v2, v3, v4, v5, v6, rfl⟩
      refine ⟨_, _, gx_name, ?_⟩
      show StX K _ [some (.d (encPlan p)), some (.d (.list (up.map nI))), some (.d (.tuple (p.ranks.map nI))), some (.d (.tuple (p.roads.map encRoad))), some (.c κ.length), v1, v2, some (.d (nI k)), v4, v5, v6] _ _
      generalize hC : (up.take j).foldl (stepK p) B = C
      have hlC : C.length = p.ranks.length := by rw [← hC, fold_len]; exact hlB
      obtain ⟨r, hr⟩ := get_of (hup k (List.mem_of_getElem? hk))
      have hrd := ok.rd r (List.mem_of_getElem? hr)
      have h1 : r.one < C.length := by have := hrd.lt; have := hrd.in_; omega
      have h2 : r.other < C.length := by have := hrd.in_; omega
      have q0 : EvX K (tOp (rIx K) (tVar 3) (tVar 7)) [some (.d (encPlan p)), some (.d (.list (up.map nI))), some (.d (.tuple (p.ranks.map nI))), some (.d (.tuple (p.roads.map encRoad))), some (.c κ.length), v1, v2, some (.d (nI k)), v4, v5, v6] (κ ++ [(C.map encBest).map AV.d]) (.d (encRoad r)) (κ ++ [(C.map encBest).map AV.d]) :=
        evx_op (by walk_at "ev") (by walk_at "ev") (rx_ixTDg (get_map hr))
      have q1 : EvX K (tSl (rSlA K) (tOp (rIx K) (tVar 3) (tVar 7)) tNoPart (tPart (tC (.int 3)))) [some (.d (encPlan p)), some (.d (.list (up.map nI))), some (.d (.tuple (p.ranks.map nI))), some (.d (.tuple (p.roads.map encRoad))), some (.c κ.length), v1, v2, some (.d (nI k)), v4, v5, v6] (κ ++ [(C.map encBest).map AV.d]) (.d (.tuple [nI r.one, nI r.other, nI r.cost])) (κ ++ [(C.map encBest).map AV.d]) :=
        evx_slT (ds := [nI r.one, nI r.other, nI r.cost, nI r.members, .tuple (r.lans.map nI)]) (lo := none) (hi := some 3) q0 evo_none (evo_some evx_int)
      refine stx_seq' (stx_asgG q1 (gx_tupD (gxs_cons gx_name (gxs_cons gx_name (gxs_cons gx_name gxs_nil))) rfl) ?_)
      show StX K _ [some (.d (encPlan p)), some (.d (.list (up.map nI))), some (.d (.tuple (p.ranks.map nI))), some (.d (.tuple (p.roads.map encRoad))), some (.c κ.length), v1, v2, some (.d (nI k)), some (.d (nI r.one)), some (.d (nI r.other)), some (.d (nI r.cost))] _ _
      refine stx_seq' (stx_setC (k := κ.length) (j := r.one) (xs := (C.map encBest).map AV.d) (evx_cb (eva_cons (evx_op (by walk_at "ev") (by walk_at "ev") (rx_ixB get_cell h1)) (eva_cons (evx_has (eva_cons (evx_op (by walk_at "ev") (by walk_at "ev") (rx_ixB get_cell h2)) (eva_cons (by walk_at "ev") eva_nil)) ⟨C.getD r.other b0, r.cost, rfl, rfl, rfl⟩) eva_nil)) (rc_minB (C.getD r.one b0) (farB (C.getD r.other b0) r.cost)))
        (by walk_at "ev") (by walk_at "ev") get_cell (by simpa using h1) ?_)
      rw [set_cell, ← set_map, ← set_map]
      generalize hD : C.set r.one (bmin (C.getD r.one b0) (farB (C.getD r.other b0) r.cost)) = Dd
      have hlD : Dd.length = C.length := by rw [← hD, List.length_set]
      refine stx_setC (k := κ.length) (j := r.other) (xs := (Dd.map encBest).map AV.d) (evx_cb (eva_cons (evx_op (by walk_at "ev") (by walk_at "ev") (rx_ixB get_cell (by omega))) (eva_cons (evx_has (eva_cons (evx_op (by walk_at "ev") (by walk_at "ev") (rx_ixB get_cell (by omega))) (eva_cons (by walk_at "ev") eva_nil)) ⟨Dd.getD r.one b0, r.cost, rfl, rfl, rfl⟩) eva_nil)) (rc_minB (Dd.getD r.other b0) (farB (Dd.getD r.one b0) r.cost)))
        (by walk_at "ev") (by walk_at "ev") get_cell (by simp; omega) ?_
      rw [set_cell, ← set_map, ← set_map]
      refine ⟨?_, _, _, _, _, _, _, rfl⟩
      rw [foldl_take (stepK p) B hk, hC]
      have e : stepK p C k = Dd.set r.other (bmin (Dd.getD r.other b0) (farB (Dd.getD r.one b0) r.cost)) := by
        unfold stepK
        rw [hr, ← hD]
        rfl
      rw [e]
    · rintro δ κ1 ⟨rfl, v1, v2, v3, v4, v5, v6, rfl⟩
      refine ⟨?_, _, _, _, _, _, _, rfl⟩
      rw [foldl_range, hB, List.take_length]
  · rintro δ κ1 ⟨rfl, u1, u2, u3, u4, u5, u6, rfl⟩
    exact stx_ret (by walk_at "ev") (ok_frz rfl))
end
end BY
end

section
set_option Elab.async false
set_option linter.all false
set_option maxRecDepth 100000
set_option maxHeartbeats 600000
namespace BY
open PySem PySem.Spec PyProof.Rows L2
open Evl (Ex ex_l ex_t)
local macro_rules | `(tactic| walk_at "ev") => `(tactic| first
  | exact evx_var rfl | exact evx_int | exact evx_bl | exact evx_non | exact evx_str | exact evx_v | exact eva_nil
  | (apply eva_cons; (focus (walk_at "ev")); (focus (walk_at "ev")))
  | (apply evx_op; (focus (walk_at "ev")); (focus (walk_at "ev")); (focus (walk_at "rx")))
  | (apply evx_un; (focus (walk_at "ev")); (focus (exact ru_negI)))
  | (apply evx_tup2 <;> (walk_at "ev"))
  | (apply evx_tup3 <;> (walk_at "ev"))
  | (apply evx_slT; (focus (walk_at "ev")); (focus (walk_at "eo")); (focus (walk_at "eo")))
  | (apply evx_cb; (focus (walk_at "ev")); (focus (walk_at "rc")))
  | (apply evx_chain <;> (walk_at "ev"))
  | (apply evx_has; (focus (walk_at "ev")); (focus (walk_at "fx"))))
local macro_rules | `(tactic| walk_at "eo") => `(tactic| first | exact evo_none | exact evo_some (by walk_at "ev"))
local macro_rules | `(tactic| walk_at "fx") => `(tactic| first | exact ⟨_, _, _, rfl, rfl, rfl⟩ | exact ⟨_, _, rfl, rfl, rfl⟩ | exact ⟨_, rfl, rfl, rfl⟩)
local macro_rules | `(tactic| walk_at "rx") => `(tactic| first
  | exact rx_addI | exact rx_eqDI | exact rx_neDI | exact rx_ixT0 rfl | exact rx_ixT1 rfl | exact rx_ixT2 rfl | exact rx_ixT3 rfl | exact rx_ixT4 rfl | exact rx_isN | exact rx_notN | exact rx_int | exact rx_bl)
local macro_rules | `(tactic| walk_at "rc") => `(tactic| first
  | exact rc_isi .d (kb_bool _) | exact rc_isi .d (kb_int _) | exact rc_isi .d (kb_tuple _) | exact rc_isi .d (kb_list _) | exact rc_isi .d (kb_str _) | exact rc_lenT | exact rc_lenL | exact rc_any | exact rc_all)
def t__way (K : PySem.W.Frag) (w : World) : TS := (tSeq (tAsg (tLst tNil) (gName 4)) (tSeq (tFor (iSeq K (tVar 1)) (gName 5) (tSeq (tAsg (tOp (rIx K) (tOp (rIx K) (tVar 0) (tC (.int 1))) (tVar 5)) (gName 6)) (tSeq (tAsg (tHas K fx_other_end (tCons (tVar 6) (tCons (tVar 3) tNil))) (gName 7)) (tIfS (tAnd (tTest (tOp (fun x y H Q => y = .non ∧ Q (.bl (!decide (x = .non))) H) (tVar 7) (tC .non))) (tTest (tOp (rEqD K) (tOp (rAddG K) (tOp (rIx K) (tVar 2) (tVar 7)) (tOp (rIx K) (tVar 6) (tC (.int 2)))) (tOp (rIx K) (tVar 2) (tVar 3))))) (tDrop (tBM K "list" rAppend (tVar 4) (tCons (tTup (tCons (tHas K fx_name_of (tCons (tVar 0) (tCons (tVar 7) tNil))) (tCons (tVar 5) tNil))) tNil))) tNext)))) (tSeq (tIfS (tNot (tTru K (tVar 4))) (tRet (tC .non)) tNext) (tRet (tOp (rIx K) (tCB (rMinG K) (tCons (tVar 4) tNil)) (tC (.int 1)))))))
def t_tree (K : PySem.W.Frag) (w : World) : TS := (tSeq (tDrop (tHas K fx_check_plan (tCons (tVar 0) tNil))) (tSeq (tDrop (tHas K fx_check_down (tCons (tVar 0) (tCons (tVar 1) tNil)))) (tSeq (tAsg (tHas K fx_roads_up (tCons (tVar 0) (tCons (tVar 1) tNil))) (gName 2)) (tSeq (tAsg (tHas K fx__nearest (tCons (tVar 0) (tCons (tVar 2) tNil))) (gName 3)) (tSeq (tAsg (tLc (iSeq K (tVar 3)) (gTup K 2 (gCons (gName 5) (gCons (gName 6) gNil))) tYes (tOp (rIx K) (tVar 5) (tC (.int 1))) [5, 6]) (gName 4)) (tSeq (tAsg (tLc (iSeq K (tVar 3)) (gTup K 2 (gCons (gName 5) (gCons (gName 6) gNil))) tYes (tVar 6) [5, 6]) (gName 7)) (tSeq (tAsg (tLc (iRng1 (tCons (tCB (rLn K) (tCons (tVar 7) tNil)) tNil)) (gName 9) tYes (tHas K fx__way (tCons (tVar 0) (tCons (tVar 2) (tCons (tVar 7) (tCons (tVar 9) tNil))))) [9]) (gName 8)) (tRet (tTup (tCons (tVar 4) (tCons (tVar 7) (tCons (tVar 8) tNil))))))))))))
section
variable {K : PySem.W.Frag} {w : World} {κ : Cells}
theorem otherEnd_lt {n : Nat} {r : Road} {b e : Nat} (ok : RoadOk n r) (h : otherEnd r b = some e) : e < n := by
  unfold otherEnd at h
  have := ok.lt
  have := ok.in_
  split at h
  · cases h; omega
  · split at h
    · cases h; omega
    · cases h
theorem take_succ {α : Type} {xs : List α} {i : Nat} {x : α} (h : xs[i]? = some x) : xs.take (i + 1) = xs.take i ++ [x] := by
  rw [List.take_add_one, h]
  rfl
theorem enc_names {xs : List Best} : (xs.map encBest).map AV.d = xs.map (fun x => AV.d (encBest x)) := by rw [List.map_map]; rfl
theorem good__way : Good K fx__way (t__way K w) 8 4 := .pure (by rintro as κ a κ' ⟨p, up, fars, b, k, _, _, _, _, _, _, rfl, rfl, rfl⟩; exact ⟨rfl, rfl⟩) (by
  rintro as κ0 a κ ⟨p, up, fars, b, k, ok, hup, hu8, hfl, hb, hk, rfl, rfl, rfl⟩
  show StX K (t__way K w) [some (.d (encPlan p)), some (.d (.list (up.map nI))), some (.c k), some (.d (nI b)), none, none, none, none] _ _
  have hkl : k < κ.length := (List.getElem?_eq_some_iff.mp hk).1
  refine stx_seq' (stx_asg (evx_lstC eva_nil rfl) ?_)
  show StX K _ [some (.d (encPlan p)), some (.d (.list (up.map nI))), some (.c k), some (.d (nI b)), some (.c κ.length), none, none, none] (κ ++ [[]]) _
  refine stx_seq' (stx_forLi (xs := up) (enc := nI) (fun j δ κ1 => κ1 = κ ++ [((choicesF p (up.take j) fars b).map encBest).map AV.d] ∧ ∃ u1 u2 u3, δ = [some (.d (encPlan p)), some (.d (.list (up.map nI))), some (.c k), some (.d (nI b)), some (.c κ.length), u1, u2, u3])
    (by walk_at "ev") ⟨rfl, none, none, none, rfl⟩ ?_ ?_)
  · rintro j n δ κ1 hj ⟨rfl, u1, u2, u3, rfl⟩
    refine ⟨_, _, gx_name, ?_⟩
    show StX K _ [some (.d (encPlan p)), some (.d (.list (up.map nI))), some (.c k), some (.d (nI b)), some (.c κ.length), some (.d (nI n)), u2, u3] _ _
    have hcl : (choicesF p (up.take j) fars b).length ≤ 8 := by
      have h2 : (up.take j).length ≤ up.length := by rw [List.length_take]; omega
      unfold choicesF
      exact Nat.le_trans (List.length_filterMap_le _ _) (Nat.le_trans h2 hu8)
    have hstep : choicesF p (up.take (j + 1)) fars b = choicesF p (up.take j) fars b ++ choicesF p [n] fars b := by
      unfold choicesF
      rw [take_succ hj, List.filterMap_append]
    generalize hC : choicesF p (up.take j) fars b = C at hcl hstep
    obtain ⟨r, hr⟩ := get_of (hup n (List.mem_of_getElem? hj))
    have hrd := ok.rd r (List.mem_of_getElem? hr)
    have hone : choicesF p [n] fars b = (match otherEnd r b with
          | some e => if fars.getD e 0 + r.cost = fars.getD b 0 then [((p.ranks.getD e 0, e), n)] else []
          | none => []) := by
      unfold choicesF
      simp only [List.filterMap_cons, List.filterMap_nil, hr]
      cases otherEnd r b with
      | none => rfl
      | some e => by_cases c : fars.getD e 0 + r.cost = fars.getD b 0 <;> simp only [c, if_true, if_false]
    have q0 : EvX K (tOp (rIx K) (tOp (rIx K) (tVar 0) (tC (.int 1))) (tVar 5)) [some (.d (encPlan p)), some (.d (.list (up.map nI))), some (.c k), some (.d (nI b)), some (.c κ.length), some (.d (nI n)), u2, u3] (κ ++ [(C.map encBest).map AV.d]) (.d (encRoad r)) (κ ++ [(C.map encBest).map AV.d]) :=
      evx_op (evx_op (x := .d (encPlan p)) (by walk_at "ev") (by walk_at "ev") (rx_ixT1 rfl)) (by walk_at "ev") (rx_ixTDg (get_map hr))
    refine stx_seq' (stx_asg q0 (stx_seq' (stx_asg (evx_has (eva_cons (x := .d (encRoad r)) (by walk_at "ev") (eva_cons (by walk_at "ev") eva_nil)) ⟨r, b, rfl, rfl, rfl⟩) ?_)))
    show StX K _ [some (.d (encPlan p)), some (.d (.list (up.map nI))), some (.c k), some (.d (nI b)), some (.c κ.length), some (.d (nI n)), some (.d (encRoad r)), some (.d (encOpt (otherEnd r b)))] _ _
    cases ho : otherEnd r b with
    | none =>
      refine stx_ifF (evb_andF (evb_eq (evb_test (by walk_at "ev")) (by rfl))) (stx_next ⟨?_, _, _, _, rfl⟩)
      rw [hstep, hone, ho, List.append_nil]
    | some e =>
      have he := otherEnd_lt hrd ho
      have h1 : EvB K (tTest (tOp (fun x y H Q => y = .non ∧ Q (.bl (!decide (x = .non))) H) (tVar 7) (tC .non))) [some (.d (encPlan p)), some (.d (.list (up.map nI))), some (.c k), some (.d (nI b)), some (.c κ.length), some (.d (nI n)), some (.d (encRoad r)), some (.d (encOpt (some e)))] (κ ++ [(C.map encBest).map AV.d]) true (κ ++ [(C.map encBest).map AV.d]) := evb_eq (evb_test (by walk_at "ev")) (by rfl)
      have hk' : (κ ++ [(C.map encBest).map AV.d])[k]? = some ((fars.map nI).map AV.d) := by rw [List.getElem?_append_left hkl]; exact hk
      have ix : ∀ (i : Nat), i < p.ranks.length → RX K (rIx K) (κ ++ [(C.map encBest).map AV.d]) (.c k) (.d (nI i)) (.d (nI (fars.getD i 0))) (κ ++ [(C.map encBest).map AV.d]) := fun i hi => rx_ixCg hk' (get_map (get_map (getD_of (by rw [hfl]; exact hi))))
      have h2 : EvB K (tTest (tOp (rEqD K) (tOp (rAddG K) (tOp (rIx K) (tVar 2) (tVar 7)) (tOp (rIx K) (tVar 6) (tC (.int 2)))) (tOp (rIx K) (tVar 2) (tVar 3)))) [some (.d (encPlan p)), some (.d (.list (up.map nI))), some (.c k), some (.d (nI b)), some (.c κ.length), some (.d (nI n)), some (.d (encRoad r)), some (.d (encOpt (some e)))] (κ ++ [(C.map encBest).map AV.d]) (decide (fars.getD e 0 + r.cost = fars.getD b 0)) (κ ++ [(C.map encBest).map AV.d]) := by
        refine evb_eq (evb_test (evx_op (evx_op (evx_op (y := .d (nI e)) (by walk_at "ev") (by walk_at "ev") (ix e he)) (evx_op (x := .d (encRoad r)) (by walk_at "ev") (by walk_at "ev") (rx_ixT2 rfl)) rx_addI) (evx_op (by walk_at "ev") (by walk_at "ev") (ix b hb)) rx_eqDI)) ?_
        by_cases c : fars.getD e 0 + r.cost = fars.getD b 0
        · rw [decide_eq_true c]; exact decide_eq_true (by omega)
        · rw [decide_eq_false c]; exact decide_eq_false (by omega)
      refine stx_if (evb_andT h1 h2) (fun c => ?_) (fun c => stx_next ⟨?_, _, _, _, rfl⟩)
      · have c' := of_decide_eq_true c
        refine stx_drop (evx_bm (by walk_at "ev") get_cell (eva_cons (evx_tup2 (evx_has (eva_cons (by walk_at "ev") (eva_cons (x := .d (nI e)) (by walk_at "ev") eva_nil)) ⟨p, e, _, getD_of (d := 0) he, rfl, rfl, rfl⟩) (by walk_at "ev")) eva_nil) (rm_append get_cell (by simp; omega))) ⟨?_, _, _, _, rfl⟩
        rw [set_cell, hstep, hone, ho]
        simp only [c', if_true, List.map_append]
        rfl
      · have c' := of_decide_eq_false c
        rw [hstep, hone, ho]
        simp only [c', if_false, List.append_nil]
  · rintro δ κ1 ⟨rfl, u1, u2, u3, rfl⟩
    rw [List.take_length]
    have ht : EvB K (tTru K (tVar 4)) [some (.d (encPlan p)), some (.d (.list (up.map nI))), some (.c k), some (.d (nI b)), some (.c κ.length), u1, u2, u3] (κ ++ [((choicesF p up fars b).map encBest).map AV.d]) (!(((choicesF p up fars b).map encBest).map AV.d).isEmpty) (κ ++ [((choicesF p up fars b).map encBest).map AV.d]) := evb_truC (by walk_at "ev") get_cell
    unfold wayF
    have hbig := ok.m8
    cases hC : choicesF p up fars b with
    | nil =>
      rw [hC] at ht
      exact stx_seq' (stx_ifT (evb_not ht) (stx_ret (by walk_at "ev") ok_rtJ))
    | cons x xs =>
      rw [hC] at ht
      refine stx_seq' (stx_ifF (evb_not ht) (stx_next (stx_ret (evx_op (x := .d (encBest (xs.foldl bmin x))) (by rw [← min_bests]; exact evx_cb (by walk_at "ev") (rc_minGC (d := encBest x) (ds := xs.map encBest) get_cell (bests_alike (x :: xs)) (Nat.le_trans (bests_depth (x :: xs)) (by decide)))) (by walk_at "ev") (rx_ixT1 (ds := [encName (xs.foldl bmin x).1, nI (xs.foldl bmin x).2]) ?_)) ok_rtJ)))
      rfl)
theorem range_getD {α β : Type} (f : α → β) (d : α) : ∀ xs : List α, (List.range xs.length).map (fun i => f (xs.getD i d)) = xs.map f := by
  intro xs
  apply List.ext_getElem?
  intro i
  rw [List.getElem?_map, List.getElem?_map]
  by_cases h : i < xs.length
  · rw [List.getElem?_range h, List.getElem?_eq_getElem h]
    simp [List.getD_eq_getElem?_getD, List.getElem?_eq_getElem h]
  · rw [List.getElem?_eq_none (by simpa using h), List.getElem?_eq_none (by omega)]
    rfl
end
/-! ### the tree -/
def rootsF (p : Plan) (d : List (Nat × Nat)) : List Nat := (nearF p (upOf p.roads d)).map fun b => b.1.2
def farsF (p : Plan) (d : List (Nat × Nat)) : List Nat := (nearF p (upOf p.roads d)).map fun b => b.2
def waysF (p : Plan) (d : List (Nat × Nat)) : List (Option Nat) := (List.range p.ranks.length).map fun b => wayF p (upOf p.roads d) (farsF p d) b
theorem nearF_len (p : Plan) (up : List Nat) : (nearF p up).length = p.ranks.length := near_len p up _
theorem upOf_lt (roads : List Road) (d : List (Nat × Nat)) : ∀ k ∈ upOf roads d, k < roads.length := fun k hk => by
  unfold upOf at hk
  exact List.mem_range.mp (List.mem_filter.mp hk).1
theorem upOf_len (roads : List Road) (d : List (Nat × Nat)) : (upOf roads d).length ≤ roads.length := by
  unfold upOf
  refine Nat.le_trans (List.length_filter_le _ _) ?_
  simp
def fx_tree : FX := fun as κ a κ' => ∃ p d, PlanOk p ∧ DownOk p d ∧ d.length ≤ 1000 ∧ as = [.d (encPlan p), .d (encDown d)] ∧ a = .t [.c κ.length, .c (κ.length + 1), .c (κ.length + 2)] ∧
  κ' = κ ++ [((rootsF p d).map nI).map .d, ((farsF p d).map nI).map .d, ((waysF p d).map encOpt).map .d]
section
variable {K : PySem.W.Frag} {w : World} {κ : Cells}
theorem lows_data {n : Nat} : ∀ ds : List PyData, lows n (ds.map AV.d) = true
  | [] => rfl
  | d :: ds => by simp [lows, low, lows_data ds]
theorem low_mono {n m : Nat} (h : n ≤ m) : ∀ a : AV, low n a = true → low m a = true := by
  intro a
  refine AV.rec (motive_1 := fun a => low n a = true → low m a = true) (motive_2 := fun as => lows n as = true → lows m as = true) ?_ ?_ ?_ ?_ ?_ ?_ a
  · intros; rfl
  · intro k hk
    have : k < n := by simpa [low] using hk
    simp [low]; omega
  · intro xs ih hk
    simpa [low] using ih (by simpa [low] using hk)
  · intros; rfl
  · intros; rfl
  · intro x xs h1 h2 hk
    have hk' : low n x = true ∧ lows n xs = true := by simpa [lows] using hk
    simp [lows, h1 hk'.1, h2 hk'.2]
theorem lows_mono {n m : Nat} (h : n ≤ m) : ∀ as : List AV, lows n as = true → lows m as = true
  | [], _ => rfl
  | x :: xs, hk => by
    have hk' : low n x = true ∧ lows n xs = true := by simpa [lows] using hk
    simp [lows, low_mono h x hk'.1, lows_mono h xs hk'.2]
theorem good_tree : Good K fx_tree (t_tree K w) 10 2 where
  len := by rintro as κ a κ' ⟨p, d, _, _, _, rfl, _, _⟩; rfl
  grow := by rintro as κ a κ' ⟨p, d, _, _, _, _, _, rfl⟩; simp
  lo := by
    rintro as κ a κ' ⟨p, d, _, _, _, _, _, rfl⟩ hl _ xs hx
    rcases List.mem_append.mp hx with h | h
    · exact lows_mono (by simp) xs (hl xs h)
    · simp only [List.mem_cons, List.not_mem_nil, or_false] at h
      rcases h with rfl | rfl | rfl <;> exact lows_data _
  run := by
    rintro as κ a κ' ⟨p, d, ok, hd, hd1, rfl, rfl, rfl⟩
    show StX K (t_tree K w) [some (.d (encPlan p)), some (.d (encDown d)), none, none, none, none, none, none, none, none] _ _
    have h6 := ok.n6
    have h8 := ok.m8
    refine stx_seq' (stx_drop (evx_has (by walk_at "ev") ⟨p, ok, rfl, rfl, rfl⟩) (stx_seq' (stx_drop (evx_has (by walk_at "ev") ⟨p, d, ok, hd, rfl, rfl, rfl⟩) (stx_seq' (stx_asg (evx_has (by walk_at "ev") ⟨p, d, ok, hd1, rfl, rfl, rfl⟩) ?_)))))
    show StX K _ [some (.d (encPlan p)), some (.d (encDown d)), some (.d (.list ((upOf p.roads d).map nI))), none, none, none, none, none, none, none] _ _
    refine stx_seq' (stx_asg (evx_has (by walk_at "ev") ⟨p, upOf p.roads d, ok, upOf_lt _ _, rfl, rfl, rfl⟩) ?_)
    have hup := upOf_lt p.roads d
    have hul := upOf_len p.roads d
    have hlB := nearF_len p (upOf p.roads d)
    have er : rootsF p d = (nearF p (upOf p.roads d)).map fun b => b.1.2 := rfl
    have ef : farsF p d = (nearF p (upOf p.roads d)).map fun b => b.2 := rfl
    have ew : waysF p d = (List.range p.ranks.length).map fun b => wayF p (upOf p.roads d) (farsF p d) b := rfl
    generalize hR : rootsF p d = R at er
    generalize hF : farsF p d = F at ef ew
    generalize hW : waysF p d = W at ew
    generalize upOf p.roads d = U at *
    generalize nearF p U = B at *
    show StX K _ [some (.d (encPlan p)), some (.d (encDown d)), some (.d (.list (U.map nI))), some (.d (.list (B.map encBest))), none, none, none, none, none, none] κ _
    have hmB : (B.map encBest).length = p.ranks.length := by rw [List.length_map]; exact hlB
    refine stx_seq' (stx_asg (lc_pureC (m := (B.map encBest).length) (src_seqL (src_listD (ds := B.map encBest) (by walk_at "ev"))) (by omega) rfl (fun i => (B.getD i b0).1.2) nI (fun i hi => ?_)) ?_)
    · rw [hmB] at hi
      rw [getD_map (getD_of (d := b0) (by rw [hlB]; exact hi))]
      exact ⟨_, _, gx_tupD (ds := [encName (B.getD i b0).1, nI (B.getD i b0).2]) (gxs_cons gx_name (gxs_cons gx_name gxs_nil)) rfl, by simp, evx_op (x := .d (encName (B.getD i b0).1)) (by walk_at "ev") (by walk_at "ev") (rx_ixT1 rfl)⟩
    have e1 : (List.range (B.map encBest).length).map (fun i => (B.getD i b0).1.2) = R := by rw [List.length_map, er]; exact range_getD (fun b : Best => b.1.2) b0 B
    rw [e1]
    show StX K _ [some (.d (encPlan p)), some (.d (encDown d)), some (.d (.list (U.map nI))), some (.d (.list (B.map encBest))), some (.c κ.length), none, none, none, none, none] (κ ++ [(R.map nI).map AV.d]) _
    refine stx_seq' (stx_asg (lc_pureC (m := (B.map encBest).length) (n := κ.length + 1) (src_seqL (src_listD (ds := B.map encBest) (by walk_at "ev"))) (by omega) (by simp) (fun i => (B.getD i b0).2) nI (fun i hi => ?_)) ?_)
    · rw [hmB] at hi
      rw [getD_map (getD_of (d := b0) (by rw [hlB]; exact hi))]
      exact ⟨_, _, gx_tupD (ds := [encName (B.getD i b0).1, nI (B.getD i b0).2]) (gxs_cons gx_name (gxs_cons gx_name gxs_nil)) rfl, by simp, by walk_at "ev"⟩
    have e2 : (List.range (B.map encBest).length).map (fun i => (B.getD i b0).2) = F := by rw [List.length_map, ef]; exact range_getD (fun b : Best => b.2) b0 B
    rw [e2]
    show StX K _ [some (.d (encPlan p)), some (.d (encDown d)), some (.d (.list (U.map nI))), some (.d (.list (B.map encBest))), some (.c κ.length), none, none, some (.c (κ.length + 1)), none, none] (κ ++ [(R.map nI).map AV.d] ++ [(F.map nI).map AV.d]) _
    have hlF : F.length = p.ranks.length := by rw [ef, List.length_map]; exact hlB
    have hcell : (κ ++ [(R.map nI).map AV.d] ++ [(F.map nI).map AV.d])[κ.length + 1]? = some ((F.map nI).map AV.d) := by simp
    have hmF : ((F.map nI).map AV.d).length = p.ranks.length := by simp [hlF]
    refine stx_seq' (stx_asg (lc_pureC (m := p.ranks.length) (n := κ.length + 2) (src_range1 (n := ((p.ranks.length : Nat) : Int)) (by rw [← hmF]; exact eva_cons (evx_cb (by walk_at "ev") (rc_lenC hcell)) eva_nil)) (by omega) (by simp) (fun b => wayF p U F b) encOpt (fun i hi => ⟨_, _, gx_name, by simp, ?_⟩)) ?_)
    · exact evx_has (by walk_at "ev") ⟨p, U, F, i, κ.length + 1, ok, hup, by omega, hlF, hi, hcell, rfl, rfl, rfl⟩
    rw [← ew]
    refine stx_ret (evx_tup (by walk_at "ev")) ?_
    have e3 : κ ++ [(R.map nI).map AV.d] ++ [(F.map nI).map AV.d] ++ [(W.map encOpt).map AV.d] = κ ++ [(R.map nI).map AV.d, (F.map nI).map AV.d, (W.map encOpt).map AV.d] := by simp
    rw [e3]
    exact Meets.same (by simp [low, lows])
end
end BY
end

section
set_option Elab.async false
set_option linter.all false
set_option maxRecDepth 100000
set_option maxHeartbeats 600000
namespace BY
open PySem PySem.Spec PyProof.Rows L2
open Evl (Ex ex_l ex_t)
/-! ### draws: a box is a list of ints and a number -/
structure GoodY (K : PySem.W.Frag) (f : List AV → Cells → AV → Cells → Prop) (pre : List AV → Cells → Prop) (t : TS) (n np : Nat) : Prop where
  len : ∀ {as κ}, pre as κ → as.length = np
  grow : ∀ {as κ a κ'}, f as κ a κ' → κ.length ≤ κ'.length
  run : ∀ {as κ}, pre as κ → (∀ xs ∈ κ, lows κ.length xs = true) → StX K t (as.map some ++ List.replicate (n - as.length) none) κ (okY (f as κ))
theorem hasY_of {P : Program} {w : World} {K : PySem.W.Frag} {mg : Str → Option Value} {base : Heap} {x : Str} {k : Nat} {N pars : List Str} {st : Stmt} {f : List AV → Cells → AV → Cells → Prop} {pre : List AV → Cells → Prop} {t : TS} (T : Top K mg x st pars) (S : FnScope N pars (defScope st)) (g : GoodY K f pre t N.length pars.length)
    (hd : ∀ (cdv : Value) (A : Around) (outer : List Env) (s : Shared) (H : Hp) (E : XK) (f : Addr) (hr : Room k (A.deeper (envOfC x (defScope st) s.heap.objs.size f cdv))), PSs (cxOf CX0 P w K mg base N x (defScope st) f cdv A outer s H E).nox (defBody st) t) :
    HasY P w K mg base x (k + 1) pars f pre := by
  obtain ⟨a, fd, F, hm, bd⟩ := T.ex
  exact ⟨a, fd, fn_y F S (fun _ _ q => g.len q) (fun _ _ _ _ q => g.grow q) (fun cdv A outer s H E hr => ⟨t, hd cdv A outer s H E a hr, fun as κ q l1 _ => g.run q l1⟩), hm, F.kp, bd⟩
def Box (κ : Cells) (b l : Nat) : Prop := ∃ (ns : List Int) (st : Int), κ[b]? = some [.c l, .d (.int st)] ∧ κ[l]? = some ((ns.map PyData.int).map .d) ∧ b ≠ l
structure BoxTo (b l : Nat) (κ κ' : Cells) : Prop where
  len : κ'.length = κ.length
  box : Box κ' b l
  oth : ∀ k, k ≠ b → k ≠ l → κ'[k]? = κ[k]?
theorem BoxTo.refl {b l : Nat} {κ : Cells} (h : Box κ b l) : BoxTo b l κ κ := ⟨rfl, h, fun _ _ _ => rfl⟩
theorem BoxTo.trans {b l : Nat} {κ κ1 κ2 : Cells} (h : BoxTo b l κ κ1) (h2 : BoxTo b l κ1 κ2) : BoxTo b l κ κ2 := ⟨h2.len.trans h.len, h2.box, fun k a c => (h2.oth k a c).trans (h.oth k a c)⟩
theorem Box.lt {κ : Cells} {b l : Nat} (h : Box κ b l) : b < κ.length ∧ l < κ.length := by
  obtain ⟨ns, st, h1, h2, _⟩ := h
  exact ⟨(List.getElem?_eq_some_iff.mp h1).1, (List.getElem?_eq_some_iff.mp h2).1⟩
theorem BoxTo.lows {b l : Nat} {κ κ' : Cells} (h : BoxTo b l κ κ') (hl : ∀ xs ∈ κ, lows κ.length xs = true) : ∀ xs ∈ κ', BY.lows κ'.length xs = true := fun xs hx => by
  obtain ⟨k, hk⟩ := List.getElem?_of_mem hx
  have hlt := h.box.lt
  obtain ⟨ns, st, h1, h2, _⟩ := h.box
  by_cases e1 : k = b
  · subst e1
    rw [h1] at hk
    cases hk
    simp [BY.lows, low, hlt.2]
  · by_cases e2 : k = l
    · subst e2
      rw [h2] at hk
      cases hk
      exact lows_data _
    · rw [h.oth k e1 e2] at hk
      rw [h.len]
      exact hl xs (List.mem_of_getElem? hk)
theorem BoxTo.app {b l : Nat} {κ κ' : Cells} {j j' : Cells} (h : BoxTo b l (κ ++ j) κ') (hb : Box κ b l) (hj : j.length = j'.length) (e : ∀ k, κ.length ≤ k → κ'[k]? = (κ ++ j')[k]?) : ∃ κ1, κ' = κ1 ++ j' ∧ BoxTo b l κ κ1 := by
  obtain ⟨lb, ll⟩ := hb.lt
  have hl : κ'.length = κ.length + j.length := by rw [h.len, List.length_append]
  refine ⟨κ'.take κ.length, ?_, ?_, ?_, ?_⟩
  · apply List.ext_getElem?
    intro k
    by_cases hk : k < κ.length
    · rw [List.getElem?_append_left (by rw [List.length_take]; omega), List.getElem?_take, if_pos hk]
    · rw [List.getElem?_append_right (by rw [List.length_take]; omega), e k (by omega), List.getElem?_append_right (by omega)]
      congr 1
      rw [List.length_take]
      omega
  · rw [List.length_take]; omega
  · obtain ⟨ns, st, h1, h2, h3⟩ := h.box
    refine ⟨ns, st, ?_, ?_, h3⟩
    · rw [List.getElem?_take, if_pos lb]; exact h1
    · rw [List.getElem?_take, if_pos ll]; exact h2
  · intro k k1 k2
    by_cases hk : k < κ.length
    · rw [List.getElem?_take, if_pos hk, h.oth k k1 k2, List.getElem?_append_left hk]
    · rw [List.getElem?_eq_none (by rw [List.length_take]; omega), List.getElem?_eq_none (by omega)]
theorem Box.app {κ j : Cells} {b l : Nat} (h : Box κ b l) : Box (κ ++ j) b l := by
  obtain ⟨lb, ll⟩ := h.lt
  obtain ⟨ns, st, h1, h2, h3⟩ := h
  exact ⟨ns, st, by rw [List.getElem?_append_left lb]; exact h1, by rw [List.getElem?_append_left ll]; exact h2, h3⟩
theorem Box.uniq {κ : Cells} {b l l' : Nat} (h : Box κ b l) (h' : Box κ b l') : l' = l := by
  obtain ⟨_, _, h1, _, _⟩ := h
  obtain ⟨_, _, g1, _, _⟩ := h'
  rw [h1] at g1
  cases g1
  rfl
def pre__law_take (as : List AV) (κ : Cells) : Prop := ∃ b l m, as = [.c b, .d (nI m)] ∧ Box κ b l ∧ 0 < m ∧ m < 2 ^ 64
def fy__law_take (as : List AV) (κ : Cells) (a : AV) (κ' : Cells) : Prop := ∃ b l m v, as = [.c b, .d (nI m)] ∧ Box κ b l ∧ v < m ∧ a = .d (nI v) ∧ BoxTo b l κ κ'
local macro_rules | `(tactic| walk_at "ev") => `(tactic| first
  | exact evx_var rfl | exact evx_int | exact evx_bl | exact evx_non | exact evx_str | exact evx_v | exact eva_nil
  | (apply eva_cons; (focus (walk_at "ev")); (focus (walk_at "ev")))
  | (apply evx_op; (focus (walk_at "ev")); (focus (walk_at "ev")); (focus (walk_at "rx")))
  | (apply evx_un; (focus (walk_at "ev")); (focus (exact ru_negI)))
  | (apply evx_tup2 <;> (walk_at "ev"))
  | (apply evx_tup3 <;> (walk_at "ev"))
  | (apply evx_slT; (focus (walk_at "ev")); (focus (walk_at "eo")); (focus (walk_at "eo")))
  | (apply evx_cb; (focus (walk_at "ev")); (focus (walk_at "rc")))
  | (apply evx_chain <;> (walk_at "ev"))
  | (apply evx_has; (focus (walk_at "ev")); (focus (walk_at "fx"))))
local macro_rules | `(tactic| walk_at "eo") => `(tactic| first | exact evo_none | exact evo_some (by walk_at "ev"))
local macro_rules | `(tactic| walk_at "fx") => `(tactic| first | exact ⟨_, _, _, rfl, rfl, rfl⟩ | exact ⟨_, _, rfl, rfl, rfl⟩ | exact ⟨_, rfl, rfl, rfl⟩)
local macro_rules | `(tactic| walk_at "rx") => `(tactic| first
  | exact rx_addI | exact rx_eqDI | exact rx_neDI | exact rx_ixT0 rfl | exact rx_ixT1 rfl | exact rx_ixT2 rfl | exact rx_ixT3 rfl | exact rx_ixT4 rfl | exact rx_isN | exact rx_notN | exact rx_int | exact rx_bl)
local macro_rules | `(tactic| walk_at "rc") => `(tactic| first
  | exact rc_isi .d (kb_bool _) | exact rc_isi .d (kb_int _) | exact rc_isi .d (kb_tuple _) | exact rc_isi .d (kb_list _) | exact rc_isi .d (kb_str _) | exact rc_lenT | exact rc_lenL | exact rc_any | exact rc_all)
def t__law_take (K : PySem.W.Frag) (w : World) : TS := (tSeq (tIfS (tTest (tOp (rEqD K) (tOp (rIx K) (tVar 0) (tC (.int 0))) (tLst tNil))) (tSeq (tAsg (tOp (rI (fun _ j => 0 < j) fun i j => .int (i % j)) (tOp (rI CMul fun i j => .int (i * j)) (tOp (rIx K) (tVar 0) (tC (.int 1))) (tC (.int 48271))) (tC (.int 2147483647))) (gSub (tVar 0) (tC (.int 1)) rSetL)) (tRet (tOp (rI (fun _ j => 0 < j) fun i j => .int (i % j)) (tOp (rI CDivW fun i j => .int (i / j)) (tOp (rIx K) (tVar 0) (tC (.int 1))) (tC (.int 7))) (tVar 1)))) tNext) (tSeq (tAsg (tOp (rIx K) (tOp (rIx K) (tVar 0) (tC (.int 0))) (tC (.int 0))) (gName 2)) (tSeq (tAsg (tOp (rI CDivW fun i j => .int (i / j)) (tVar 2) (tVar 1)) (gSub (tOp (rIx K) (tVar 0) (tC (.int 0))) (tC (.int 0)) rSetL)) (tSeq (tIfS (tOr (tTest (tOp (rEqD K) (tOp (rIx K) (tOp (rIx K) (tVar 0) (tC (.int 0))) (tC (.int 0))) (tC (.int 0)))) (tTest (tOp (rEqD K) (tOp (rIx K) (tOp (rIx K) (tVar 0) (tC (.int 0))) (tC (.int 0))) (tUn (rU fun i => .int (-i)) (tC (.int 1)))))) (tDrop (tBM K "list" rPopAt (tOp (rIx K) (tVar 0) (tC (.int 0))) (tCons (tC (.int 0)) tNil))) tNext) (tRet (tOp (rI (fun _ j => 0 < j) fun i j => .int (i % j)) (tVar 2) (tVar 1)))))))
section
variable {K : PySem.W.Frag} {w : World} {κ κ1 κ2 : Cells} {δ : Slots} {tm : TE}
theorem nI_mod {x : Int} {m : Nat} (hm : 0 < m) : ∃ v, v < m ∧ AV.d (PyData.int (x % (m : Int))) = AV.d (nI v) := by
  refine ⟨(x % (m : Int)).toNat, ?_, ?_⟩
  · have h1 := Int.emod_nonneg x (show (m : Int) ≠ 0 by omega)
    have h2 := Int.emod_lt_of_pos x (show (0 : Int) < m by omega)
    omega
  · have h1 := Int.emod_nonneg x (show (m : Int) ≠ 0 by omega)
    show AV.d (PyData.int _) = AV.d (PyData.int _)
    rw [Int.toNat_of_nonneg h1]
theorem divW {i : Int} {m : Nat} (hm : 0 < m) (hb : m < 2 ^ 64) : CDivW i (m : Int) := wide_div (b := 64) (by omega) (by omega) (by decide) (by decide)
theorem shaped_ints (ns : List Int) : SeqAt.shaped (.list (ns.map PyData.int)) = true := by
  have h1 : ∀ d : List Int, PyData.canLayAll0 (d.map PyData.int) = true := by
    intro d
    induction d with
    | nil => rfl
    | cons x d ih => simp only [List.map_cons, PyData.canLayAll0, ih]; rfl
  have h2 : ∀ d : List Int, PyData.depthAll (d.map PyData.int) = 0 := by
    intro d
    induction d with
    | nil => simp [PyData.depthAll]
    | cons x d ih =>
      have h2 : (PyData.int x).depth = 0 := rfl
      simp only [List.map_cons, PyData.depthAll, ih, h2]
      rfl
  have h3 : (PyData.list (ns.map PyData.int)).depth ≤ 64 := by simp only [PyData.depth, h2]; omega
  show (PyData.canLay0 (.list (ns.map PyData.int)) && decide ((PyData.list (ns.map PyData.int)).depth ≤ 64)) = true
  rw [Bool.and_eq_true]
  exact ⟨by simp only [PyData.canLay0]; exact h1 ns, decide_eq_true h3⟩
theorem set_other {κ : Cells} {i j : Nat} {x : List AV} (h : i ≠ j) : (κ.set i x)[j]? = κ[j]? := List.getElem?_set_ne h
theorem set_self {κ : Cells} {i : Nat} {x : List AV} (h : i < κ.length) : (κ.set i x)[i]? = some x := List.getElem?_set_self h
theorem good__law_take : GoodY K fy__law_take pre__law_take (t__law_take K w) 3 2 where
  len := by rintro as κ ⟨b, l, m, rfl, _⟩; rfl
  grow := by rintro as κ a κ' ⟨b, l, m, v, _, _, _, _, h⟩; rw [h.len]; exact Nat.le_refl _
  run := by
    rintro as κ ⟨b, l, m, rfl, ⟨ns, st, h1, h2, h3⟩, hm, hm2⟩ hl
    obtain ⟨lb, ll⟩ := Box.lt (κ := κ) (b := b) (l := l) ⟨ns, st, h1, h2, h3⟩
    show StX K (t__law_take K w) [some (.c b), some (.d (nI m)), none] κ _
    have q0 : ∀ δ', δ'[0]? = some (some (.c b)) → EvX K (tOp (rIx K) (tVar 0) (tC (.int 0))) δ' κ (.c l) κ := fun δ' hδ => evx_op (evx_var hδ) evx_int (rx_ixCg (i := 0) h1 rfl)
    have fin : ∀ (x : Int) (κ1 : Cells), BoxTo b l κ κ1 → okY (fy__law_take [.c b, .d (nI m)] κ) (.rt (.d (.int (x % (m : Int)))) κ1) := fun x κ1 hbt => by
      obtain ⟨v, hv, e⟩ := nI_mod (x := x) hm
      rw [e]
      exact ⟨_, κ1, ⟨b, l, m, v, rfl, ⟨ns, st, h1, h2, h3⟩, hv, rfl, hbt⟩, hbt.lows hl, Meets.same (by simp [low])⟩
    have qe : EvB K (tTest (tOp (rEqD K) (tOp (rIx K) (tVar 0) (tC (.int 0))) (tLst tNil))) [some (.c b), some (.d (nI m)), none] κ (PyData.eqv (.list (ns.map .int)) (.list [])) κ :=
      evb_test (evx_op (q0 _ rfl) (evx_lstD (ds := []) eva_nil) (rx_eqD (.c h2 (avds_data _ _)) .d (shaped_ints ns) (by rfl)))
    cases ns with
    | nil =>
      refine stx_seq' (stx_ifT (evb_eq qe (by simp [PyData.eqv, PyData.eqvAll])) (stx_seq' (stx_setC (k := b) (j := 1) (xs := [.c l, .d (.int st)]) (evx_op (evx_op (evx_op (by walk_at "ev") (by walk_at "ev") (rx_ixCg (i := 1) h1 rfl)) (by walk_at "ev") (rx_intC (.inr ⟨by decide, by decide⟩))) (by walk_at "ev") (rx_intC (by decide))) (by walk_at "ev") (by walk_at "ev") h1 (by simp) ?_)))
      generalize hs : st * 48271 % 2147483647 = st'
      have g1 : (κ.set b ([AV.c l, AV.d (.int st)].set 1 (.d (.int st'))))[b]? = some [.c l, .d (.int st')] := set_self lb
      refine stx_ret (evx_op (evx_op (evx_op (by walk_at "ev") (by walk_at "ev") (rx_ixCg (i := 1) g1 rfl)) (by walk_at "ev") (rx_intC ⟨by decide, by decide⟩)) (by walk_at "ev") (rx_intC (show (0 : Int) < (m : Int) by omega))) ?_
      refine fin _ _ ?_
      exact ⟨List.length_set .., ⟨[], st', g1, by rw [set_other h3]; exact h2, h3⟩, fun k k1 k2 => set_other (fun z => k1 z.symm)⟩
    | cons n ns =>
      refine stx_seq' (stx_ifF (evb_eq qe (by simp [PyData.eqv, PyData.eqvAll])) (stx_next ?_))
      refine stx_seq' (stx_asg (evx_op (q0 _ rfl) (by walk_at "ev") (rx_ixCg (i := 0) (d := .d (.int n)) h2 rfl)) ?_)
      show StX K _ [some (.c b), some (.d (nI m)), some (.d (.int n))] κ _
      refine stx_seq' (stx_setC (k := l) (j := 0) (xs := ((n :: ns).map PyData.int).map .d) (evx_op (by walk_at "ev") (by walk_at "ev") (rx_intC (divW hm hm2))) (q0 _ rfl) (by walk_at "ev") h2 (by simp) ?_)
      generalize hn : n / (m : Int) = n'
      have eC : ((((n :: ns).map PyData.int).map AV.d).set 0 (.d (.int n'))) = (((n' :: ns).map PyData.int).map AV.d) := rfl
      rw [eC]
      generalize hκ : κ.set l (((n' :: ns).map PyData.int).map AV.d) = κ1
      have g1 : κ1[b]? = some [.c l, .d (.int st)] := by rw [← hκ, set_other (fun z => h3 z.symm)]; exact h1
      have g2 : κ1[l]? = some (((n' :: ns).map PyData.int).map AV.d) := by rw [← hκ]; exact set_self ll
      have gl : κ1.length = κ.length := by rw [← hκ]; exact List.length_set ..
      have gB : BoxTo b l κ κ1 := ⟨gl, ⟨_, st, g1, g2, h3⟩, fun k k1 k2 => by rw [← hκ]; exact set_other (fun z => k2 z.symm)⟩
      have q1 : EvX K (tOp (rIx K) (tVar 0) (tC (.int 0))) [some (.c b), some (.d (nI m)), some (.d (.int n))] κ1 (.c l) κ1 := evx_op (evx_var rfl) evx_int (rx_ixCg (i := 0) g1 rfl)
      have q2 : EvX K (tOp (rIx K) (tOp (rIx K) (tVar 0) (tC (.int 0))) (tC (.int 0))) [some (.c b), some (.d (nI m)), some (.d (.int n))] κ1 (.d (.int n')) κ1 := evx_op q1 evx_int (rx_ixCg (i := 0) g2 rfl)
      have qr : ∀ κ2, BoxTo b l κ κ2 → StX K (tRet (tOp (rI (fun _ j => 0 < j) fun i j => .int (i % j)) (tVar 2) (tVar 1))) [some (.c b), some (.d (nI m)), some (.d (.int n))] κ2 (okY (fy__law_take [.c b, .d (nI m)] κ)) := fun κ2 hB =>
        stx_ret (evx_op (by walk_at "ev") (by walk_at "ev") (rx_intC (show (0 : Int) < (m : Int) by omega))) (fin _ _ hB)
      have qp : StX K (tDrop (tBM K "list" rPopAt (tOp (rIx K) (tVar 0) (tC (.int 0))) (tCons (tC (.int 0)) tNil))) [some (.c b), some (.d (nI m)), some (.d (.int n))] κ1 (andThen (okY (fy__law_take [.c b, .d (nI m)] κ)) fun δ' κ' => StX K (tRet (tOp (rI (fun _ j => 0 < j) fun i j => .int (i % j)) (tVar 2) (tVar 1))) δ' κ' (okY (fy__law_take [.c b, .d (nI m)] κ))) := by
        refine stx_drop (evx_bm q1 g2 (by walk_at "ev") (rm_pop0 g2)) (qr _ ?_)
        exact gB.trans ⟨List.length_set .., ⟨ns, st, by rw [set_other (fun z => h3 z.symm)]; exact g1, set_self (by rw [gl]; exact ll), h3⟩, fun k k1 k2 => set_other (fun z => k2 z.symm)⟩
      by_cases c0 : n' = 0
      · exact stx_seq' (stx_ifT (evb_orT (evb_eq (evb_test (evx_op q2 (by walk_at "ev") rx_eqDI)) (decide_eq_true c0))) qp)
      · have e0 : EvB K (tTest (tOp (rEqD K) (tOp (rIx K) (tOp (rIx K) (tVar 0) (tC (.int 0))) (tC (.int 0))) (tC (.int 0)))) [some (.c b), some (.d (nI m)), some (.d (.int n))] κ1 false κ1 := evb_eq (evb_test (evx_op q2 (by walk_at "ev") rx_eqDI)) (decide_eq_false c0)
        by_cases c1 : n' = -1
        · exact stx_seq' (stx_ifT (evb_orF e0 (evb_eq (evb_test (evx_op q2 (by walk_at "ev") rx_eqDI)) (decide_eq_true c1))) qp)
        · exact stx_seq' (stx_ifF (evb_orF e0 (evb_eq (evb_test (evx_op q2 (by walk_at "ev") rx_eqDI)) (decide_eq_false c1))) (stx_next (qr κ1 gB)))
end
end BY
end

section
set_option Elab.async false
set_option linter.all false
set_option maxRecDepth 100000
set_option maxHeartbeats 600000
namespace BY
open PySem PySem.Spec PyProof.Rows L2
open Evl (Ex ex_l ex_t)
section
variable {K : PySem.W.Frag} {w : World} {δ δ' : Slots} {κ κ1 κ2 κ3 : Cells} {ta tb tc te tl tm : TE} {t u tt : TT} {tas : TA} {as : List AV} {wi : TI} {g : TG} {n : Nat} {it : Nat → AV} {Po : AV → Cells → Prop}
/-! ### a comprehension whose turns draw -/
theorem lc_coreY {vs : List Nat} {Inv : Cells → Prop} (I : Nat → List AV → Cells → Prop) (S : Src K wi δ κ n it κ1 Inv) (hn : n ≤ 100000) (h0 : I 0 [] κ1) (hI : ∀ i acc κ', I i acc κ' → Inv κ')
    (hs : ∀ (i : Nat) acc κ', i < n → I i acc κ' → ∃ δ2 js, GX K g (it i) (wipeE δ vs) δ2 js ∧ (∀ j ∈ js, j ∈ vs) ∧ EvYB K tt δ2 κ' (fun c κa => if c = true then EvY K te δ2 κa (fun y κb => I (i + 1) (acc ++ [y]) κb) else I (i + 1) acc κa))
    {G H : Hp} {ps : List Addr} {σ : L2.St} {Q : VK} (R : Rep K G H ps κ) (E : EnvR K G ps σ δ)
    (hd : ∀ Dl H1 H' G1 G' p1 ps' acc κ' vs', Stp G H ps G1 H1 p1 → H1 Dl = none → LcAt K G1 H1 p1 Dl (I n) n H' G' ps' acc κ' vs' → Q (.ref Dl) H') : tLc wi g tt te vs σ H Q :=
  S G H ps σ R E _ fun J G1 H1 p1 s R1 hJ Dl hD => by
    refine ⟨fun i m H' => m = n - i ∧ i ≤ n ∧ ∃ G' ps' acc κ' vs', LcAt K G1 H1 p1 Dl (I i) i H' G' ps' acc κ' vs', ⟨n, by simp, Nat.zero_le _, G1, p1, [], κ1, [], ⟨side_stp .refl hD, side_rep R1 (ex_none R1.sub hD) (not_ps R1 hD), upd_same, .nil, h0, ex_none R1.sub hD, not_ps R1 hD, Nat.le_refl _⟩⟩, ?_⟩
    rintro i m H' ⟨rfl, hi, G2, p2, acc, κ2, vs2, L⟩
    obtain ⟨j1, j2⟩ := hJ G2 H' p2 κ2 i L.s L.R (hI i acc κ2 L.q)
    by_cases hlt : i < n
    · obtain ⟨go, yl⟩ := j1 hlt
      refine .inr ⟨go, fun H'' => ∃ G' ps' acc κ' vs', LcAt K G1 H1 p1 Dl (I (i + 1)) (i + 1) H'' G' ps' acc κ' vs', fun H3 p' => ⟨n - (i + 1), by omega, rfl, hlt, p'⟩, fun x H3 y => ?_⟩
      obtain ⟨G3, s3, R3, r3⟩ := yl x H3 y
      obtain ⟨δ4, js, hg, hj, hb⟩ := hs i acc κ2 hlt L.q
      have s03 := L.s.trans R1.sub s3
      have E3 := (s03.env (s.env E)).wipe vs
      refine hg G3 H3 p2 _ x R3.sub r3 E3 _ fun σ4 E4 o4 => ⟨wipe_same o4 hj, hb G3 H3 p2 σ4 R3 E4 _ fun c κa G5 H5 p5 hc s5 R5 => ?_⟩
      have s05 := s03.trans R1.sub s5
      have d3 : H3 Dl = some (.lst vs2) := s3.keep _ _ L.dl L.pD
      have g3 := s3.keepG L.dl L.gD
      have q3 := s3.keepP L.dl L.pD
      have d5 : H5 Dl = some (.lst vs2) := s5.keep _ _ d3 q3
      have g5 := s5.keepG d3 g3
      have q5 := s5.keepP d3 q3
      cases c with
      | true =>
        show te σ4 H5 _
        refine hc G5 H5 p5 σ4 R5 (s5.env E4) _ fun v yv κb G6 H6 p6 hq s6 R6 r6 => ?_
        have d6 : H6 Dl = some (.lst vs2) := s6.keep _ _ d5 q5
        have g6 := s6.keepG d5 g5
        have q6 := s6.keepP d5 q5
        have rr : VRs K G6 p6 vs2 acc := s6.vrs (s5.vrs (s3.vrs L.r))
        have hlen : vs2.length ≤ i := by rw [vrs_len rr]; exact L.le
        refine ⟨vs2, d6, Evl.sz_lt (by omega), G6, p6, acc ++ [yv], κb, vs2 ++ [v], side_stp (s05.trans R1.sub s6) hD, side_rep R6 g6 q6, upd_same, vrs_app rr (.cons r6 .nil), hq, g6, q6, ?_⟩
        have := L.le
        rw [List.length_append, List.length_singleton]
        omega
      | false =>
        exact ⟨G5, p5, acc, κa, vs2, s05, R5, d5, s5.vrs (s3.vrs L.r), hc, g5, q5, Nat.le_succ_of_le L.le⟩
    · have e : i = n := by omega
      subst e
      exact .inl ⟨j2 rfl, hd Dl H1 H' G1 G2 p1 p2 acc κ2 vs2 s hD L⟩
theorem evy_lcD {vs : List Nat} {Inv : Cells → Prop} (I : Nat → List AV → Cells → Prop) (S : Src K wi δ κ n it κ1 Inv) (hn : n ≤ 100000) (h0 : I 0 [] κ1) (hI : ∀ i acc κ', I i acc κ' → Inv κ')
    (hs : ∀ (i : Nat) acc κ', i < n → I i acc κ' → ∃ δ2 js, GX K g (it i) (wipeE δ vs) δ2 js ∧ (∀ j ∈ js, j ∈ vs) ∧ EvYB K tt δ2 κ' (fun c κa => if c = true then EvY K te δ2 κa (fun y κb => I (i + 1) (acc ++ [y]) κb) else I (i + 1) acc κa))
    (hd : ∀ acc κ', I n acc κ' → ∃ ds, acc = ds.map AV.d ∧ Po (.d (.list ds)) κ') : EvY K (tLc wi g tt te vs) δ κ Po := fun G H ps σ R E Q q =>
  lc_coreY I S hn h0 hI hs R E fun Dl H1 H' G1 G' p1 ps' acc κ' vs' s hD L => by
    obtain ⟨ds, rfl, hP⟩ := hd acc κ' L.q
    have e1 : Ex G' (upd G' Dl (.lst vs')) := ex_up L.gD
    have s2 : Stp G1 H1 p1 (upd G' Dl (.lst vs')) H' ps' := ⟨fun p o h => e1 p o (L.s.g p o h), L.s.pre, L.s.keep, L.s.kept, fun p o h => by
      by_cases z : p = Dl
      · subst z; exact .inr hD
      · rw [upd_ne z] at h; exact L.s.fresh p o h⟩
    refine q _ _ κ' (upd G' Dl (.lst vs')) H' ps' hP (s.trans R.sub s2) ⟨fun p o h => ?_, L.R.nd, L.R.len, fun k p xs hp hk => ?_⟩ (.d (.lst (.inl (.inl upd_same)) (dpAll_mono e1 _ _ (vrs_dpAll L.r))))
    · by_cases z : p = Dl
      · subst z; rw [upd_same] at h; cases h; exact L.dl
      · rw [upd_ne z] at h; exact L.R.sub p o h
    · obtain ⟨gg, ws, e, r⟩ := L.R.cell k p xs hp hk
      refine ⟨?_, ws, e, vrs_mono e1 (qs := []) (by simp) _ _ r⟩
      rw [upd_ne (fun z => L.pD (by rw [← z]; exact List.mem_of_getElem? hp))]
      exact gg
theorem evy_lcC {vs : List Nat} {Inv : Cells → Prop} (I : Nat → List AV → Cells → Prop) (S : Src K wi δ κ n it κ1 Inv) (hn : n ≤ 100000) (h0 : I 0 [] κ1) (hI : ∀ i acc κ', I i acc κ' → Inv κ')
    (hs : ∀ (i : Nat) acc κ', i < n → I i acc κ' → ∃ δ2 js, GX K g (it i) (wipeE δ vs) δ2 js ∧ (∀ j ∈ js, j ∈ vs) ∧ EvYB K tt δ2 κ' (fun c κa => if c = true then EvY K te δ2 κa (fun y κb => I (i + 1) (acc ++ [y]) κb) else I (i + 1) acc κa))
    (hd : ∀ acc κ', I n acc κ' → Po (.c κ'.length) (κ' ++ [acc])) : EvY K (tLc wi g tt te vs) δ κ Po := fun G H ps σ R E Q q =>
  lc_coreY I S hn h0 hI hs R E fun Dl H1 H' G1 G' p1 ps' acc κ' vs' s hD L => by
    have hP := hd acc κ' L.q
    obtain ⟨qs, eq, fq⟩ := L.s.pre
    have s2 : Stp G1 H1 p1 G' H' (ps' ++ [Dl]) := ⟨L.s.g, ⟨qs ++ [Dl], by rw [eq, List.append_assoc], fun p hp => by
      rcases List.mem_append.mp hp with z | z
      · exact fq p z
      · rw [List.mem_singleton.mp z]; exact hD⟩, L.s.keep, L.s.kept, L.s.fresh⟩
    refine q _ _ _ G' H' (ps' ++ [Dl]) hP (s.trans R.sub s2) ⟨L.R.sub, ?_, by simp [L.R.len], fun k p xs hp hk => ?_⟩ (.c (by rw [← L.R.len, List.getElem?_append_right (Nat.le_refl _)]; simp))
    · rw [List.nodup_append]
      refine ⟨L.R.nd, by simp, fun a ha b hb => ?_⟩
      rw [List.mem_singleton.mp hb]
      intro z
      subst z
      exact L.pD ha
    · by_cases hl : k < ps'.length
      · rw [List.getElem?_append_left hl] at hp
        rw [List.getElem?_append_left (by rw [← L.R.len]; exact hl)] at hk
        obtain ⟨gg, ws, e, r2⟩ := L.R.cell k p xs hp hk
        exact ⟨gg, ws, e, vrs_mono (fun _ _ e => e) rfl _ _ r2⟩
      · have e1 : k = ps'.length := by
          have := (List.getElem?_eq_some_iff.mp hp).1
          simp at this
          omega
        subst e1
        rw [List.getElem?_append_right (Nat.le_refl _)] at hp
        have e2 : κ'.length = ps'.length := L.R.len.symm
        rw [List.getElem?_append_right (by rw [e2]; exact Nat.le_refl _), e2] at hk
        simp at hp hk
        subst hp hk
        exact ⟨L.gD, vs', L.dl, vrs_mono (fun _ _ e => e) rfl _ _ L.r⟩
/-! ### draws within expressions -/
theorem evy_take {b l i : Nat} (hb : δ[i]? = some (some (.c b))) (hB : Box κ b l) (hm : EvY K tm δ κ (fun a κ1 => ∃ m, a = .d (nI m) ∧ 0 < m ∧ m < 2 ^ 64 ∧ Box κ1 b l ∧ ∀ v κ2, v < m → BoxTo b l κ1 κ2 → Po (.d (nI v)) κ2)) :
    EvY K (tHasY K fy__law_take pre__law_take (tCons (tVar i) (tCons tm tNil))) δ κ Po :=
  evy_has (evys_cons (evy_of (Po := fun x κ1 => x = .c b ∧ κ1 = κ) (evx_var hb) ⟨rfl, rfl⟩) fun x κ1 ⟨e1, e2⟩ => by
    subst e1 e2
    refine evys_cons hm fun y κ2 ⟨m, e3, m0, m1, hB2, hv⟩ => evys_nil ?_
    subst e3
    refine ⟨⟨b, l, m, rfl, hB2, m0, m1⟩, fun a κ3 ⟨b', l', m', v, e, hB', hlt, ea, hbt⟩ => ?_⟩
    cases e
    subst ea
    have := hB2.uniq hB'
    subst this
    exact hv v κ3 hlt hbt)
theorem evy_takeC {b l i m : Nat} (hb : δ[i]? = some (some (.c b))) (hB : Box κ b l) (m0 : 0 < m) (m1 : m < 2 ^ 64) (h : EvX K tm δ κ (.d (nI m)) κ) (hv : ∀ v κ2, v < m → BoxTo b l κ κ2 → Po (.d (nI v)) κ2) :
    EvY K (tHasY K fy__law_take pre__law_take (tCons (tVar i) (tCons tm tNil))) δ κ Po := evy_take hb hB (evy_of h ⟨m, rfl, m0, m1, hB, hv⟩)
theorem evys_consC {x : AV} {Pl : List AV → Cells → Prop} (h1 : EvX K ta δ κ x κ) (h2 : EvYs K tas δ κ (fun xs κ2 => Pl (x :: xs) κ2)) : EvYs K (tCons ta tas) δ κ Pl :=
  evys_cons (P1 := fun y κ1 => y = x ∧ κ1 = κ) (evy_of h1 ⟨rfl, rfl⟩) fun y κ1 ⟨e1, e2⟩ => by rw [e1, e2]; exact h2
theorem add_nI (a b : Nat) : AV.d (PyData.int ((a : Int) + (b : Int))) = AV.d (nI (a + b)) := rfl
theorem evy_addC {a : Nat} (h : EvY K tb δ κ (fun x κ1 => ∃ v, x = .d (nI v) ∧ Po (.d (nI (a + v))) κ1)) : EvY K (tOp (rAddG K) (tC (.int (a : Int))) tb) δ κ Po :=
  evy_op (P1 := fun x κ1 => x = .d (nI a) ∧ κ1 = κ) (evy_of (evx_c fun _ => .int _) ⟨rfl, rfl⟩) fun x κ1 ⟨e1, e2⟩ => by
    subst e1 e2
    exact h.mono fun y κ2 ⟨v, e, hp⟩ => ⟨_, κ2, by rw [e]; exact rx_addI, hp⟩
theorem evy_lstD {ds : List AV → List PyData} (h : EvYs K tas δ κ (fun as κ' => as = (ds as).map AV.d ∧ as.length ≤ 100000 ∧ Po (.d (.list (ds as))) κ')) : EvY K (tLst tas) δ κ Po := fun G H ps σ R E Q q =>
  h G H ps σ R E _ fun vs as κ1 G1 H1 p1 ⟨e, hl, hp⟩ s1 R1 r1 => by
    rw [e] at r1
    refine ⟨by rw [vrs_len r1, ← e]; exact Evl.sz_of hl, fun p hp' => q _ _ _ _ _ p1 hp (s1.trans R.sub (stp_new R1.sub hp')) (rep_new R1 hp')
      (.d (.lst (.inl (.inl upd_same)) (dpAll_mono (ex_up (ex_none R1.sub hp')) _ _ (vrs_dpAll r1))))⟩
/-- an item of a written list of numbers, drawn -/
theorem evy_menu {ds : List Nat} {b l i m : Nat} (hb : δ[i]? = some (some (.c b))) (hB : Box κ b l) (hl : EvX K ta δ κ (.d (.list (ds.map nI))) κ) (m0 : 0 < m) (m1 : m < 2 ^ 64) (hm : m = ds.length) (h : EvX K tm δ κ (.d (nI m)) κ) (hv : ∀ x κ2, x ∈ ds → BoxTo b l κ κ2 → Po (.d (nI x)) κ2) :
    EvY K (tOp (rIx K) ta (tHasY K fy__law_take pre__law_take (tCons (tVar i) (tCons tm tNil)))) δ κ Po :=
  evy_op (P1 := fun x κ1 => x = .d (.list (ds.map nI)) ∧ κ1 = κ) (evy_of hl ⟨rfl, rfl⟩) fun x κ1 ⟨e1, e2⟩ => by
    subst e1 e2
    refine evy_takeC hb hB m0 m1 h fun v κ2 hlt hbt => ?_
    obtain ⟨x, hx⟩ := get_of (xs := ds) (i := v) (by omega)
    exact ⟨_, κ2, rx_ixLDg (get_map hx), hv x κ2 (List.mem_of_getElem? hx) hbt⟩
theorem BoxTo.split {b l : Nat} {κ1 j : Cells} (h : BoxTo b l (κ1 ++ j) κ3) (hB : Box κ1 b l) : ∃ κ1', κ3 = κ1' ++ j ∧ BoxTo b l κ1 κ1' :=
  h.app hB rfl fun k hk => h.oth k (by have := hB.lt; omega) (by have := hB.lt; omega)
end
def pre__law_begun (as : List AV) (κ : Cells) : Prop := ∃ ns : List Int, as = [.d (.list (ns.map .int))] ∧ ns.length ≤ 1000
def fy__law_begun (as : List AV) (κ : Cells) (a : AV) (κ' : Cells) : Prop := a = .c (κ.length + 1) ∧ ∃ (ns : List Int) (st : Int), κ' = κ ++ [(ns.map PyData.int).map .d, [.c κ.length, .d (.int st)]]
def pre__law_road (as : List AV) (κ : Cells) : Prop := ∃ b l n, as = [.c b, .d (nI n)] ∧ Box κ b l ∧ 2 ≤ n ∧ n ≤ 6
def fy__law_road (as : List AV) (κ : Cells) (a : AV) (κ' : Cells) : Prop := ∃ b l n r, as = [.c b, .d (nI n)] ∧ Box κ b l ∧ RoadOk n r ∧ a = .d (encRoad r) ∧ BoxTo b l κ κ'
def pre__law_plan (as : List AV) (κ : Cells) : Prop := ∃ b l, as = [.c b] ∧ Box κ b l
def fy__law_plan (as : List AV) (κ : Cells) (a : AV) (κ' : Cells) : Prop := ∃ b l p, as = [.c b] ∧ Box κ b l ∧ PlanOk p ∧ a = .d (encPlan p) ∧ BoxTo b l κ κ'
def pre__law_down (as : List AV) (κ : Cells) : Prop := ∃ b l p m, as = [.c b, .d (encPlan p), .d (nI m)] ∧ Box κ b l ∧ PlanOk p ∧ 0 < m ∧ m < 2 ^ 64
def fy__law_down (as : List AV) (κ : Cells) (a : AV) (κ' : Cells) : Prop := ∃ b l p m d, as = [.c b, .d (encPlan p), .d (nI m)] ∧ Box κ b l ∧ DownOk p d ∧ d.length ≤ 24 ∧ a = .d (encDown d) ∧ BoxTo b l κ κ'
local macro_rules | `(tactic| walk_at "ev") => `(tactic| first
  | exact evx_var rfl | exact evx_int | exact evx_bl | exact evx_non | exact evx_str | exact evx_v | exact eva_nil
  | (apply eva_cons; (focus (walk_at "ev")); (focus (walk_at "ev")))
  | (apply evx_op; (focus (walk_at "ev")); (focus (walk_at "ev")); (focus (walk_at "rx")))
  | (apply evx_un; (focus (walk_at "ev")); (focus (exact ru_negI)))
  | (apply evx_tup2 <;> (walk_at "ev"))
  | (apply evx_tup3 <;> (walk_at "ev"))
  | (apply evx_slT; (focus (walk_at "ev")); (focus (walk_at "eo")); (focus (walk_at "eo")))
  | (apply evx_cb; (focus (walk_at "ev")); (focus (walk_at "rc")))
  | (apply evx_chain <;> (walk_at "ev"))
  | (apply evx_has; (focus (walk_at "ev")); (focus (walk_at "fx"))))
local macro_rules | `(tactic| walk_at "eo") => `(tactic| first | exact evo_none | exact evo_some (by walk_at "ev"))
local macro_rules | `(tactic| walk_at "fx") => `(tactic| first | exact ⟨_, _, _, rfl, rfl, rfl⟩ | exact ⟨_, _, rfl, rfl, rfl⟩ | exact ⟨_, rfl, rfl, rfl⟩)
local macro_rules | `(tactic| walk_at "rx") => `(tactic| first
  | exact rx_addI | exact rx_eqDI | exact rx_neDI | exact rx_ixT0 rfl | exact rx_ixT1 rfl | exact rx_ixT2 rfl | exact rx_ixT3 rfl | exact rx_ixT4 rfl | exact rx_isN | exact rx_notN | exact rx_int | exact rx_bl)
local macro_rules | `(tactic| walk_at "rc") => `(tactic| first
  | exact rc_isi .d (kb_bool _) | exact rc_isi .d (kb_int _) | exact rc_isi .d (kb_tuple _) | exact rc_isi .d (kb_list _) | exact rc_isi .d (kb_str _) | exact rc_lenT | exact rc_lenL | exact rc_any | exact rc_all)
def t__law_begun (K : PySem.W.Frag) (w : World) : TS := (tSeq (tAsg (tC (.int 0)) (gName 1)) (tSeq (tFor (iSeq K (tVar 0)) (gName 2) (tAsg (tOp (rI (fun _ j => 0 < j) fun i j => .int (i % j)) (tOp (rAddG K) (tOp (rAddG K) (tOp (rI CMul fun i j => .int (i * j)) (tVar 1) (tC (.int 48271))) (tOp (rI CMul fun i j => .int (i * j)) (tVar 2) (tC (.int 69621)))) (tC (.int 11))) (tC (.int 2147483647))) (gName 1))) (tRet (tLst (tCons (tCB (rLst K) (tCons (tVar 0) tNil)) (tCons (tOp (rI CMul fun i j => .int (i * j)) (tVar 1) (tCB rInt1 (tCons (tOp (rI0 fun i j => .bl (decide (j < i))) (tCB (rLn K) (tCons (tVar 0) tNil)) (tC (.int 2))) tNil))) tNil))))))
def t__law_road (K : PySem.W.Frag) (w : World) : TS := (tSeq (tAsg (tOp (rAddG K) (tC (.int 1)) (tHasY K fy__law_take pre__law_take (tCons (tVar 0) (tCons (tOp (rI0 fun i j => .int (i - j)) (tVar 1) (tC (.int 1))) tNil)))) (gName 2)) (tSeq (tPar 3 4 (tCons (tHasY K fy__law_take pre__law_take (tCons (tVar 0) (tCons (tVar 2) tNil))) (tCons (tOp (rAddG K) (tC (.int 1)) (tHasY K fy__law_take pre__law_take (tCons (tVar 0) (tCons (tOp (rIx K) (tLst (tCons (tC (.int 2)) (tCons (tC (.int 9)) tNil))) (tHasY K fy__law_take pre__law_take (tCons (tVar 0) (tCons (tC (.int 2)) tNil)))) tNil)))) tNil))) (tSeq (tAsg (tIf (tTest (tOp (rEqD K) (tHasY K fy__law_take pre__law_take (tCons (tVar 0) (tCons (tC (.int 2)) tNil))) (tC (.int 0)))) (tCB (rTpl K) (tCons (tLc (iRng1 (tCons (tC (.int 4)) tNil)) (gName 6) (tTest (tOp (rI0 fun i j => .bl (decide (j < i))) (tHasY K fy__law_take pre__law_take (tCons (tVar 0) (tCons (tC (.int 4)) tNil))) (tC (.int 0)))) (tVar 6) [6]) tNil)) (tTup (tCons (tC (.int 0)) (tCons (tC (.int 1)) (tCons (tC (.int 2)) (tCons (tC (.int 3)) tNil)))))) (gName 5)) (tRet (tTup (tCons (tVar 3) (tCons (tVar 2) (tCons (tVar 4) (tCons (tOp (rAddG K) (tC (.int 1)) (tHasY K fy__law_take pre__law_take (tCons (tVar 0) (tCons (tC (.int 3)) tNil)))) (tCons (tVar 5) tNil))))))))))
section
variable {K : PySem.W.Frag} {w : World} {κ κ1 κ2 : Cells} {δ : Slots} {tm : TE}
theorem begun_ok {ns : List Int} (st : Int) (hl : ∀ xs ∈ κ, lows κ.length xs = true) : okY (fy__law_begun [.d (.list (ns.map .int))] κ) (.rt (.c (κ.length + 1)) (κ ++ [(ns.map PyData.int).map .d] ++ [[.c κ.length, .d (.int st)]])) := by
  refine ⟨.c (κ.length + 1), κ ++ [(ns.map PyData.int).map .d, [.c κ.length, .d (.int st)]], ⟨rfl, ns, st, rfl⟩, ?_, ?_⟩
  · intro xs hx
    rcases List.mem_append.mp hx with h | h
    · exact lows_mono (by simp) xs (hl xs h)
    · simp only [List.mem_cons, List.not_mem_nil, or_false] at h
      rcases h with rfl | rfl
      · exact lows_data _
      · simp [lows, low]
  · have e : ∀ (x y : List AV), κ ++ [x] ++ [y] = κ ++ [x, y] := by simp
    rw [e]
    exact Meets.same (by simp [low])
theorem good__law_begun : GoodY K fy__law_begun pre__law_begun (t__law_begun K w) 3 1 where
  len := by rintro as κ ⟨ns, rfl, _⟩; rfl
  grow := by rintro as κ a κ' ⟨_, ns, st, rfl⟩; simp
  run := by
    rintro as κ ⟨ns, rfl, hz⟩ hl
    show StX K (t__law_begun K w) [some (.d (.list (ns.map .int))), none, none] κ _
    refine stx_seq' (stx_asg (by walk_at "ev") ?_)
    show StX K _ [some (.d (.list (ns.map .int))), some (.d (.int 0)), none] κ _
    refine stx_seq' (stx_forLi (xs := ns) (enc := PyData.int) (fun i δ κ1 => κ1 = κ ∧ ∃ (x : Int) (u : Option AV), δ = [some (.d (.list (ns.map .int))), some (.d (.int x)), u]) (by walk_at "ev") ⟨rfl, 0, none, rfl⟩ ?_ ?_)
    · rintro i y δ κ1 hy ⟨rfl, x, u, rfl⟩
      refine ⟨_, _, gx_name, ?_⟩
      show StX K _ [some (.d (.list (ns.map .int))), some (.d (.int x)), some (.d (.int y))] _ _
      exact stx_asg (evx_op (evx_op (evx_op (evx_op (by walk_at "ev") (by walk_at "ev") (rx_intC (.inr ⟨by decide, by decide⟩))) (evx_op (by walk_at "ev") (by walk_at "ev") (rx_intC (.inr ⟨by decide, by decide⟩))) rx_addI) (by walk_at "ev") rx_addI) (by walk_at "ev") (rx_intC (by decide))) ⟨rfl, _, _, rfl⟩
    · rintro δ κ1 ⟨rfl, x, u, rfl⟩
      have hb : ∀ c : Bool, CMul x (if c then 1 else 0) := fun c => .inr (by cases c <;> exact ⟨by decide, by decide⟩)
      refine stx_ret (evx_lstC (n := κ1.length + 1) (eva_cons (evx_cb (by walk_at "ev") (rc_listLC rfl)) (eva_cons (evx_op (by walk_at "ev") (evx_cb (eva_cons (evx_op (evx_cb (by walk_at "ev") rc_lenL) (by walk_at "ev") rx_bl) eva_nil) rc_intB) (rx_intC (hb _))) eva_nil)) (by simp)) ?_
      exact begun_ok _ hl
theorem good__law_road : GoodY K fy__law_road pre__law_road (t__law_road K w) 7 2 where
  len := by rintro as κ ⟨b, l, n, rfl, _⟩; rfl
  grow := by rintro as κ a κ' ⟨b, l, n, r, _, _, _, _, h⟩; rw [h.len]; exact Nat.le_refl _
  run := by
    rintro as κ ⟨b, l, n, rfl, hB, h2, h6⟩ hl
    show StX K (t__law_road K w) [some (.c b), some (.d (nI n)), none, none, none, none, none] κ _
    have n1 : AV.d (PyData.int (((n : Nat) : Int) - 1)) = AV.d (nI (n - 1)) := by
      show AV.d (PyData.int _) = AV.d (PyData.int _)
      rw [show ((n : Int) - 1) = ((n - 1 : Nat) : Int) by omega]
    refine stx_seq' (sty_asg (evy_addC (a := 1) (evy_takeC (l := l) (m := n - 1) rfl hB (by omega) (by omega) (evx_eq (evx_op (by walk_at "ev") (by walk_at "ev") rx_int) n1) fun v κ1 hv b1 => ⟨v, rfl, ?_⟩)))
    show StX K _ [some (.c b), some (.d (nI n)), some (.d (nI (1 + v))), none, none, none, none] κ1 _
    refine stx_seq' (sty_par (evys_cons (evy_takeC (Po := fun x κ2 => ∃ o, o < 1 + v ∧ x = .d (nI o) ∧ BoxTo b l κ κ2) (l := l) (m := 1 + v) rfl b1.box (by omega) (by omega) (by walk_at "ev") fun o κ2 ho b2 => ⟨o, ho, rfl, b1.trans b2⟩) fun x κ2 ⟨o, ho, ex, b2⟩ => ?_))
    subst ex
    refine evys_cons (evy_addC (a := 1) (Po := fun x κ3 => ∃ c, 1 ≤ c ∧ c ≤ 9 ∧ x = .d (nI c) ∧ BoxTo b l κ κ3) (evy_take (l := l) rfl b2.box (evy_menu (ds := [2, 9]) (l := l) (m := 2) rfl b2.box (evx_lstD (ds := [nI 2, nI 9]) (by walk_at "ev")) (by decide) (by decide) rfl (by walk_at "ev") fun x κ3 hx b3 => ⟨x, rfl, ?_, ?_, b3.box, fun c κ4 hc b4 => ⟨c, rfl, 1 + c, ?_, ?_, rfl, (b2.trans b3).trans b4⟩⟩))) fun y κ3 ⟨c, hc1, hc9, ey, b3⟩ => evys_nil ⟨_, _, rfl, ?_⟩
    · simp only [List.mem_cons, List.not_mem_nil, or_false] at hx; omega
    · simp only [List.mem_cons, List.not_mem_nil, or_false] at hx; omega
    · omega
    · simp only [List.mem_cons, List.not_mem_nil, or_false] at hx; omega
    subst ey
    show StX K _ [some (.c b), some (.d (nI n)), some (.d (nI (1 + v))), some (.d (nI o)), some (.d (nI c)), none, none] κ3 _
    refine stx_seq' (sty_asg (evy_if (evyb_test (evy_op (P1 := fun x κ4 => ∃ q, x = .d (nI q) ∧ BoxTo b l κ κ4) (evy_takeC (l := l) (m := 2) rfl b3.box (by decide) (by decide) (by walk_at "ev") fun q κ4 _ b4 => ⟨q, rfl, b3.trans b4⟩) fun x κ4 ⟨q, ex, b4⟩ => ?_))))
    subst ex
    refine evy_of (by walk_at "ev") ⟨_, κ4, rx_eqDI, _, rfl, ?_⟩
    -- the lans, whichever way
    have lans : ∀ (a : AV) (κ5 : Cells) (ls : List Nat), (∀ x ∈ ls, x ≤ 3) → ls.Pairwise (· < ·) → a = .d (.tuple (ls.map nI)) → BoxTo b l κ κ5 →
        StX K (tRet (tTup (tCons (tVar 3) (tCons (tVar 2) (tCons (tVar 4) (tCons (tOp (rAddG K) (tC (.int 1)) (tHasY K fy__law_take pre__law_take (tCons (tVar 0) (tCons (tC (.int 3)) tNil)))) (tCons (tVar 5) tNil))))))) [some (.c b), some (.d (nI n)), some (.d (nI (1 + v))), some (.d (nI o)), some (.d (nI c)), some a, none] κ5 (okY (fy__law_road [.c b, .d (nI n)] κ)) := by
      intro a κ5 ls h3 hp ea b5
      subst ea
      refine sty_ret (evy_tup (ds := fun as => [nI o, nI (1 + v), nI c, match as[3]? with | some (AV.d x) => x | _ => PyData.none, .tuple (ls.map nI)]) ?_)
      refine evys_consC (x := .d (nI o)) (by walk_at "ev") (evys_consC (x := .d (nI (1 + v))) (by walk_at "ev") (evys_consC (x := .d (nI c)) (by walk_at "ev") ?_))
      refine evys_cons (evy_addC (a := 1) (Po := fun x κ6 => ∃ m, 1 ≤ m ∧ m ≤ 3 ∧ x = .d (nI m) ∧ BoxTo b l κ κ6) (evy_takeC (l := l) (m := 3) rfl b5.box (by decide) (by decide) (by walk_at "ev") fun m κ6 hm b6 => ⟨m, rfl, 1 + m, by omega, by omega, rfl, b5.trans b6⟩)) fun x κ6 ⟨m, hm1, hm3, ex, b6⟩ => ?_
      subst ex
      refine evys_of (by walk_at "ev") ⟨rfl, (by show 5 ≤ 100000; decide), .d (encRoad ⟨o, 1 + v, c, m, ls⟩), κ6, ⟨b, l, n, ⟨o, 1 + v, c, m, ls⟩, rfl, hB, ⟨ho, by show 1 + v < n; omega, hc1, hc9, hm1, hm3, h3, hp⟩, rfl, b6⟩, b6.lows hl, Meets.same (by simp [low])⟩
    by_cases hq : ((q : Nat) : Int) = 0
    · rw [if_pos (decide_eq_true hq)]
      refine evy_cb (evys_cons (evy_lcD (Po := fun x κ5 => ∃ ls : List Nat, (∀ x ∈ ls, x ≤ 3) ∧ ls.Pairwise (· < ·) ∧ x = .d (.list (ls.map nI)) ∧ BoxTo b l κ κ5) (n := 4) (Inv := fun _ => True) (fun i acc κ5 => BoxTo b l κ κ5 ∧ ∃ ls : List Nat, acc = (ls.map nI).map AV.d ∧ ls.Pairwise (· < ·) ∧ ∀ x ∈ ls, x < i) (src_range1 (n := 4) (by walk_at "ev")) (by decide) ⟨b4, [], rfl, .nil, by simp⟩ (fun _ _ _ _ => trivial) ?_ ?_) ?_)
      · rintro i acc κ5 hi ⟨b5, ls, rfl, hp, hlt⟩
        refine ⟨_, _, gx_name, by simp, ?_⟩
        show EvYB K _ [some (.c b), some (.d (nI n)), some (.d (nI (1 + v))), some (.d (nI o)), some (.d (nI c)), none, some (.d (nI i))] κ5 _
        refine evyb_test (evy_op (P1 := fun x κ6 => ∃ q, x = .d (nI q) ∧ BoxTo b l κ κ6) (evy_takeC (l := l) (m := 4) rfl b5.box (by decide) (by decide) (by walk_at "ev") fun q κ6 _ b6 => ⟨q, rfl, b5.trans b6⟩) fun x κ6 ⟨q, ex, b6⟩ => ?_)
        subst ex
        refine evy_of (by walk_at "ev") ⟨_, κ6, rx_bl, _, rfl, ?_⟩
        by_cases c0 : (0 : Int) < ((q : Nat) : Int)
        · rw [if_pos (decide_eq_true c0)]
          refine evy_of (a := .d (nI i)) (by walk_at "ev") ⟨b6, ls ++ [i], by simp, ?_, ?_⟩
          · rw [List.pairwise_append]
            exact ⟨hp, by simp, fun a ha b hb => by rw [List.mem_singleton.mp hb]; exact hlt a ha⟩
          · intro x hx
            rcases List.mem_append.mp hx with h | h
            · have := hlt x h; omega
            · rw [List.mem_singleton.mp h]; omega
        · rw [if_neg (by simp only [decide_eq_true_eq]; exact c0)]
          exact ⟨b6, ls, rfl, hp, fun x hx => by have := hlt x hx; omega⟩
      · rintro acc κ5 ⟨b5, ls, rfl, hp, hlt⟩
        exact ⟨_, rfl, ls, fun x hx => by have := hlt x hx; omega, hp, rfl, b5⟩
      · rintro x κ5 ⟨ls, h3, hp, rfl, b5⟩
        exact evys_nil ⟨_, κ5, rc_tupL, lans _ κ5 ls h3 hp rfl b5⟩
    · rw [if_neg (by simp only [decide_eq_true_eq]; exact hq)]
      exact evy_of (evx_tup4 (by walk_at "ev") (by walk_at "ev") (by walk_at "ev") (by walk_at "ev")) (lans _ κ4 [0, 1, 2, 3] (by decide) (by decide) rfl b4)
end
end BY
end

section
set_option Elab.async false
set_option linter.all false
set_option maxRecDepth 100000
set_option maxHeartbeats 600000
namespace BY
open PySem PySem.Spec PyProof.Rows L2
open Evl (Ex ex_l ex_t)
local macro_rules | `(tactic| walk_at "ev") => `(tactic| first
  | exact evx_var rfl | exact evx_int | exact evx_bl | exact evx_non | exact evx_str | exact evx_v | exact eva_nil
  | (apply eva_cons; (focus (walk_at "ev")); (focus (walk_at "ev")))
  | (apply evx_op; (focus (walk_at "ev")); (focus (walk_at "ev")); (focus (walk_at "rx")))
  | (apply evx_un; (focus (walk_at "ev")); (focus (exact ru_negI)))
  | (apply evx_tup2 <;> (walk_at "ev"))
  | (apply evx_tup3 <;> (walk_at "ev"))
  | (apply evx_slT; (focus (walk_at "ev")); (focus (walk_at "eo")); (focus (walk_at "eo")))
  | (apply evx_cb; (focus (walk_at "ev")); (focus (walk_at "rc")))
  | (apply evx_chain <;> (walk_at "ev"))
  | (apply evx_has; (focus (walk_at "ev")); (focus (walk_at "fx"))))
local macro_rules | `(tactic| walk_at "eo") => `(tactic| first | exact evo_none | exact evo_some (by walk_at "ev"))
local macro_rules | `(tactic| walk_at "fx") => `(tactic| first | exact ⟨_, _, _, rfl, rfl, rfl⟩ | exact ⟨_, _, rfl, rfl, rfl⟩ | exact ⟨_, rfl, rfl, rfl⟩)
local macro_rules | `(tactic| walk_at "rx") => `(tactic| first
  | exact rx_addI | exact rx_eqDI | exact rx_neDI | exact rx_ixT0 rfl | exact rx_ixT1 rfl | exact rx_ixT2 rfl | exact rx_ixT3 rfl | exact rx_ixT4 rfl | exact rx_isN | exact rx_notN | exact rx_int | exact rx_bl)
local macro_rules | `(tactic| walk_at "rc") => `(tactic| first
  | exact rc_isi .d (kb_bool _) | exact rc_isi .d (kb_int _) | exact rc_isi .d (kb_tuple _) | exact rc_isi .d (kb_list _) | exact rc_isi .d (kb_str _) | exact rc_lenT | exact rc_lenL | exact rc_any | exact rc_all)
def t__law_plan (K : PySem.W.Frag) (w : World) : TS := (tSeq (tAsg (tOp (rAddG K) (tC (.int 1)) (tOp (rIx K) (tLst (tCons (tHasY K fy__law_take pre__law_take (tCons (tVar 0) (tCons (tC (.int 6)) tNil))) (tCons (tC (.int 3)) (tCons (tC (.int 5)) tNil)))) (tHasY K fy__law_take pre__law_take (tCons (tVar 0) (tCons (tC (.int 3)) tNil))))) (gName 1)) (tSeq (tAsg (tCB (rTpl K) (tCons (tLc (iRng1 (tCons (tVar 1) tNil)) (gName 3) tYes (tHasY K fy__law_take pre__law_take (tCons (tVar 0) (tCons (tOp (rIx K) (tLst (tCons (tC (.int 1)) (tCons (tC (.int 3)) (tCons (tC (.int 10)) tNil)))) (tHasY K fy__law_take pre__law_take (tCons (tVar 0) (tCons (tC (.int 3)) tNil)))) tNil))) [3]) tNil)) (gName 2)) (tSeq (tAsg (tLst tNil) (gName 4)) (tSeq (tFor (iRng2 (tCons (tC (.int 1)) (tCons (tVar 1) tNil))) (gName 5) (tIfS (tTest (tOp (rI0 fun i j => .bl (decide (j < i))) (tHasY K fy__law_take pre__law_take (tCons (tVar 0) (tCons (tC (.int 8)) tNil))) (tC (.int 0)))) (tSeq (tAsg (tHasY K fy__law_road pre__law_road (tCons (tVar 0) (tCons (tVar 1) tNil))) (gName 6)) (tDrop (tBM K "list" rAppend (tVar 4) (tCons (tOp (rAddG K) (tTup (tCons (tHasY K fy__law_take pre__law_take (tCons (tVar 0) (tCons (tVar 5) tNil))) (tCons (tVar 5) tNil))) (tSl (rSlA K) (tVar 6) (tPart (tC (.int 2))) tNoPart)) tNil)))) tNext)) (tSeq (tWhile (tAnd (tTest (tOp (rI0 fun i j => .bl (decide (j < i))) (tVar 1) (tC (.int 1)))) (tAnd (tTest (tOp (rI0 fun i j => .bl (decide (i < j))) (tCB (rLn K) (tCons (tVar 4) tNil)) (tC (.int 8)))) (tTest (tOp (rI0 fun i j => .bl (decide (j < i))) (tHasY K fy__law_take pre__law_take (tCons (tVar 0) (tCons (tC (.int 4)) tNil))) (tC (.int 0)))))) (tDrop (tBM K "list" rAppend (tVar 4) (tCons (tHasY K fy__law_road pre__law_road (tCons (tVar 0) (tCons (tVar 1) tNil))) tNil)))) (tRet (tTup (tCons (tVar 2) (tCons (tCB (rTpl K) (tCons (tVar 4) tNil)) tNil)))))))))
section
variable {K : PySem.W.Frag} {w : World} {κ κ1 κ2 : Cells} {δ : Slots} {tm ta tb : TE}
theorem evy_road {b l i j n : Nat} {Po : AV → Cells → Prop} (hb : δ[i]? = some (some (.c b))) (hn : δ[j]? = some (some (.d (nI n)))) (hB : Box κ b l) (h2 : 2 ≤ n) (h6 : n ≤ 6) (hv : ∀ r κ2, RoadOk n r → BoxTo b l κ κ2 → Po (.d (encRoad r)) κ2) :
    EvY K (tHasY K fy__law_road pre__law_road (tCons (tVar i) (tCons (tVar j) tNil))) δ κ Po :=
  evy_has (evys_of (eva_cons (evx_var hb) (eva_cons (evx_var hn) eva_nil)) ⟨⟨b, l, n, rfl, hB, h2, h6⟩, fun a κ3 ⟨b', l', n', r, e, hB', ok, ea, hbt⟩ => by
    cases e
    subst ea
    have := hB.uniq hB'
    subst this
    exact hv r κ3 ok hbt⟩)
theorem evy_bm {rm : V → List V → Hp → VK → Prop} {k : Nat} {xs : List AV} {tas : TA} {te : TE} {Po : AV → Cells → Prop} (h : EvX K te δ κ (.c k) κ) (hk : κ[k]? = some xs) (ha : EvYs K tas δ κ (fun as κ2 => ∃ z κ3, RM K rm κ2 (.c k) as z κ3 ∧ Po z κ3)) : EvY K (tBM K "list" rm te tas) δ κ Po := fun G H ps σ R E Q q =>
  h G H ps σ R E _ fun v G1 H1 p1 s R1 r1 => by
    have hty : tyV K "list" v H1 := by
      cases r1 with
      | c r1 =>
        obtain ⟨vs, e, _⟩ := R1.cellOf r1 hk
        exact .inl ⟨rfl, vs, .inl (.inl e)⟩
    exact ⟨hty, ha G1 H1 p1 σ R1 (s.env E) _ fun us as κ2 G2 H2 p2 ⟨z, κ3, hr, hp⟩ s2 R2 rs => hr G2 H2 p2 v us R2 (s2.vr r1) rs Q fun v' G3 H3 p3 s3 R3 r3 => q v' z κ3 G3 H3 p3 hp ((s.trans R.sub s2).trans R.sub s3) R3 r3⟩
theorem roads_cell (rs : List Road) (r : Road) : ((rs.map encRoad).map AV.d) ++ [.d (encRoad r)] = (((rs ++ [r]).map encRoad).map AV.d) := by simp
theorem good__law_plan : GoodY K fy__law_plan pre__law_plan (t__law_plan K w) 7 1 where
  len := by rintro as κ ⟨b, l, rfl, _⟩; rfl
  grow := by rintro as κ a κ' ⟨b, l, p, _, _, _, _, h⟩; rw [h.len]; exact Nat.le_refl _
  run := by
    rintro as κ ⟨b, l, rfl, hB⟩ hl
    show StX K (t__law_plan K w) [some (.c b), none, none, none, none, none, none] κ _
    -- how many bridges
    refine stx_seq' (sty_asg (evy_addC (a := 1) (evy_op (P1 := fun x κ1 => ∃ v, v < 6 ∧ x = .d (.list [nI v, nI 3, nI 5]) ∧ BoxTo b l κ κ1) (evy_lstD (ds := fun as => [match as[0]? with | some (AV.d x) => x | _ => PyData.none, nI 3, nI 5]) (evys_cons (evy_takeC (Po := fun x κ1 => ∃ v, v < 6 ∧ x = .d (nI v) ∧ BoxTo b l κ κ1) (l := l) (m := 6) rfl hB (by decide) (by decide) (by walk_at "ev") fun v κ1 hv b1 => ⟨v, hv, rfl, b1⟩) fun x κ1 ⟨v, hv, ex, b1⟩ => ?_)) fun x κ1 ⟨v, hv, ex, b1⟩ => ?_)))
    · subst ex
      exact evys_of (by walk_at "ev") ⟨rfl, (by show 3 ≤ 100000; decide), v, hv, rfl, b1⟩
    subst ex
    refine evy_takeC (l := l) (m := 3) rfl b1.box (by decide) (by decide) (by walk_at "ev") fun k κ2 hk b2 => ?_
    have hitem : ∃ m, m ≤ 5 ∧ ([nI v, nI 3, nI 5] : List PyData)[k]? = some (nI m) := by
      have h3 : k = 0 ∨ k = 1 ∨ k = 2 := by omega
      rcases h3 with rfl | rfl | rfl
      · exact ⟨v, by omega, rfl⟩
      · exact ⟨3, by omega, rfl⟩
      · exact ⟨5, by omega, rfl⟩
    obtain ⟨m, hm5, hm⟩ := hitem
    refine ⟨_, κ2, rx_ixLDg hm, m, rfl, ?_⟩
    have b12 := b1.trans b2
    obtain ⟨n, hn, n1, n6⟩ : ∃ n, n = 1 + m ∧ 1 ≤ n ∧ n ≤ 6 := ⟨1 + m, rfl, by omega, by omega⟩
    rw [← hn]
    show StX K _ [some (.c b), some (.d (nI n)), none, none, none, none, none] κ2 _
    -- the ranks
    refine stx_seq' (sty_asg (evy_cb (evys_cons (evy_lcD (Po := fun x κ3 => ∃ ks : List Nat, ks.length = n ∧ (∀ x ∈ ks, x ≤ 9) ∧ x = .d (.list (ks.map nI)) ∧ BoxTo b l κ κ3) (n := n) (Inv := fun _ => True) (fun i acc κ3 => BoxTo b l κ κ3 ∧ ∃ ks : List Nat, ks.length = i ∧ (∀ x ∈ ks, x ≤ 9) ∧ acc = (ks.map nI).map AV.d) (src_range1 (n := ((n : Nat) : Int)) (by walk_at "ev")) (by omega) ⟨b12, [], rfl, by simp, rfl⟩ (fun _ _ _ _ => trivial) ?_ ?_) ?_)))
    · rintro i acc κ3 hi ⟨b3, ks, hkl, h9, rfl⟩
      refine ⟨_, _, gx_name, by simp, evyb_of evb_yes ?_⟩
      show EvY K _ [some (.c b), some (.d (nI n)), none, some (.d (nI i)), none, none, none] κ3 _
      refine evy_take (l := l) rfl b3.box (evy_menu (ds := [1, 3, 10]) (l := l) (m := 3) rfl b3.box (evx_lstD (ds := [nI 1, nI 3, nI 10]) (by walk_at "ev")) (by decide) (by decide) rfl (by walk_at "ev") fun x κ4 hx b4 => ⟨x, rfl, ?_, ?_, b4.box, fun c κ5 hc b5 => ⟨(b3.trans b4).trans b5, ks ++ [c], by simp [hkl], ?_, by simp⟩⟩)
      · simp only [List.mem_cons, List.not_mem_nil, or_false] at hx; omega
      · simp only [List.mem_cons, List.not_mem_nil, or_false] at hx; omega
      · intro y hy
        rcases List.mem_append.mp hy with h | h
        · exact h9 y h
        · rw [List.mem_singleton.mp h]
          simp only [List.mem_cons, List.not_mem_nil, or_false] at hx; omega
    · rintro acc κ3 ⟨b3, ks, hkl, h9, rfl⟩
      exact ⟨_, rfl, ks, hkl, h9, rfl, b3⟩
    rintro x κ3 ⟨ks, hkl, h9, rfl, b3⟩
    refine evys_nil ⟨_, κ3, rc_tupL, ?_⟩
    show StX K _ [some (.c b), some (.d (nI n)), some (.d (.tuple (ks.map nI))), none, none, none, none] κ3 _
    -- the roads
    refine stx_seq' (stx_asg (evx_lstC eva_nil rfl) ?_)
    have kl : κ3.length = κ.length := b3.len
    rw [kl]
    show StX K _ [some (.c b), some (.d (nI n)), some (.d (.tuple (ks.map nI))), none, some (.c κ.length), none, none] (κ3 ++ [[]]) _
    have cell : ∀ (κ4 : Cells) (x : List AV), BoxTo b l κ κ4 → (κ4 ++ [x])[κ.length]? = some x := fun κ4 x h => by rw [← h.len]; exact get_cell
    have sett : ∀ (κ4 : Cells) (x y : List AV), BoxTo b l κ κ4 → (κ4 ++ [x]).set κ.length y = κ4 ++ [y] := fun κ4 x y h => by rw [← h.len]; exact set_cell
    refine stx_seq' (stx_for (Inv := fun _ => True) (n := (((n : Nat) : Int) - 1).toNat) (fun i δ κ4 => ∃ κ5 rs, κ4 = κ5 ++ [(rs.map encRoad).map AV.d] ∧ BoxTo b l κ κ5 ∧ (∀ r ∈ rs, RoadOk n r) ∧ rs.length ≤ i ∧ ∃ u1 u2 u3, δ = [some (.c b), some (.d (nI n)), some (.d (.tuple (ks.map nI))), u1, some (.c κ.length), u2, u3])
      (src_range2 (lo := 1) (hi := ((n : Nat) : Int)) (by walk_at "ev")) ⟨κ3, [], rfl, b3, by simp, Nat.le_refl _, none, none, none, rfl⟩ (fun _ _ _ _ => trivial) ?_ ?_)
    · rintro i δ κ4 hi ⟨κ5, rs, rfl, b5, hrs, hle, u1, u2, u3, rfl⟩
      have hj : ∃ o, o = 1 + i ∧ 1 ≤ o ∧ o < n := ⟨1 + i, rfl, by omega, by omega⟩
      obtain ⟨o, ho, o1, on⟩ := hj
      have eo : AV.d (PyData.int (1 + ((i : Nat) : Int))) = AV.d (nI o) := by rw [ho]; rfl
      rw [eo]
      refine ⟨_, _, gx_name, ?_⟩
      show StX K _ [some (.c b), some (.d (nI n)), some (.d (.tuple (ks.map nI))), u1, some (.c κ.length), some (.d (nI o)), u3] _ _
      refine sty_if (evyb_test (evy_op (P1 := fun x κ6 => ∃ q κ7, x = .d (nI q) ∧ κ6 = κ7 ++ [(rs.map encRoad).map AV.d] ∧ BoxTo b l κ κ7) (evy_takeC (l := l) (m := 8) rfl b5.box.app (by decide) (by decide) (by walk_at "ev") fun q κ6 _ b6 => ?_) fun x κ6 ⟨q, κ7, ex, ek, b7⟩ => ?_))
      · obtain ⟨κ7, e7, b7⟩ := b6.split b5.box
        exact ⟨q, κ7, rfl, e7, b5.trans b7⟩
      subst ex ek
      refine evy_of (by walk_at "ev") ⟨_, _, rx_bl, _, rfl, ?_⟩
      by_cases c0 : (0 : Int) < ((q : Nat) : Int)
      · rw [if_pos (decide_eq_true c0)]
        refine stx_seq' (sty_asg (evy_road (l := l) (n := n) rfl rfl b7.box.app (by omega) n6 fun r κ8 hr b8 => ?_))
        obtain ⟨κ9, e9, b9⟩ := b8.split b7.box
        subst e9
        have b9' := b7.trans b9
        show StX K _ [some (.c b), some (.d (nI n)), some (.d (.tuple (ks.map nI))), u1, some (.c κ.length), some (.d (nI o)), some (.d (encRoad r))] _ _
        -- append (take(box, other), other) + road[2:]
        refine sty_drop ?_
        intro G H ps σ R E Q q2
        have hbm : EvY K (tBM K "list" rAppend (tVar 4) (tCons (tOp (rAddG K) (tTup (tCons (tHasY K fy__law_take pre__law_take (tCons (tVar 0) (tCons (tVar 5) tNil))) (tCons (tVar 5) tNil))) (tSl (rSlA K) (tVar 6) (tPart (tC (.int 2))) tNoPart)) tNil)) [some (.c b), some (.d (nI n)), some (.d (.tuple (ks.map nI))), u1, some (.c κ.length), some (.d (nI o)), some (.d (encRoad r))] (κ9 ++ [(rs.map encRoad).map AV.d])
            (fun _ κ10 => ∃ κ11 r', κ10 = κ11 ++ [((rs ++ [r']).map encRoad).map AV.d] ∧ BoxTo b l κ κ11 ∧ RoadOk n r') := by
          refine evy_bm (k := κ.length) (xs := (rs.map encRoad).map AV.d) (by walk_at "ev") (cell κ9 _ b9') (evys_cons (P1 := fun x κ10 => ∃ r' κ11, x = .d (encRoad r') ∧ RoadOk n r' ∧ κ10 = κ11 ++ [(rs.map encRoad).map AV.d] ∧ BoxTo b l κ κ11) ?_ fun x κ10 ⟨r', κ11, ex, hr', ek, b11⟩ => ?_)
          · refine evy_op (P1 := fun x κ10 => ∃ v κ11, v < o ∧ x = .d (.tuple [nI v, nI o]) ∧ κ10 = κ11 ++ [(rs.map encRoad).map AV.d] ∧ BoxTo b l κ κ11) ?_ fun x κ10 ⟨v, κ11, hv, ex, ek, b11⟩ => ?_
            · refine evy_tup (ds := fun as => [match as[0]? with | some (AV.d x) => x | _ => PyData.none, nI o]) (evys_cons (P1 := fun x κ10 => ∃ v κ11, v < o ∧ x = .d (nI v) ∧ κ10 = κ11 ++ [(rs.map encRoad).map AV.d] ∧ BoxTo b l κ κ11) (evy_takeC (l := l) (m := o) rfl b9'.box.app (by omega) (by omega) (by walk_at "ev") fun v κ10 hv b10 => ?_) fun x κ10 ⟨v, κ11, hv, ex, ek, b11⟩ => ?_)
              · obtain ⟨κ11, e11, b11⟩ := b10.split b9'.box
                exact ⟨v, κ11, hv, rfl, e11, b9'.trans b11⟩
              · subst ex
                exact evys_of (by walk_at "ev") ⟨rfl, (by show 2 ≤ 100000; decide), v, κ11, hv, rfl, ek, b11⟩
            · subst ex ek
              have hs : EvX K (tSl (rSlA K) (tVar 6) (tPart (tC (.int 2))) tNoPart) [some (.c b), some (.d (nI n)), some (.d (.tuple (ks.map nI))), u1, some (.c κ.length), some (.d (nI o)), some (.d (encRoad r))] (κ11 ++ [(rs.map encRoad).map AV.d]) (.d (.tuple [nI r.cost, nI r.members, .tuple (r.lans.map nI)])) (κ11 ++ [(rs.map encRoad).map AV.d]) :=
                evx_slT (ds := [nI r.one, nI r.other, nI r.cost, nI r.members, .tuple (r.lans.map nI)]) (lo := some 2) (hi := none) (by walk_at "ev") (evo_some evx_int) evo_none
              have ok' : RoadOk n ⟨v, o, r.cost, r.members, r.lans⟩ := ⟨hv, on, hr.c1, hr.c9, hr.m1, hr.m3, hr.l3, hr.up⟩
              exact evy_of hs ⟨.d (encRoad ⟨v, o, r.cost, r.members, r.lans⟩), _, rx_addT, _, κ11, rfl, ok', rfl, b11⟩
          · subst ex ek
            refine evys_nil ⟨_, _, rm_append (cell κ11 _ b11) (by simp; omega), κ11, r', ?_, b11, hr'⟩
            rw [sett κ11 _ _ b11, roads_cell]
        exact hbm G H ps σ R E Q fun v a κ10 G' H' ps' ⟨κ11, r', e, b11, hr'⟩ s R' rr => q2 v a κ10 G' H' ps' ⟨κ11, rs ++ [r'], e, b11, fun x hx => by
          rcases List.mem_append.mp hx with h | h
          · exact hrs x h
          · rw [List.mem_singleton.mp h]; exact hr', by simp; omega, _, _, _, rfl⟩ s R' rr
      · rw [if_neg (by simp only [decide_eq_true_eq]; exact c0)]
        exact stx_next ⟨κ7, rs, rfl, b7, hrs, by omega, _, _, _, rfl⟩
    · rintro δ κ4 ⟨κ5, rs, rfl, b5, hrs, hle, u1, u2, u3, rfl⟩
      have hle' : rs.length ≤ 8 := by omega
      refine stx_seq' (sty_while (fun m δ κ4 => ∃ κ5 rs, κ4 = κ5 ++ [(rs.map encRoad).map AV.d] ∧ BoxTo b l κ κ5 ∧ (∀ r ∈ rs, RoadOk n r) ∧ rs.length + m = 8 ∧ δ = [some (.c b), some (.d (nI n)), some (.d (.tuple (ks.map nI))), u1, some (.c κ.length), u2, u3]) (8 - rs.length) ⟨κ5, rs, rfl, b5, hrs, by omega, rfl⟩ ?_)
      rintro m δ κ4 ⟨κ6, rs, rfl, b6, hrs, hm8, rfl⟩
      have fin : ∀ (κ7 : Cells), BoxTo b l κ κ7 → StX K (tRet (tTup (tCons (tVar 2) (tCons (tCB (rTpl K) (tCons (tVar 4) tNil)) tNil)))) [some (.c b), some (.d (nI n)), some (.d (.tuple (ks.map nI))), u1, some (.c κ.length), u2, u3] (κ7 ++ [(rs.map encRoad).map AV.d]) (okY (fy__law_plan [.c b] κ)) := fun κ7 b7 => by
        refine stx_ret (evx_tup2 (by walk_at "ev") (evx_cb (by walk_at "ev") (rc_tupC (cell κ7 _ b7)))) ?_
        have okp : PlanOk ⟨ks, rs⟩ := ⟨by show 1 ≤ ks.length; omega, by show ks.length ≤ 6; omega, h9, by show rs.length ≤ 8; omega, fun r hr => by show RoadOk ks.length r; rw [hkl]; exact hrs r hr⟩
        exact ⟨.d (encPlan ⟨ks, rs⟩), κ7, ⟨b, l, ⟨ks, rs⟩, rfl, hB, okp, rfl, b7⟩, b7.lows hl, Meets.eq (by simp [low])⟩
      have t1 : EvB K (tTest (tOp (rI0 fun i j => .bl (decide (j < i))) (tVar 1) (tC (.int 1)))) [some (.c b), some (.d (nI n)), some (.d (.tuple (ks.map nI))), u1, some (.c κ.length), u2, u3] (κ6 ++ [(rs.map encRoad).map AV.d]) (decide ((1 : Int) < ((n : Nat) : Int))) (κ6 ++ [(rs.map encRoad).map AV.d]) := evb_test (by walk_at "ev")
      have t2 : EvB K (tTest (tOp (rI0 fun i j => .bl (decide (i < j))) (tCB (rLn K) (tCons (tVar 4) tNil)) (tC (.int 8)))) [some (.c b), some (.d (nI n)), some (.d (.tuple (ks.map nI))), u1, some (.c κ.length), u2, u3] (κ6 ++ [(rs.map encRoad).map AV.d]) (decide ((((rs.map encRoad).map AV.d).length : Int) < 8)) (κ6 ++ [(rs.map encRoad).map AV.d]) := evb_test (evx_op (evx_cb (by walk_at "ev") (rc_lenC (cell κ6 _ b6))) (by walk_at "ev") rx_bl)
      by_cases c1 : (1 : Int) < ((n : Nat) : Int)
      · rw [decide_eq_true c1] at t1
        refine evyb_and (evyb_of t1 ?_)
        rw [if_pos rfl]
        by_cases c2 : (((rs.map encRoad).map AV.d).length : Int) < 8
        · rw [decide_eq_true c2] at t2
          refine evyb_and (evyb_of t2 ?_)
          rw [if_pos rfl]
          have c2' : rs.length < 8 := by simp at c2; omega
          refine evyb_test (evy_op (P1 := fun x κ7 => ∃ q κ8, x = .d (nI q) ∧ κ7 = κ8 ++ [(rs.map encRoad).map AV.d] ∧ BoxTo b l κ κ8) (evy_takeC (l := l) (m := 4) rfl b6.box.app (by decide) (by decide) (by walk_at "ev") fun q κ7 _ b7 => ?_) fun x κ7 ⟨q, κ8, ex, ek, b8⟩ => ?_)
          · obtain ⟨κ8, e8, b8⟩ := b7.split b6.box
            exact ⟨q, κ8, rfl, e8, b6.trans b8⟩
          subst ex ek
          refine evy_of (by walk_at "ev") ⟨_, _, rx_bl, _, rfl, ?_⟩
          by_cases c0 : (0 : Int) < ((q : Nat) : Int)
          · rw [if_pos (decide_eq_true c0)]
            refine sty_drop (evy_bm (k := κ.length) (xs := (rs.map encRoad).map AV.d) (by walk_at "ev") (cell κ8 _ b8) (evys_cons (P1 := fun x κ10 => ∃ r' κ11, x = .d (encRoad r') ∧ RoadOk n r' ∧ κ10 = κ11 ++ [(rs.map encRoad).map AV.d] ∧ BoxTo b l κ κ11) (evy_road (l := l) (n := n) rfl rfl b8.box.app (by omega) n6 fun r κ9 hr b9 => ?_) fun x κ10 ⟨r', κ11, ex, hr', ek, b11⟩ => ?_))
            · obtain ⟨κ11, e11, b11⟩ := b9.split b8.box
              exact ⟨r, κ11, rfl, hr, e11, b8.trans b11⟩
            · subst ex ek
              refine evys_nil ⟨_, _, rm_append (cell κ11 _ b11) (by simp; omega), 8 - (rs.length + 1), by omega, κ11, rs ++ [r'], ?_, b11, ?_, by simp; omega, rfl⟩
              · rw [sett κ11 _ _ b11, roads_cell]
              · intro x hx
                rcases List.mem_append.mp hx with h | h
                · exact hrs x h
                · rw [List.mem_singleton.mp h]; exact hr'
          · rw [if_neg (by simp only [decide_eq_true_eq]; exact c0)]
            exact fin κ8 b8
        · rw [decide_eq_false c2] at t2
          refine evyb_and (evyb_of t2 ?_)
          rw [if_neg (by decide), if_neg (by decide)]
          exact fin κ6 b6
      · rw [decide_eq_false c1] at t1
        refine evyb_and (evyb_of t1 ?_)
        rw [if_neg (by decide), if_neg (by decide)]
        exact fin κ6 b6
end
end BY
end

section
set_option Elab.async false
set_option linter.all false
set_option maxRecDepth 100000
set_option maxHeartbeats 600000
namespace BY
open PySem PySem.Spec PyProof.Rows L2
open Evl (Ex ex_l ex_t)
/-! ### the law's own tree -/
def upRows (roads : List Road) (d : List (Nat × Nat)) : List (Nat × Nat × Nat × Nat) := (List.range roads.length).filterMap fun k => match roads[k]? with
  | some r => if isUp k r.members d = true then some (k, r.one, r.other, r.cost) else none
  | none => none
def encRow (x : Nat × Nat × Nat × Nat) : PyData := .tuple [nI x.1, nI x.2.1, nI x.2.2.1, nI x.2.2.2]
def fx__law_row : FX := fun as κ a κ' => ∃ n k, n ≤ 100 ∧ as = [.d (nI n), .d (nI k)] ∧ a = .c κ.length ∧ κ' = κ ++ [(((List.range n).map fun j => if k = j then 0 else 999).map nI).map .d]
def fx__law_up : FX := fun as κ a κ' => ∃ p d, PlanOk p ∧ d.length ≤ 1000 ∧ as = [.d (encPlan p), .d (encDown d)] ∧ a = .d (.list ((upRows p.roads d).map encRow)) ∧ κ' = κ
local macro_rules | `(tactic| walk_at "ev") => `(tactic| first
  | exact evx_var rfl | exact evx_int | exact evx_bl | exact evx_non | exact evx_str | exact evx_v | exact eva_nil
  | (apply eva_cons; (focus (walk_at "ev")); (focus (walk_at "ev")))
  | (apply evx_op; (focus (walk_at "ev")); (focus (walk_at "ev")); (focus (walk_at "rx")))
  | (apply evx_un; (focus (walk_at "ev")); (focus (exact ru_negI)))
  | (apply evx_tup2 <;> (walk_at "ev"))
  | (apply evx_tup3 <;> (walk_at "ev"))
  | (apply evx_slT; (focus (walk_at "ev")); (focus (walk_at "eo")); (focus (walk_at "eo")))
  | (apply evx_cb; (focus (walk_at "ev")); (focus (walk_at "rc")))
  | (apply evx_chain <;> (walk_at "ev"))
  | (apply evx_has; (focus (walk_at "ev")); (focus (walk_at "fx"))))
local macro_rules | `(tactic| walk_at "eo") => `(tactic| first | exact evo_none | exact evo_some (by walk_at "ev"))
local macro_rules | `(tactic| walk_at "fx") => `(tactic| first | exact ⟨_, _, _, rfl, rfl, rfl⟩ | exact ⟨_, _, rfl, rfl, rfl⟩ | exact ⟨_, rfl, rfl, rfl⟩)
local macro_rules | `(tactic| walk_at "rx") => `(tactic| first
  | exact rx_addI | exact rx_eqDI | exact rx_neDI | exact rx_ixT0 rfl | exact rx_ixT1 rfl | exact rx_ixT2 rfl | exact rx_ixT3 rfl | exact rx_ixT4 rfl | exact rx_isN | exact rx_notN | exact rx_int | exact rx_bl)
local macro_rules | `(tactic| walk_at "rc") => `(tactic| first
  | exact rc_isi .d (kb_bool _) | exact rc_isi .d (kb_int _) | exact rc_isi .d (kb_tuple _) | exact rc_isi .d (kb_list _) | exact rc_isi .d (kb_str _) | exact rc_lenT | exact rc_lenL | exact rc_any | exact rc_all)
def t__law_down (K : PySem.W.Frag) (w : World) : TS := (tSeq (tAsg (tLst tNil) (gName 3)) (tSeq (tFor (iRng1 (tCons (tCB (rLn K) (tCons (tOp (rIx K) (tVar 1) (tC (.int 1))) tNil)) tNil)) (gName 4) (tAsg (tOp (rAddG K) (tVar 3) (tLc (iRng1 (tCons (tOp (rIx K) (tOp (rIx K) (tOp (rIx K) (tVar 1) (tC (.int 1))) (tVar 4)) (tC (.int 3))) tNil)) (gName 5) (tTest (tOp (rEqD K) (tHasY K fy__law_take pre__law_take (tCons (tVar 0) (tCons (tVar 2) tNil))) (tC (.int 0)))) (tTup (tCons (tVar 4) (tCons (tVar 5) tNil))) [5])) (gName 3))) (tRet (tCB (rTpl K) (tCons (tVar 3) tNil)))))
def t__law_row (K : PySem.W.Frag) (w : World) : TS := (tRet (tLc (iRng1 (tCons (tVar 0) tNil)) (gName 2) tYes (tOp (rI CMul fun i j => .int (i * j)) (tC (.int 999)) (tCB rInt1 (tCons (tOp (rNeD K) (tVar 1) (tVar 2)) tNil))) [2]))
def t__law_up (K : PySem.W.Frag) (w : World) : TS := (tSeq (tAsg (tLst tNil) (gName 2)) (tSeq (tFor (iRng1 (tCons (tCB (rLn K) (tCons (tOp (rIx K) (tVar 0) (tC (.int 1))) tNil)) tNil)) (gName 3) (tSeq (tAsg (tOp (rIx K) (tOp (rIx K) (tVar 0) (tC (.int 1))) (tVar 3)) (gTup K 5 (gCons (gName 4) (gCons (gName 5) (gCons (gName 6) (gCons (gName 7) (gCons (gName 8) gNil))))))) (tIfS (tTest (tOp (rNeD K) (tLc (iRng1 (tCons (tVar 7) tNil)) (gName 9) (tTest (tOp (rInTD K true) (tTup (tCons (tVar 3) (tCons (tVar 9) tNil))) (tVar 1))) (tVar 9) [9]) (tLst tNil))) (tDrop (tBM K "list" rAppend (tVar 2) (tCons (tTup (tCons (tVar 3) (tCons (tVar 4) (tCons (tVar 5) (tCons (tVar 6) tNil))))) tNil))) tNext))) (tRet (tVar 2))))
section
variable {K : PySem.W.Frag} {w : World} {κ κ1 κ2 : Cells} {δ : Slots} {tm ta tb : TE}
theorem good__law_down : GoodY K fy__law_down pre__law_down (t__law_down K w) 6 3 where
  len := by rintro as κ ⟨b, l, p, m, rfl, _⟩; rfl
  grow := by rintro as κ a κ' ⟨b, l, p, m, d, _, _, _, _, _, h⟩; rw [h.len]; exact Nat.le_refl _
  run := by
    rintro as κ ⟨b, l, p, m, rfl, hB, ok, m0, m1⟩ hl
    show StX K (t__law_down K w) [some (.c b), some (.d (encPlan p)), some (.d (nI m)), none, none, none] κ _
    have h8 := ok.m8
    refine stx_seq' (stx_asg (evx_lstC eva_nil rfl) ?_)
    show StX K _ [some (.c b), some (.d (encPlan p)), some (.d (nI m)), some (.c κ.length), none, none] (κ ++ [[]]) _
    have hmR : (p.roads.map encRoad).length = p.roads.length := List.length_map ..
    refine stx_seq' (stx_for (Inv := fun _ => True) (n := p.roads.length) (fun i δ κ1 => ∃ κ2 junk k d, κ1 = κ2 ++ junk ∧ BoxTo b l κ κ2 ∧ κ.length ≤ k ∧ κ1[k]? = some ((d.map encPair).map AV.d) ∧ DownOk p d ∧ d.length ≤ 3 * i ∧ ∃ u1 u2, δ = [some (.c b), some (.d (encPlan p)), some (.d (nI m)), some (.c k), u1, u2])
      (by rw [← hmR]; exact src_range1 (eva_cons (evx_cb (eva_cons (evx_op (x := .d (encPlan p)) (by walk_at "ev") (by walk_at "ev") (rx_ixT1 rfl)) eva_nil) rc_lenT) eva_nil)) ⟨κ, [[]], κ.length, [], rfl, .refl hB, Nat.le_refl _, get_cell, (fun x hx => nomatch hx), by simp, none, none, rfl⟩ (fun _ _ _ _ => trivial) ?_ ?_)
    · rintro i δ κ1 hi ⟨κ2, junk, k, d, rfl, b2, hk, hc, hd, hdl, u1, u2, rfl⟩
      obtain ⟨r, hr⟩ := get_of hi
      have hrd := ok.rd r (List.mem_of_getElem? hr)
      have h3 := hrd.m3
      refine ⟨_, _, gx_name, ?_⟩
      show StX K _ [some (.c b), some (.d (encPlan p)), some (.d (nI m)), some (.c k), some (.d (nI i)), u2] _ _
      refine sty_asg (evy_op (P1 := fun x κ3 => x = .c k ∧ κ3 = κ2 ++ junk) (evy_of (by walk_at "ev") ⟨rfl, rfl⟩) fun x κ3 ⟨ex, ek⟩ => ?_)
      subst ex ek
      have qm : EvX K (tOp (rIx K) (tOp (rIx K) (tOp (rIx K) (tVar 1) (tC (.int 1))) (tVar 4)) (tC (.int 3))) [some (.c b), some (.d (encPlan p)), some (.d (nI m)), some (.c k), some (.d (nI i)), u2] (κ2 ++ junk) (.d (nI r.members)) (κ2 ++ junk) :=
        evx_op (x := .d (encRoad r)) (evx_op (evx_op (x := .d (encPlan p)) (by walk_at "ev") (by walk_at "ev") (rx_ixT1 rfl)) (by walk_at "ev") (rx_ixTDg (get_map hr))) (by walk_at "ev") (rx_ixT3 rfl)
      refine evy_lcC (n := r.members) (Inv := fun _ => True) (fun j acc κ3 => ∃ κ4 ms, κ3 = κ4 ++ junk ∧ BoxTo b l κ κ4 ∧ acc = ((ms.map fun x => ((i, x) : Nat × Nat)).map encPair).map AV.d ∧ ms.length ≤ j ∧ ∀ x ∈ ms, x < r.members) (src_range1 (n := ((r.members : Nat) : Int)) (eva_cons qm eva_nil)) (by omega) ⟨κ2, [], rfl, b2, rfl, Nat.le_refl _, by simp⟩ (fun _ _ _ _ => trivial) ?_ ?_
      · rintro j acc κ3 hj ⟨κ4, ms, rfl, b4, rfl, hml, hms⟩
        have hj' : j < r.members := by omega
        refine ⟨_, _, gx_name, by simp, ?_⟩
        show EvYB K _ [some (.c b), some (.d (encPlan p)), some (.d (nI m)), some (.c k), some (.d (nI i)), some (.d (nI j))] _ _
        refine evyb_test (evy_op (P1 := fun x κ5 => ∃ q κ6, x = .d (nI q) ∧ κ5 = κ6 ++ junk ∧ BoxTo b l κ κ6) (evy_takeC (l := l) (m := m) rfl b4.box.app m0 m1 (by walk_at "ev") fun q κ5 _ b5 => ?_) fun x κ5 ⟨q, κ6, ex, ek, b6⟩ => ?_)
        · obtain ⟨κ6, e6, b6⟩ := b5.split b4.box
          exact ⟨q, κ6, rfl, e6, b4.trans b6⟩
        subst ex ek
        refine evy_of (by walk_at "ev") ⟨_, _, rx_eqDI, _, rfl, ?_⟩
        by_cases c0 : ((q : Nat) : Int) = 0
        · rw [if_pos (decide_eq_true c0)]
          refine evy_of (a := .d (encPair (i, j))) (evx_tup2 (by walk_at "ev") (by walk_at "ev")) ⟨κ6, ms ++ [j], rfl, b6, by simp, by simp; omega, fun x hx => ?_⟩
          rcases List.mem_append.mp hx with h | h
          · exact hms x h
          · rw [List.mem_singleton.mp h]; exact hj'
        · rw [if_neg (by simp only [decide_eq_true_eq]; exact c0)]
          exact ⟨κ6, ms, rfl, b6, rfl, by omega, hms⟩
      · rintro acc κ3 ⟨κ4, ms, rfl, b4, rfl, hml, hms⟩
        have hc' : (κ4 ++ junk ++ [((ms.map fun x => ((i, x) : Nat × Nat)).map encPair).map AV.d])[k]? = some ((d.map encPair).map AV.d) := by
          have hkl : k < (κ2 ++ junk).length := (List.getElem?_eq_some_iff.mp hc).1
          have e4 : κ4.length = κ2.length := b4.len.trans b2.len.symm
          have hk2 : κ2.length ≤ k := by rw [b2.len]; exact hk
          rw [List.getElem?_append_left (by rw [List.length_append] at hkl ⊢; omega), List.getElem?_append_right (by omega), e4]
          rw [List.getElem?_append_right hk2] at hc
          exact hc
        refine ⟨_, _, rx_addC hc' get_cell rfl (by simp; omega), κ4, junk ++ [((ms.map fun x => ((i, x) : Nat × Nat)).map encPair).map AV.d, (((d ++ ms.map fun x => ((i, x) : Nat × Nat))).map encPair).map AV.d], _, d ++ ms.map fun x => ((i, x) : Nat × Nat), ?_, b4, ?_, ?_, ?_, ?_, _, _, rfl⟩
        · simp
        · have := b4.len
          simp only [List.length_append]
          omega
        · simp [List.getElem?_append_right]
        · intro x hx
          rcases List.mem_append.mp hx with h | h
          · exact hd x h
          · obtain ⟨y, hy, rfl⟩ := List.mem_map.mp h
            exact ⟨r, hr, hms y hy⟩
        · simp only [List.length_append, List.length_map]
          omega
    · rintro δ κ1 ⟨κ2, junk, k, d, rfl, b2, hk, hc, hd, hdl, u1, u2, rfl⟩
      refine stx_ret (evx_cb (by walk_at "ev") (rc_tupC hc)) ?_
      exact ⟨.d (encDown d), κ2, ⟨b, l, p, m, d, rfl, hB, hd, by omega, rfl, b2⟩, b2.lows hl, Meets.eq (by simp [low])⟩
theorem good__law_row : Good K fx__law_row (t__law_row K w) 3 2 where
  len := by rintro as κ a κ' ⟨n, k, _, rfl, _, _⟩; rfl
  grow := by rintro as κ a κ' ⟨n, k, _, _, _, rfl⟩; simp
  lo := by
    rintro as κ a κ' ⟨n, k, _, _, _, rfl⟩ hl _ xs hx
    rcases List.mem_append.mp hx with h | h
    · exact lows_mono (by simp) xs (hl xs h)
    · rw [List.mem_singleton.mp h]
      exact lows_data _
  run := by
    rintro as κ a κ' ⟨n, k, hn, rfl, rfl, rfl⟩
    show StX K (t__law_row K w) [some (.d (nI n)), some (.d (nI k)), none] _ _
    refine stx_ret (lc_pureC (m := n) (src_range1 (n := ((n : Nat) : Int)) (by walk_at "ev")) (by omega) rfl (fun j => if k = j then 0 else 999) nI (fun j hj => ⟨_, _, gx_name, by simp, ?_⟩)) (Meets.same (by simp [low]))
    have hb : ∀ c : Bool, CMul 999 (if c then 1 else 0) := fun c => .inl ⟨by decide, by decide⟩
    refine evx_eq (evx_op (by walk_at "ev") (evx_cb (by walk_at "ev") rc_intB) (rx_intC (hb _))) ?_
    by_cases c : k = j
    · subst c
      simp [nI]
    · have : ¬ ((k : Int) = (j : Int)) := by omega
      simp [nI, c, this]
theorem good__law_up : Good K fx__law_up (t__law_up K w) 10 2 := .pure (by rintro as κ a κ' ⟨p, d, _, _, rfl, rfl, rfl⟩; exact ⟨rfl, rfl⟩) (by
  rintro as κ0 a κ ⟨p, d, ok, hd, rfl, rfl, rfl⟩
  show StX K (t__law_up K w) [some (.d (encPlan p)), some (.d (encDown d)), none, none, none, none, none, none, none, none] _ _
  have h8 := ok.m8
  have hmR : (p.roads.map encRoad).length = p.roads.length := List.length_map ..
  refine stx_seq' (stx_asg (evx_lstC eva_nil rfl) ?_)
  show StX K _ [some (.d (encPlan p)), some (.d (encDown d)), some (.c κ.length), none, none, none, none, none, none, none] (κ ++ [[]]) _
  refine stx_seq' (stx_for (Inv := fun _ => True) (n := p.roads.length) (fun i δ κ1 => κ1 = κ ++ [(((List.range i).filterMap fun k => match p.roads[k]? with
      | some r => if isUp k r.members d = true then some (k, r.one, r.other, r.cost) else none
      | none => none).map encRow).map AV.d] ∧ ∃ u1 u2 u3 u4 u5 u6 u7, δ = [some (.d (encPlan p)), some (.d (encDown d)), some (.c κ.length), u1, u2, u3, u4, u5, u6, u7])
    (by rw [← hmR]; exact src_range1 (eva_cons (evx_cb (eva_cons (evx_op (x := .d (encPlan p)) (by walk_at "ev") (by walk_at "ev") (rx_ixT1 rfl)) eva_nil) rc_lenT) eva_nil)) ⟨rfl, none, none, none, none, none, none, none, rfl⟩ (fun _ _ _ _ => trivial) ?_ ?_)
  · rintro i δ κ1 hi ⟨rfl, u1, u2, u3, u4, u5, u6, u7, rfl⟩
    obtain ⟨r, hr⟩ := get_of hi
    have hrd := ok.rd r (List.mem_of_getElem? hr)
    have hm3 := hrd.m3
    have hstep : (List.range (i + 1)).filterMap (fun k => match p.roads[k]? with
      | some r => if isUp k r.members d = true then some (k, r.one, r.other, r.cost) else none
      | none => none) = (List.range i).filterMap (fun k => match p.roads[k]? with
      | some r => if isUp k r.members d = true then some (k, r.one, r.other, r.cost) else none
      | none => none) ++ (if isUp i r.members d = true then [(i, r.one, r.other, r.cost)] else []) := by
      rw [List.range_succ, List.filterMap_append]
      congr 1
      simp only [List.filterMap_cons, List.filterMap_nil, hr]
      by_cases c : isUp i r.members d = true <;> simp only [c, if_true, if_false] <;> rfl
    generalize hC : (List.range i).filterMap (fun k => match p.roads[k]? with
      | some r => if isUp k r.members d = true then some (k, r.one, r.other, r.cost) else none
      | none => none) = C at hstep
    have hcl : C.length ≤ i := by rw [← hC]; exact Nat.le_trans (List.length_filterMap_le _ _) (by simp)
    refine ⟨_, _, gx_name, ?_⟩
    show StX K _ [some (.d (encPlan p)), some (.d (encDown d)), some (.c κ.length), some (.d (nI i)), u2, u3, u4, u5, u6, u7] (κ ++ [(C.map encRow).map AV.d]) _
    have q0 : EvX K (tOp (rIx K) (tOp (rIx K) (tVar 0) (tC (.int 1))) (tVar 3)) [some (.d (encPlan p)), some (.d (encDown d)), some (.c κ.length), some (.d (nI i)), u2, u3, u4, u5, u6, u7] (κ ++ [(C.map encRow).map AV.d]) (.d (encRoad r)) (κ ++ [(C.map encRow).map AV.d]) :=
      evx_op (evx_op (x := .d (encPlan p)) (by walk_at "ev") (by walk_at "ev") (rx_ixT1 rfl)) (by walk_at "ev") (rx_ixTDg (get_map hr))
    refine stx_seq' (stx_asgG q0 (gx_tupD (ds := [nI r.one, nI r.other, nI r.cost, nI r.members, .tuple (r.lans.map nI)]) (gxs_cons gx_name (gxs_cons gx_name (gxs_cons gx_name (gxs_cons gx_name (gxs_cons gx_name gxs_nil))))) rfl) ?_)
    show StX K _ [some (.d (encPlan p)), some (.d (encDown d)), some (.c κ.length), some (.d (nI i)), some (.d (nI r.one)), some (.d (nI r.other)), some (.d (nI r.cost)), some (.d (nI r.members)), some (.d (.tuple (r.lans.map nI))), u7] (κ ++ [(C.map encRow).map AV.d]) _
    have q1 : EvX K (tLc (iRng1 (tCons (tVar 7) tNil)) (gName 9) (tTest (tOp (rInTD K true) (tTup (tCons (tVar 3) (tCons (tVar 9) tNil))) (tVar 1))) (tVar 9) [9]) [some (.d (encPlan p)), some (.d (encDown d)), some (.c κ.length), some (.d (nI i)), some (.d (nI r.one)), some (.d (nI r.other)), some (.d (nI r.cost)), some (.d (nI r.members)), some (.d (.tuple (r.lans.map nI))), u7] (κ ++ [(C.map encRow).map AV.d]) (.d (.list ((((List.range r.members).filter fun m => !d.contains (i, m)).map fun m => m).map nI))) (κ ++ [(C.map encRow).map AV.d]) := by
      refine lc_pure (m := r.members) (src_range1 (n := ((r.members : Nat) : Int)) (by walk_at "ev")) (by omega) (fun m => !d.contains (i, m)) (fun m => m) nI (fun j hj => ⟨_, _, gx_name, by simp, ?_, fun _ => by walk_at "ev"⟩)
      refine evb_eq (evb_test (evx_op (x := .d (encPair (i, j))) (by walk_at "ev") (by walk_at "ev") (rx_inT .d (pair_shaped _) (down_shaped d)))) ?_
      rw [if_pos rfl, any_pairs]
    have q2 : EvB K (tTest (tOp (rNeD K) (tLc (iRng1 (tCons (tVar 7) tNil)) (gName 9) (tTest (tOp (rInTD K true) (tTup (tCons (tVar 3) (tCons (tVar 9) tNil))) (tVar 1))) (tVar 9) [9]) (tLst tNil))) [some (.d (encPlan p)), some (.d (encDown d)), some (.c κ.length), some (.d (nI i)), some (.d (nI r.one)), some (.d (nI r.other)), some (.d (nI r.cost)), some (.d (nI r.members)), some (.d (.tuple (r.lans.map nI))), u7] (κ ++ [(C.map encRow).map AV.d]) (isUp i r.members d) (κ ++ [(C.map encRow).map AV.d]) := by
      refine evb_eq (evb_test (evx_op q1 (evx_lstD (ds := []) eva_nil) (rx_neD .d .d (shaped_nIs _) (by rfl)))) ?_
      have e : isUp i r.members d = !((List.range r.members).filter fun m => !d.contains (i, m)).isEmpty := by
        unfold isUp
        rw [Bool.eq_iff_iff, List.any_eq_true]
        simp only [Bool.not_eq_true', List.isEmpty_eq_false_iff_exists_mem, List.mem_filter]
      rw [e, List.map_id']
      cases (List.range r.members).filter fun m => !d.contains (i, m) with
      | nil => simp [PyData.eqv, PyData.eqvAll]
      | cons x xs => simp [PyData.eqv, PyData.eqvAll]
    refine stx_if q2 (fun c => ?_) (fun c => stx_next ⟨?_, _, _, _, _, _, _, _, rfl⟩)
    · refine stx_drop (evx_bm (by walk_at "ev") get_cell (eva_cons (evx_tup4 (by walk_at "ev") (by walk_at "ev") (by walk_at "ev") (by walk_at "ev")) eva_nil) (rm_append get_cell (by simp; omega))) ⟨?_, _, _, _, _, _, _, _, rfl⟩
      rw [set_cell, hstep, if_pos c, List.map_append, List.map_append]
      rfl
    · rw [hstep, if_neg (by rw [c]; decide), List.append_nil]
  · rintro δ κ1 ⟨rfl, u1, u2, u3, u4, u5, u6, u7, rfl⟩
    exact stx_ret (by walk_at "ev") (ok_frz rfl))
end
end BY
end

section
set_option Elab.async false
set_option linter.all false
set_option maxRecDepth 100000
set_option maxHeartbeats 600000
namespace BY
open PySem PySem.Spec PyProof.Rows L2
open Evl (Ex ex_l ex_t)
/-! ### all-pairs sums of the law's own -/
abbrev Mx := Nat → Nat → Nat
def updM (M : Mx) (k j v : Nat) : Mx := fun x y => if x = k ∧ y = j then v else M x y
def startM : Mx := fun k j => if k = j then 0 else 999
def stepU (M : Mx) (x : Nat × Nat × Nat × Nat) : Mx := let M1 := updM M x.2.1 x.2.2.1 (min x.2.2.2 (M x.2.1 x.2.2.1)); updM M1 x.2.2.1 x.2.1 (M1 x.2.1 x.2.2.1)
def stepJ (m k : Nat) (M : Mx) (j : Nat) : Mx := updM M k j (min (M k j) (M k m + M m j))
def stepKM (n m : Nat) (M : Mx) (k : Nat) : Mx := (List.range n).foldl (stepJ m k) M
def stepM (n : Nat) (M : Mx) (m : Nat) : Mx := (List.range n).foldl (stepKM n m) M
def farsM (p : Plan) (d : List (Nat × Nat)) : Mx := (List.range p.ranks.length).foldl (stepM p.ranks.length) ((upRows p.roads d).foldl stepU startM)
def rowC (n : Nat) (M : Mx) (k : Nat) : List AV := (List.range n).map fun j => AV.d (nI (M k j))
def idxC (m n : Nat) : List AV := (List.range n).map fun k => AV.c (m + k)
def matC (κ : Cells) (n : Nat) (M : Mx) : Cells := κ ++ (List.range n).map (rowC n M) ++ [idxC κ.length n]
structure MatAt (κ1 : Cells) (m n : Nat) (M : Mx) : Prop where
  ix : κ1[m + n]? = some (idxC m n)
  row : ∀ k, k < n → κ1[m + k]? = some (rowC n M k)
def fx__law_fars : FX := fun as κ a κ' => ∃ p d, PlanOk p ∧ d.length ≤ 1000 ∧ as = [.d (encPlan p), .d (encDown d)] ∧ a = .c (κ.length + p.ranks.length) ∧ κ' = matC κ p.ranks.length (farsM p d)
local macro_rules | `(tactic| walk_at "ev") => `(tactic| first
  | exact evx_var rfl | exact evx_int | exact evx_bl | exact evx_non | exact evx_str | exact evx_v | exact eva_nil
  | (apply eva_cons; (focus (walk_at "ev")); (focus (walk_at "ev")))
  | (apply evx_op; (focus (walk_at "ev")); (focus (walk_at "ev")); (focus (walk_at "rx")))
  | (apply evx_un; (focus (walk_at "ev")); (focus (exact ru_negI)))
  | (apply evx_tup2 <;> (walk_at "ev"))
  | (apply evx_tup3 <;> (walk_at "ev"))
  | (apply evx_slT; (focus (walk_at "ev")); (focus (walk_at "eo")); (focus (walk_at "eo")))
  | (apply evx_cb; (focus (walk_at "ev")); (focus (walk_at "rc")))
  | (apply evx_chain <;> (walk_at "ev"))
  | (apply evx_has; (focus (walk_at "ev")); (focus (walk_at "fx"))))
local macro_rules | `(tactic| walk_at "eo") => `(tactic| first | exact evo_none | exact evo_some (by walk_at "ev"))
local macro_rules | `(tactic| walk_at "fx") => `(tactic| first | exact ⟨_, _, _, rfl, rfl, rfl⟩ | exact ⟨_, _, rfl, rfl, rfl⟩ | exact ⟨_, rfl, rfl, rfl⟩)
local macro_rules | `(tactic| walk_at "rx") => `(tactic| first
  | exact rx_addI | exact rx_eqDI | exact rx_neDI | exact rx_ixT0 rfl | exact rx_ixT1 rfl | exact rx_ixT2 rfl | exact rx_ixT3 rfl | exact rx_ixT4 rfl | exact rx_isN | exact rx_notN | exact rx_int | exact rx_bl)
local macro_rules | `(tactic| walk_at "rc") => `(tactic| first
  | exact rc_isi .d (kb_bool _) | exact rc_isi .d (kb_int _) | exact rc_isi .d (kb_tuple _) | exact rc_isi .d (kb_list _) | exact rc_isi .d (kb_str _) | exact rc_lenT | exact rc_lenL | exact rc_any | exact rc_all)
def t__law_fars (K : PySem.W.Frag) (w : World) : TS := (tSeq (tAsg (tCB (rLn K) (tCons (tOp (rIx K) (tVar 0) (tC (.int 0))) tNil)) (gName 2)) (tSeq (tAsg (tLc (iRng1 (tCons (tVar 2) tNil)) (gName 4) tYes (tHas K fx__law_row (tCons (tVar 2) (tCons (tVar 4) tNil))) [4]) (gName 3)) (tSeq (tFor (iSeq K (tHas K fx__law_up (tCons (tVar 0) (tCons (tVar 1) tNil)))) (gTup K 4 (gCons (gName 5) (gCons (gName 6) (gCons (gName 7) (gCons (gName 8) gNil))))) (tSeq (tAsg (tCB (rMinG K) (tCons (tVar 8) (tCons (tOp (rIx K) (tOp (rIx K) (tVar 3) (tVar 6)) (tVar 7)) tNil))) (gSub (tOp (rIx K) (tVar 3) (tVar 6)) (tVar 7) rSetL)) (tAsg (tOp (rIx K) (tOp (rIx K) (tVar 3) (tVar 6)) (tVar 7)) (gSub (tOp (rIx K) (tVar 3) (tVar 7)) (tVar 6) rSetL)))) (tSeq (tFor (iRng1 (tCons (tVar 2) tNil)) (gName 9) (tFor (iRng1 (tCons (tVar 2) tNil)) (gName 4) (tFor (iRng1 (tCons (tVar 2) tNil)) (gName 10) (tAsg (tCB (rMinG K) (tCons (tOp (rIx K) (tOp (rIx K) (tVar 3) (tVar 4)) (tVar 10)) (tCons (tOp (rAddG K) (tOp (rIx K) (tOp (rIx K) (tVar 3) (tVar 4)) (tVar 9)) (tOp (rIx K) (tOp (rIx K) (tVar 3) (tVar 9)) (tVar 10))) tNil))) (gSub (tOp (rIx K) (tVar 3) (tVar 4)) (tVar 10) rSetL))))) (tRet (tVar 3))))))
section
variable {K : PySem.W.Frag} {w : World} {κ κ1 κ2 : Cells} {δ : Slots} {tm ta tb te : TE}
theorem map_range_get {α : Type} {f : Nat → α} {n i : Nat} (h : i < n) : ((List.range n).map f)[i]? = some (f i) := by
  rw [List.getElem?_map, List.getElem?_range h]
  rfl
theorem matAt (κ : Cells) (n : Nat) (M : Mx) : MatAt (matC κ n M) κ.length n M where
  ix := by
    unfold matC
    rw [List.append_assoc, List.getElem?_append_right (by omega), Nat.add_sub_cancel_left, List.getElem?_append_right (by simp)]
    simp
  row := fun k hk => by
    unfold matC
    rw [List.append_assoc, List.getElem?_append_right (by omega), Nat.add_sub_cancel_left, List.getElem?_append_left (by simpa using hk), map_range_get hk]
theorem MatAt.app {m n : Nat} {M : Mx} (h : MatAt κ1 m n M) (j : Cells) : MatAt (κ1 ++ j) m n M where
  ix := by
    rw [List.getElem?_append_left (List.getElem?_eq_some_iff.mp h.ix).1]
    exact h.ix
  row := fun k hk => by
    rw [List.getElem?_append_left (List.getElem?_eq_some_iff.mp (h.row k hk)).1]
    exact h.row k hk
theorem matC_len (κ : Cells) (n : Nat) (M : Mx) : (matC κ n M).length = κ.length + n + 1 := by simp [matC]; omega
theorem ev_at {f a b m n k j : Nat} {M : Mx} (h : MatAt κ1 m n M) (hf : δ[f]? = some (some (.c (m + n)))) (ha : δ[a]? = some (some (.d (nI k)))) (hb : δ[b]? = some (some (.d (nI j)))) (hk : k < n) (hj : j < n) :
    EvX K (tOp (rIx K) (tOp (rIx K) (tVar f) (tVar a)) (tVar b)) δ κ1 (.d (nI (M k j))) κ1 :=
  evx_op (evx_op (evx_var hf) (evx_var ha) (rx_ixCg h.ix (map_range_get hk))) (evx_var hb) (rx_ixCg (h.row k hk) (map_range_get hj))
theorem rowC_set {n : Nat} {M : Mx} {k j v : Nat} (hj : j < n) : (rowC n M k).set j (.d (nI v)) = rowC n (updM M k j v) k := by
  apply List.ext_getElem?
  intro i
  unfold rowC updM
  by_cases hi : i < n
  · rw [map_range_get hi, List.getElem?_set]
    by_cases e : j = i
    · subst e; simp [hi]
    · have e' : ¬ i = j := fun z => e z.symm
      rw [if_neg e, map_range_get hi]
      simp [e']
  · rw [List.getElem?_eq_none (by simp; omega), List.getElem?_eq_none (by simp; omega)]
theorem rowC_other {n : Nat} {M : Mx} {k j v i : Nat} (h : i ≠ k) : rowC n (updM M k j v) i = rowC n M i := by
  unfold rowC updM
  simp [h]
theorem matC_set {n : Nat} {M : Mx} {k j v : Nat} (hk : k < n) (hj : j < n) : (matC κ n M).set (κ.length + k) ((rowC n M k).set j (.d (nI v))) = matC κ n (updM M k j v) := by
  rw [rowC_set hj]
  unfold matC
  rw [List.append_assoc, List.append_assoc, List.set_append_right _ _ (by omega), Nat.add_sub_cancel_left, List.set_append_left _ _ (by simpa using hk)]
  congr 2
  apply List.ext_getElem?
  intro i
  by_cases hi : i < n
  · rw [map_range_get hi, List.getElem?_set]
    by_cases e : k = i
    · subst e; simp [hk]
    · rw [if_neg e, map_range_get hi, rowC_other (fun z => e z.symm)]
  · rw [List.getElem?_eq_none (by simp; omega), List.getElem?_eq_none (by simp; omega)]
theorem st_at {f a b n k j v : Nat} {M : Mx} {P : Out → Prop} (h : EvX K te δ (matC κ n M) (.d (nI v)) (matC κ n M)) (hf : δ[f]? = some (some (.c (κ.length + n)))) (ha : δ[a]? = some (some (.d (nI k)))) (hb : δ[b]? = some (some (.d (nI j)))) (hk : k < n) (hj : j < n) (p : P (.nx δ (matC κ n (updM M k j v)))) :
    StX K (tAsg te (gSub (tOp (rIx K) (tVar f) (tVar a)) (tVar b) rSetL)) δ (matC κ n M) P :=
  stx_setC (k := κ.length + k) (j := j) h (evx_op (evx_var hf) (evx_var ha) (rx_ixCg (matAt κ n M).ix (map_range_get hk))) (evx_var hb) ((matAt κ n M).row k hk) (by simpa [rowC] using hj) (by rw [matC_set hk hj]; exact p)
theorem rc_minN (a b : Nat) : RC K (rMinG K) κ [.d (nI a), .d (nI b)] (.d (nI (min a b))) κ := by
  have q := rc_minG2 (K := K) (κ := κ) (d := nI a) (e := nI b) ⟨fun x hx y hy => by
    simp only [List.mem_cons, List.not_mem_nil, or_false] at hx hy
    rcases hx with rfl | rfl <;> rcases hy with rfl | rfl <;> simp [nI, PySem.W.alike], fun x hx => by
    simp only [List.mem_cons, List.not_mem_nil, or_false] at hx
    rcases hx with rfl | rfl <;> (intro e; cases e)⟩ (by simp [nI, PyData.depthAll, PyData.depth])
  have e : (if PySem.W.dataLt (nI b) (nI a) = true then nI b else nI a) = nI (min a b) := by
    unfold nI
    rw [PySem.W.dataLt_int]
    by_cases c : b < a
    · rw [if_pos (decide_eq_true (by omega)), Nat.min_eq_right (by omega)]
    · rw [if_neg (by simp only [decide_eq_true_eq]; omega), Nat.min_eq_left (by omega)]
  rw [e] at q
  exact q
theorem upRows_lt {p : Plan} (ok : PlanOk p) (d : List (Nat × Nat)) : ∀ x ∈ upRows p.roads d, x.2.1 < p.ranks.length ∧ x.2.2.1 < p.ranks.length := fun x hx => by
  unfold upRows at hx
  obtain ⟨k, _, h⟩ := List.mem_filterMap.mp hx
  cases hr : p.roads[k]? with
  | none => rw [hr] at h; cases h
  | some r =>
    rw [hr] at h
    have hrd := ok.rd r (List.mem_of_getElem? hr)
    have h1 := hrd.lt
    have h2 := hrd.in_
    by_cases c : isUp k r.members d = true
    · simp only [c, if_true, Option.some.injEq] at h
      subst h
      exact ⟨by show r.one < _; omega, h2⟩
    · simp only [c, if_false] at h
      cases h
theorem good__law_fars : Good K fx__law_fars (t__law_fars K w) 11 2 where
  len := by rintro as κ a κ' ⟨p, d, _, _, rfl, _, _⟩; rfl
  grow := by rintro as κ a κ' ⟨p, d, _, _, _, _, rfl⟩; rw [matC_len]; omega
  lo := by
    rintro as κ a κ' ⟨p, d, _, _, _, _, rfl⟩ hl _ xs hx
    rw [matC_len]
    unfold matC at hx
    rcases List.mem_append.mp hx with hx | hx
    · rcases List.mem_append.mp hx with h | h
      · exact lows_mono (by omega) xs (hl xs h)
      · obtain ⟨k, _, rfl⟩ := List.mem_map.mp h
        have := lows_data (n := κ.length + p.ranks.length + 1) ((List.range p.ranks.length).map fun j => nI (farsM p d k j))
        rw [List.map_map] at this
        exact this
    · rw [List.mem_singleton.mp hx]
      have : ∀ ks : List Nat, (∀ k ∈ ks, k < p.ranks.length) → lows (κ.length + p.ranks.length + 1) (ks.map fun k => AV.c (κ.length + k)) = true := by
        intro ks
        induction ks with
        | nil => intro _; rfl
        | cons k ks ih =>
          intro h
          have h1 := h k (List.mem_cons_self ..)
          have h2 := ih fun x hx => h x (List.mem_cons_of_mem _ hx)
          simp only [List.map_cons, lows, low, h2, Bool.and_true, decide_eq_true_eq]
          omega
      exact this _ fun k hk => List.mem_range.mp hk
  run := by
    rintro as κ a κ' ⟨p, d, ok, hd, rfl, rfl, rfl⟩
    show StX K (t__law_fars K w) [some (.d (encPlan p)), some (.d (encDown d)), none, none, none, none, none, none, none, none, none] _ _
    have h6 := ok.n6
    have hmN : (p.ranks.map nI).length = p.ranks.length := List.length_map ..
    have hrows := upRows_lt ok d
    obtain ⟨n, hn⟩ : ∃ n, n = p.ranks.length := ⟨_, rfl⟩
    have q0 : EvX K (tCB (rLn K) (tCons (tOp (rIx K) (tVar 0) (tC (.int 0))) tNil)) [some (.d (encPlan p)), some (.d (encDown d)), none, none, none, none, none, none, none, none, none] κ (.d (nI n)) κ := by
      rw [hn, ← hmN]
      exact evx_cb (eva_cons (evx_op (x := .d (encPlan p)) (by walk_at "ev") (by walk_at "ev") (rx_ixT0 rfl)) eva_nil) rc_lenT
    refine stx_seq' (stx_asg q0 ?_)
    show StX K _ [some (.d (encPlan p)), some (.d (encDown d)), some (.d (nI n)), none, none, none, none, none, none, none, none] _ _
    have hfm : farsM p d = (List.range n).foldl (stepM n) ((upRows p.roads d).foldl stepU startM) := by rw [hn]; rfl
    rw [hfm, ← hn]
    rw [← hn] at h6 hrows
    -- the rows
    refine stx_seq' (stx_asg (evx_lcC (m := κ.length + n) (κ2 := matC κ n startM) (n := n) (Inv := fun _ => True) (fun i acc κ1 => acc = (List.range i).map (fun k => AV.c (κ.length + k)) ∧ κ1 = κ ++ (List.range i).map (rowC n startM)) (src_range1 (n := ((n : Nat) : Int)) (by walk_at "ev")) (by omega) ⟨rfl, by simp⟩ (fun _ _ _ _ => trivial) ?_ ?_) ?_)
    · rintro i acc κ1 hi ⟨rfl, rfl⟩
      refine ⟨_, _, true, _, gx_name, by simp, evb_yes, fun _ => ⟨_, _, evx_has (as := [.d (nI n), .d (nI i)]) (by walk_at "ev") ⟨n, i, by omega, rfl, rfl, rfl⟩, ?_, ?_⟩, fun c => by cases c⟩
      · rw [List.range_succ, List.map_append]
        simp
      · rw [List.range_succ, List.map_append, ← List.append_assoc]
        congr 1
        simp only [List.map_cons, List.map_nil, rowC, startM, List.map_map]
        rfl
    · rintro acc κ1 ⟨rfl, rfl⟩
      exact ⟨rfl, by simp⟩
    show StX K _ [some (.d (encPlan p)), some (.d (encDown d)), some (.d (nI n)), some (.c (κ.length + n)), none, none, none, none, none, none, none] _ _
    -- the roads that are up
    refine stx_seq' (stx_forLi (xs := upRows p.roads d) (enc := encRow) (fun i δ κ1 => κ1 = matC κ n (((upRows p.roads d).take i).foldl stepU startM) ∧ ∃ u4 u5 u6 u7 u8 u9 u10, δ = [some (.d (encPlan p)), some (.d (encDown d)), some (.d (nI n)), some (.c (κ.length + n)), u4, u5, u6, u7, u8, u9, u10])
      (evx_has (by walk_at "ev") ⟨p, d, ok, hd, rfl, rfl, rfl⟩) ⟨rfl, _, _, _, _, _, _, _, rfl⟩ ?_ ?_)
    · rintro i x δ κ1 hx ⟨rfl, u4, u5, u6, u7, u8, u9, u10, rfl⟩
      obtain ⟨h1, h2⟩ := hrows x (List.mem_of_getElem? hx)
      refine ⟨_, _, gx_tupD (ds := [nI x.1, nI x.2.1, nI x.2.2.1, nI x.2.2.2]) (gxs_cons gx_name (gxs_cons gx_name (gxs_cons gx_name (gxs_cons gx_name gxs_nil)))) rfl, ?_⟩
      show StX K _ [some (.d (encPlan p)), some (.d (encDown d)), some (.d (nI n)), some (.c (κ.length + n)), u4, some (.d (nI x.1)), some (.d (nI x.2.1)), some (.d (nI x.2.2.1)), some (.d (nI x.2.2.2)), u9, u10] _ _
      rw [foldl_take _ _ hx]
      generalize ((upRows p.roads d).take i).foldl stepU startM = M
      refine stx_seq' (st_at (f := 3) (a := 6) (b := 7) (evx_cb (eva_cons (evx_var rfl) (eva_cons (ev_at (matAt κ n M) rfl rfl rfl h1 h2) eva_nil)) (rc_minN _ _)) rfl rfl rfl h1 h2 ?_)
      exact st_at (f := 3) (a := 7) (b := 6) (ev_at (matAt κ n _) rfl rfl rfl h1 h2) rfl rfl rfl h2 h1 ⟨rfl, _, _, _, _, _, _, _, rfl⟩
    · rintro δ κ1 ⟨rfl, u4, u5, u6, u7, u8, u9, u10, rfl⟩
      rw [List.take_length]
      generalize (upRows p.roads d).foldl stepU startM = M0
      -- all pairs by each middle
      refine stx_seq' (stx_for (Inv := fun _ => True) (n := n) (fun m δ κ1 => κ1 = matC κ n ((List.range m).foldl (stepM n) M0) ∧ ∃ u4 u9 u10, δ = [some (.d (encPlan p)), some (.d (encDown d)), some (.d (nI n)), some (.c (κ.length + n)), u4, u5, u6, u7, u8, u9, u10])
        (src_range1 (n := ((n : Nat) : Int)) (by walk_at "ev")) ⟨rfl, _, _, _, rfl⟩ (fun _ _ _ _ => trivial) ?_ ?_)
      · rintro m δ κ1 hm ⟨rfl, u4, u9, u10, rfl⟩
        rw [foldl_range]
        generalize (List.range m).foldl (stepM n) M0 = M1
        refine ⟨_, _, gx_name, ?_⟩
        show StX K _ [some (.d (encPlan p)), some (.d (encDown d)), some (.d (nI n)), some (.c (κ.length + n)), u4, u5, u6, u7, u8, some (.d (nI m)), u10] _ _
        refine stx_for (Inv := fun _ => True) (n := n) (fun k δ κ1 => κ1 = matC κ n ((List.range k).foldl (stepKM n m) M1) ∧ ∃ u4 u10, δ = [some (.d (encPlan p)), some (.d (encDown d)), some (.d (nI n)), some (.c (κ.length + n)), u4, u5, u6, u7, u8, some (.d (nI m)), u10])
          (src_range1 (n := ((n : Nat) : Int)) (by walk_at "ev")) ⟨rfl, _, _, rfl⟩ (fun _ _ _ _ => trivial) ?_ ?_
        · rintro k δ κ1 hk ⟨rfl, u4, u10, rfl⟩
          rw [foldl_range]
          generalize (List.range k).foldl (stepKM n m) M1 = M2
          refine ⟨_, _, gx_name, ?_⟩
          show StX K _ [some (.d (encPlan p)), some (.d (encDown d)), some (.d (nI n)), some (.c (κ.length + n)), some (.d (nI k)), u5, u6, u7, u8, some (.d (nI m)), u10] _ _
          refine stx_for (Inv := fun _ => True) (n := n) (fun j δ κ1 => κ1 = matC κ n ((List.range j).foldl (stepJ m k) M2) ∧ ∃ u10, δ = [some (.d (encPlan p)), some (.d (encDown d)), some (.d (nI n)), some (.c (κ.length + n)), some (.d (nI k)), u5, u6, u7, u8, some (.d (nI m)), u10])
            (src_range1 (n := ((n : Nat) : Int)) (by walk_at "ev")) ⟨rfl, _, rfl⟩ (fun _ _ _ _ => trivial) ?_ ?_
          · rintro j δ κ1 hj ⟨rfl, u10, rfl⟩
            rw [foldl_range]
            generalize (List.range j).foldl (stepJ m k) M2 = M3
            refine ⟨_, _, gx_name, ?_⟩
            show StX K _ [some (.d (encPlan p)), some (.d (encDown d)), some (.d (nI n)), some (.c (κ.length + n)), some (.d (nI k)), u5, u6, u7, u8, some (.d (nI m)), some (.d (nI j))] _ _
            have hj' : j < n := by omega
            have hk' : k < n := by omega
            have hm' : m < n := by omega
            exact st_at (f := 3) (a := 4) (b := 10) (evx_cb (eva_cons (ev_at (matAt κ n M3) rfl rfl rfl hk' hj') (eva_cons (evx_op (ev_at (matAt κ n M3) rfl rfl rfl hk' hm') (ev_at (matAt κ n M3) rfl rfl rfl hm' hj') rx_addI) eva_nil)) (rc_minN _ _)) rfl rfl rfl hk' hj' ⟨rfl, _, rfl⟩
          · rintro δ κ1 ⟨rfl, u10, rfl⟩
            exact ⟨rfl, _, _, rfl⟩
        · rintro δ κ1 ⟨rfl, u4, u10, rfl⟩
          exact ⟨rfl, _, _, _, rfl⟩
      · rintro δ κ1 ⟨rfl, u4, u9, u10, rfl⟩
        refine stx_ret (by walk_at "ev") (Meets.same ?_)
        rw [matC_len]
        simp [low]
end
end BY
end

section
set_option Elab.async false
set_option linter.all false
set_option maxRecDepth 100000
set_option maxHeartbeats 600000
namespace BY
open PySem PySem.Spec PyProof.Rows L2
open Evl (Ex ex_l ex_t)
/-! ### the law's tree -/
abbrev Row4 := Nat × Nat × Nat × Nat
def lawNames (n : Nat) (M : Mx) (ranks : List Nat) (b : Nat) : List (Nat × Nat) := ((List.range n).filter fun k => decide (M b k < 999)).map fun k => (ranks.getD k 0, k)
def lawRoot (n : Nat) (M : Mx) (ranks : List Nat) (b : Nat) : Nat := match lawNames n M ranks b with
  | [] => 0
  | x :: xs => (xs.foldl nmin x).2
def lawOne (M : Mx) (ranks : List Nat) (b root : Nat) (x : Row4) : Option Best := if b = x.2.1 ∨ b = x.2.2.1 then (if M (x.2.1 + x.2.2.1 - b) root + x.2.2.2 = M b root then some ((ranks.getD (x.2.1 + x.2.2.1 - b) 0, x.2.1 + x.2.2.1 - b), x.1) else none) else none
def lawSome (M : Mx) (ranks : List Nat) (rows : List Row4) (b root : Nat) : List Best := rows.filterMap (lawOne M ranks b root)
def lawWay (M : Mx) (ranks : List Nat) (rows : List Row4) (b root : Nat) : Option Nat := if root = b then none else match lawSome M ranks rows b root with
  | [] => none
  | x :: xs => some (xs.foldl bmin x).2
def lawRoots (p : Plan) (d : List (Nat × Nat)) : List Nat := (List.range p.ranks.length).map (lawRoot p.ranks.length (farsM p d) p.ranks)
def lawFars (p : Plan) (d : List (Nat × Nat)) : List Nat := (List.range p.ranks.length).map fun b => farsM p d b (lawRoot p.ranks.length (farsM p d) p.ranks b)
def lawWays (p : Plan) (d : List (Nat × Nat)) : List (Option Nat) := (List.range p.ranks.length).map fun b => lawWay (farsM p d) p.ranks (upRows p.roads d) b (lawRoot p.ranks.length (farsM p d) p.ranks b)
def LawTreeOk (p : Plan) (d : List (Nat × Nat)) : Prop := (∀ b, b < p.ranks.length → farsM p d b b = 0) ∧
  ∀ b, b < p.ranks.length → lawRoot p.ranks.length (farsM p d) p.ranks b ≠ b → lawSome (farsM p d) p.ranks (upRows p.roads d) b (lawRoot p.ranks.length (farsM p d) p.ranks b) ≠ []
def fx__law_tree : FX := fun as κ a κ' => ∃ p d, PlanOk p ∧ d.length ≤ 1000 ∧ LawTreeOk p d ∧ as = [.d (encPlan p), .d (encDown d)] ∧
  a = .t [.c (κ.length + p.ranks.length + 1), .d (.list ((lawFars p d).map nI)), .c (κ.length + p.ranks.length + 2)] ∧
  κ' = matC κ p.ranks.length (farsM p d) ++ [((lawRoots p d).map nI).map .d, ((lawWays p d).map encOpt).map .d]
local macro_rules | `(tactic| walk_at "ev") => `(tactic| first
  | exact evx_var rfl | exact evx_int | exact evx_bl | exact evx_non | exact evx_str | exact evx_v | exact eva_nil
  | (apply eva_cons; (focus (walk_at "ev")); (focus (walk_at "ev")))
  | (apply evx_op; (focus (walk_at "ev")); (focus (walk_at "ev")); (focus (walk_at "rx")))
  | (apply evx_un; (focus (walk_at "ev")); (focus (exact ru_negI)))
  | (apply evx_tup2 <;> (walk_at "ev"))
  | (apply evx_tup3 <;> (walk_at "ev"))
  | (apply evx_slT; (focus (walk_at "ev")); (focus (walk_at "eo")); (focus (walk_at "eo")))
  | (apply evx_cb; (focus (walk_at "ev")); (focus (walk_at "rc")))
  | (apply evx_chain <;> (walk_at "ev"))
  | (apply evx_has; (focus (walk_at "ev")); (focus (walk_at "fx"))))
local macro_rules | `(tactic| walk_at "eo") => `(tactic| first | exact evo_none | exact evo_some (by walk_at "ev"))
local macro_rules | `(tactic| walk_at "fx") => `(tactic| first | exact ⟨_, _, _, rfl, rfl, rfl⟩ | exact ⟨_, _, rfl, rfl, rfl⟩ | exact ⟨_, rfl, rfl, rfl⟩)
local macro_rules | `(tactic| walk_at "rx") => `(tactic| first
  | exact rx_addI | exact rx_eqDI | exact rx_neDI | exact rx_ixT0 rfl | exact rx_ixT1 rfl | exact rx_ixT2 rfl | exact rx_ixT3 rfl | exact rx_ixT4 rfl | exact rx_isN | exact rx_notN | exact rx_int | exact rx_bl)
local macro_rules | `(tactic| walk_at "rc") => `(tactic| first
  | exact rc_isi .d (kb_bool _) | exact rc_isi .d (kb_int _) | exact rc_isi .d (kb_tuple _) | exact rc_isi .d (kb_list _) | exact rc_isi .d (kb_str _) | exact rc_lenT | exact rc_lenL | exact rc_any | exact rc_all)
def t__law_tree (K : PySem.W.Frag) (w : World) : TS := (tSeq (tAsg (tTup (tCons (tHas K fx__law_fars (tCons (tVar 0) (tCons (tVar 1) tNil))) (tCons (tOp (rIx K) (tVar 0) (tC (.int 0))) tNil))) (gTup K 2 (gCons (gName 2) (gCons (gName 3) gNil)))) (tSeq (tAsg (tTup (tCons (tLst tNil) (tCons (tLst tNil) tNil))) (gTup K 2 (gCons (gName 4) (gCons (gName 5) gNil)))) (tSeq (tFor (iRng1 (tCons (tCB (rLn K) (tCons (tVar 3) tNil)) tNil)) (gName 6) (tSeq (tAsg (tLc (iRng1 (tCons (tCB (rLn K) (tCons (tVar 3) tNil)) tNil)) (gName 8) (tTest (tOp (rI0 fun i j => .bl (decide (i < j))) (tOp (rIx K) (tOp (rIx K) (tVar 2) (tVar 6)) (tVar 8)) (tC (.int 999)))) (tTup (tCons (tOp (rIx K) (tVar 3) (tVar 8)) (tCons (tVar 8) tNil))) [8]) (gName 7)) (tSeq (tPar 9 10 (tCons (tOp (rIx K) (tCB (rMinG K) (tCons (tVar 7) tNil)) (tC (.int 1))) (tCons (tLst tNil) tNil))) (tSeq (tFor (iSeq K (tHas K fx__law_up (tCons (tVar 0) (tCons (tVar 1) tNil)))) (gTup K 4 (gCons (gName 11) (gCons (gName 12) (gCons (gName 13) (gCons (gName 14) gNil))))) (tIfS (tTest (tOp (rInTD K false) (tVar 6) (tTup (tCons (tVar 12) (tCons (tVar 13) tNil))))) (tSeq (tAsg (tOp (rI0 fun i j => .int (i - j)) (tOp (rAddG K) (tVar 12) (tVar 13)) (tVar 6)) (gName 15)) (tIfS (tTest (tOp (rEqD K) (tOp (rAddG K) (tOp (rIx K) (tOp (rIx K) (tVar 2) (tVar 15)) (tVar 9)) (tVar 14)) (tOp (rIx K) (tOp (rIx K) (tVar 2) (tVar 6)) (tVar 9)))) (tDrop (tBM K "list" rAppend (tVar 10) (tCons (tTup (tCons (tTup (tCons (tOp (rIx K) (tVar 3) (tVar 15)) (tCons (tVar 15) tNil))) (tCons (tVar 11) tNil))) tNil))) tNext)) tNext)) (tSeq (tDrop (tBM K "list" rAppend (tVar 4) (tCons (tVar 9) tNil))) (tDrop (tBM K "list" rAppend (tVar 5) (tCons (tIf (tTest (tOp (rNeD K) (tVar 9) (tVar 6))) (tOp (rIx K) (tCB (rMinG K) (tCons (tVar 10) tNil)) (tC (.int 1))) (tC .non)) tNil)))))))) (tRet (tTup (tCons (tVar 4) (tCons (tLc (iRng1 (tCons (tCB (rLn K) (tCons (tVar 3) tNil)) tNil)) (gName 8) tYes (tOp (rIx K) (tOp (rIx K) (tVar 2) (tVar 8)) (tOp (rIx K) (tVar 4) (tVar 8))) [8]) (tCons (tVar 5) tNil))))))))
section
variable {K : PySem.W.Frag} {w : World} {κ κ1 κ2 : Cells} {δ : Slots} {tm ta tb te : TE}
theorem nmin_mem : ∀ (xs : List (Nat × Nat)) (x : Nat × Nat), xs.foldl nmin x ∈ x :: xs
  | [], x => by simp
  | y :: ys, x => by
    have h := nmin_mem ys (nmin x y)
    rw [List.foldl_cons]
    rcases List.mem_cons.mp h with e | e
    · rw [e]
      unfold nmin
      by_cases c : ltN y x = true
      · rw [if_pos c]; simp
      · rw [if_neg c]; simp
    · simp [e]
theorem lawNames_self {n : Nat} {M : Mx} {ranks : List Nat} {b : Nat} (hb : b < n) (h0 : M b b = 0) : lawNames n M ranks b ≠ [] := by
  intro e
  have : (ranks.getD b 0, b) ∈ lawNames n M ranks b := by
    unfold lawNames
    exact List.mem_map.mpr ⟨b, List.mem_filter.mpr ⟨List.mem_range.mpr hb, by rw [h0]; decide⟩, rfl⟩
  rw [e] at this
  cases this
theorem lawRoot_mem {n : Nat} {M : Mx} {ranks : List Nat} {b : Nat} (h : lawNames n M ranks b ≠ []) : (ranks.getD (lawRoot n M ranks b) 0, lawRoot n M ranks b) ∈ lawNames n M ranks b := by
  unfold lawRoot
  cases hx : lawNames n M ranks b with
  | nil => exact absurd hx h
  | cons x xs =>
    have hm := nmin_mem xs x
    have hm' : xs.foldl nmin x ∈ lawNames n M ranks b := by rw [hx]; exact hm
    unfold lawNames at hm'
    obtain ⟨k, _, e⟩ := List.mem_map.mp hm'
    show (ranks.getD (xs.foldl nmin x).2 0, (xs.foldl nmin x).2) ∈ x :: xs
    rw [← e] at hm ⊢
    exact hm
theorem lawRoot_lt {n : Nat} {M : Mx} {ranks : List Nat} {b : Nat} (h : lawNames n M ranks b ≠ []) : lawRoot n M ranks b < n ∧ M b (lawRoot n M ranks b) < 999 := by
  have := lawRoot_mem h
  unfold lawNames at this
  obtain ⟨k, hk, e⟩ := List.mem_map.mp this
  have h2 := (List.mem_filter.mp hk)
  have e2 : k = lawRoot n M ranks b := (Prod.mk.inj e).2
  rw [← e2]
  exact ⟨List.mem_range.mp h2.1, of_decide_eq_true h2.2⟩
theorem get0 {C : Cells} {x y : List AV} {j : Cells} : (C ++ (x :: y :: j))[C.length]? = some x := by simp
theorem get1 {C : Cells} {x y : List AV} {j : Cells} : (C ++ (x :: y :: j))[C.length + 1]? = some y := by
  rw [List.getElem?_append_right (by omega), Nat.add_sub_cancel_left]; rfl
theorem set0 {C : Cells} {x y z : List AV} {j : Cells} : (C ++ (x :: y :: j)).set C.length z = C ++ (z :: y :: j) := by simp
theorem set1 {C : Cells} {x y z : List AV} {j : Cells} : (C ++ (x :: y :: j)).set (C.length + 1) z = C ++ (x :: z :: j) := by
  rw [List.set_append_right _ _ (by omega), Nat.add_sub_cancel_left]; rfl
theorem any_two (b x y : Nat) : ([nI x, nI y].any fun z => PyData.eqv z (nI b)) = decide (b = x ∨ b = y) := by
  have e : ∀ u : Nat, PyData.eqv (nI u) (nI b) = decide (b = u) := fun u => by
    simp only [nI, PyData.eqv]
    by_cases c : b = u
    · subst c; simp
    · rw [decide_eq_false c, beq_eq_false_iff_ne.mpr (by omega)]
  simp only [List.any_cons, List.any_nil, e, Bool.or_false]
  by_cases c1 : b = x <;> by_cases c2 : b = y <;> simp [c1, c2]
theorem good__law_tree : Good K fx__law_tree (t__law_tree K w) 16 2 where
  len := by rintro as κ a κ' ⟨p, d, _, _, _, rfl, _, _⟩; rfl
  grow := by rintro as κ a κ' ⟨p, d, _, _, _, _, _, rfl⟩; rw [List.length_append, matC_len]; omega
  lo := by
    rintro as κ a κ' ⟨p, d, ok, hd, _, _, _, rfl⟩ hl _ xs hx
    rcases List.mem_append.mp hx with h | h
    · refine lows_mono (by simp) xs ((good__law_fars (K := K) (w := w)).lo (as := [.d (encPlan p), .d (encDown d)]) (a := .c (κ.length + p.ranks.length)) ⟨p, d, ok, hd, rfl, rfl, rfl⟩ hl (by simp [low]) xs h)
    · simp only [List.mem_cons, List.not_mem_nil, or_false] at h
      rcases h with rfl | rfl <;> exact lows_data _
  run := by
    rintro as κ a κ' ⟨p, d, ok, hd, hok, rfl, rfl, rfl⟩
    show StX K (t__law_tree K w) [some (.d (encPlan p)), some (.d (encDown d)), none, none, none, none, none, none, none, none, none, none, none, none, none, none] _ _
    have h6 := ok.n6
    have hrows := upRows_lt ok d
    have hlr : (upRows p.roads d).length ≤ 8 := by
      unfold upRows
      have := ok.m8
      exact Nat.le_trans (List.length_filterMap_le _ _) (by simpa using this)
    obtain ⟨h0, hso⟩ := hok
    obtain ⟨n, hn⟩ : ∃ n, n = p.ranks.length := ⟨_, rfl⟩
    have er : lawRoots p d = (List.range n).map (lawRoot n (farsM p d) p.ranks) := by rw [hn]; rfl
    have ef : lawFars p d = (List.range n).map fun b => farsM p d b (lawRoot n (farsM p d) p.ranks b) := by rw [hn]; rfl
    have ew : lawWays p d = (List.range n).map fun b => lawWay (farsM p d) p.ranks (upRows p.roads d) b (lawRoot n (farsM p d) p.ranks b) := by rw [hn]; rfl
    rw [er, ef, ew]
    refine stx_seq' (stx_asgG (evx_tup (eva_cons (evx_has (as := [.d (encPlan p), .d (encDown d)]) (by walk_at "ev") ⟨p, d, ok, hd, rfl, rfl, rfl⟩) (eva_cons (x := .d (.tuple (p.ranks.map nI))) (evx_op (x := .d (encPlan p)) (by walk_at "ev") (by walk_at "ev") (rx_ixT0 rfl)) eva_nil))) (gx_tupT (gxs_cons gx_name (gxs_cons gx_name gxs_nil)) rfl) ?_)
    show StX K _ [some (.d (encPlan p)), some (.d (encDown d)), some (.c (κ.length + p.ranks.length)), some (.d (.tuple (p.ranks.map nI))), none, none, none, none, none, none, none, none, none, none, none, none] _ _
    rw [← hn]
    rw [← hn] at h6 h0 hso hrows
    have hmN : (p.ranks.map nI).length = n := by rw [List.length_map]; exact hn.symm
    have hlen : ∀ (δ : Slots) (κ1 : Cells), δ[3]? = some (some (.d (.tuple (p.ranks.map nI)))) → EvX K (tCB (rLn K) (tCons (tVar 3) tNil)) δ κ1 (.d (nI n)) κ1 := fun δ κ1 h => by
      rw [← hmN]
      exact evx_cb (eva_cons (evx_var h) eva_nil) rc_lenT
    have hrank : ∀ (δ : Slots) (κ1 : Cells) (i k : Nat), δ[3]? = some (some (.d (.tuple (p.ranks.map nI)))) → δ[i]? = some (some (.d (nI k))) → k < n → EvX K (tOp (rIx K) (tVar 3) (tVar i)) δ κ1 (.d (nI (p.ranks.getD k 0))) κ1 := fun δ κ1 i k h hi hk =>
      evx_op (evx_var h) (evx_var hi) (rx_ixTDg (get_map (getD_of (by rw [← hn]; exact hk))))
    generalize hM : farsM p d = M at *
    obtain ⟨C, hC⟩ : ∃ C, C = matC κ n M := ⟨_, rfl⟩
    have hCl : C.length = κ.length + n + 1 := by rw [hC]; exact matC_len ..
    have hat : ∀ j, MatAt (C ++ j) κ.length n M := fun j => by rw [hC]; exact (matAt κ n M).app j
    rw [← hC]
    have e1 : κ.length + n + 1 = C.length := hCl.symm
    have e2 : κ.length + n + 2 = C.length + 1 := by rw [hCl]
    rw [e1, e2]
    refine stx_seq' (stx_asgG (evx_tup (eva_cons (evx_lstC (n := C.length) eva_nil rfl) (eva_cons (evx_lstC (n := C.length + 1) eva_nil (by simp)) eva_nil))) (gx_tupT (gxs_cons gx_name (gxs_cons gx_name gxs_nil)) rfl) ?_)
    show StX K _ [some (.d (encPlan p)), some (.d (encDown d)), some (.c (κ.length + n)), some (.d (.tuple (p.ranks.map nI))), some (.c C.length), some (.c (C.length + 1)), none, none, none, none, none, none, none, none, none, none] _ _
    rw [List.append_assoc]
    generalize hrw : upRows p.roads d = rows at *
    refine stx_seq' (stx_for (Inv := fun _ => True) (n := n) (fun i δ κ1 => ∃ junk, κ1 = C ++ ((((List.range i).map (lawRoot n M p.ranks)).map nI).map AV.d :: (((List.range i).map fun b => lawWay M p.ranks rows b (lawRoot n M p.ranks b)).map encOpt).map AV.d :: junk) ∧
        ∃ u6 u7 u8 u9 u10 u11 u12 u13 u14 u15, δ = [some (.d (encPlan p)), some (.d (encDown d)), some (.c (κ.length + n)), some (.d (.tuple (p.ranks.map nI))), some (.c C.length), some (.c (C.length + 1)), u6, u7, u8, u9, u10, u11, u12, u13, u14, u15])
      (src_range1 (n := ((n : Nat) : Int)) (eva_cons (hlen _ _ rfl) eva_nil)) ⟨[], rfl, _, _, _, _, _, _, _, _, _, _, rfl⟩ (fun _ _ _ _ => trivial) ?_ ?_)
    · rintro b δ κ1 hb ⟨junk, rfl, u6, u7, u8, u9, u10, u11, u12, u13, u14, u15, rfl⟩
      have hb' : b < n := by omega
      refine ⟨_, _, gx_name, ?_⟩
      show StX K _ [some (.d (encPlan p)), some (.d (encDown d)), some (.c (κ.length + n)), some (.d (.tuple (p.ranks.map nI))), some (.c C.length), some (.c (C.length + 1)), some (.d (nI b)), u7, u8, u9, u10, u11, u12, u13, u14, u15] _ _
      rw [List.range_succ, List.map_append, List.map_append, List.map_append, List.map_append, List.map_append, List.map_append]
      have hrl : ((((List.range b).map (lawRoot n M p.ranks)).map nI).map AV.d).length ≤ 6 := by simp; omega
      have hwl : ((((List.range b).map fun b => lawWay M p.ranks rows b (lawRoot n M p.ranks b)).map encOpt).map AV.d).length ≤ 6 := by simp; omega
      generalize (((List.range b).map (lawRoot n M p.ranks)).map nI).map AV.d = RC at *
      generalize (((List.range b).map fun b => lawWay M p.ranks rows b (lawRoot n M p.ranks b)).map encOpt).map AV.d = WC at *
      -- the names within reach
      refine stx_seq' (stx_asg (lc_pure (m := n) (src_range1 (n := ((n : Nat) : Int)) (eva_cons (hlen _ _ rfl) eva_nil)) (by omega) (fun k => decide (M b k < 999)) (fun k => (p.ranks.getD k 0, k)) encName (fun k hk => ⟨_, _, gx_name, by simp, ?_, fun _ => evx_tup2 (hrank _ _ 8 k rfl rfl hk) (evx_var rfl)⟩)) ?_)
      · refine evb_eq (evb_test (evx_op (ev_at (hat _) rfl rfl rfl hb' hk) evx_int rx_bl)) ?_
        by_cases c : M b k < 999
        · rw [decide_eq_true c, decide_eq_true (by omega)]
        · rw [decide_eq_false c, decide_eq_false (by omega)]
      show StX K _ [some (.d (encPlan p)), some (.d (encDown d)), some (.c (κ.length + n)), some (.d (.tuple (p.ranks.map nI))), some (.c C.length), some (.c (C.length + 1)), some (.d (nI b)), some (.d (.list ((lawNames n M p.ranks b).map encName))), u8, u9, u10, u11, u12, u13, u14, u15] _ _
      have hne := lawNames_self (ranks := p.ranks) hb' (h0 b hb')
      obtain ⟨hr, _⟩ := lawRoot_lt hne
      have hso' := hso b hb'
      have q1 : EvX K (tOp (rIx K) (tCB (rMinG K) (tCons (tVar 7) tNil)) (tC (.int 1))) [some (.d (encPlan p)), some (.d (encDown d)), some (.c (κ.length + n)), some (.d (.tuple (p.ranks.map nI))), some (.c C.length), some (.c (C.length + 1)), some (.d (nI b)), some (.d (.list ((lawNames n M p.ranks b).map encName))), u8, u9, u10, u11, u12, u13, u14, u15] (C ++ (RC :: WC :: junk)) (.d (nI (lawRoot n M p.ranks b))) (C ++ (RC :: WC :: junk)) := by
        unfold lawRoot
        cases hx : lawNames n M p.ranks b with
        | nil => exact absurd hx hne
        | cons x xs =>
          refine evx_op (x := .d (encName (xs.foldl nmin x))) (by rw [← min_names]; exact evx_cb (eva_cons (evx_var rfl) eva_nil) (rc_minGD (d := encName x) (ds := xs.map encName) (names_alike (x :: xs)) (Nat.le_trans (names_depth (x :: xs)) (by decide)))) evx_int (rx_ixT1 (ds := [nI (xs.foldl nmin x).1, nI (xs.foldl nmin x).2]) rfl)
      obtain ⟨root, hroot⟩ : ∃ root, root = lawRoot n M p.ranks b := ⟨_, rfl⟩
      rw [← hroot] at q1 hr hso'
      simp only [List.map_cons, List.map_nil]
      rw [← hroot]
      obtain ⟨E, hE⟩ : ∃ E, E = C ++ (RC :: WC :: junk) := ⟨_, rfl⟩
      rw [← hE] at q1 ⊢
      refine stx_seq' (stx_par (i := 9) (j := 10) (eva_cons q1 (eva_cons (evx_lstC (n := E.length) eva_nil rfl) eva_nil)) ?_)
      show StX K _ [some (.d (encPlan p)), some (.d (encDown d)), some (.c (κ.length + n)), some (.d (.tuple (p.ranks.map nI))), some (.c C.length), some (.c (C.length + 1)), some (.d (nI b)), some (.d (.list ((lawNames n M p.ranks b).map encName))), u8, some (.d (nI root)), some (.c E.length), u11, u12, u13, u14, u15] _ _
      have hatE : ∀ j, MatAt (E ++ [j]) κ.length n M := fun j => by rw [hE, List.append_assoc]; exact hat _
      generalize hNM : (some (AV.d (.list ((lawNames n M p.ranks b).map encName)))) = u7'
      -- the roads that lead nearer
      refine stx_seq' (stx_forLi (xs := rows) (enc := encRow) (fun i δ κ1 => κ1 = E ++ [((lawSome M p.ranks (rows.take i) b root).map encBest).map AV.d] ∧
          ∃ u11 u12 u13 u14 u15, δ = [some (.d (encPlan p)), some (.d (encDown d)), some (.c (κ.length + n)), some (.d (.tuple (p.ranks.map nI))), some (.c C.length), some (.c (C.length + 1)), some (.d (nI b)), u7', u8, some (.d (nI root)), some (.c E.length), u11, u12, u13, u14, u15])
        (evx_has (by walk_at "ev") ⟨p, d, ok, hd, rfl, by rw [hrw], rfl⟩) ⟨rfl, _, _, _, _, _, rfl⟩ ?_ ?_)
      · rintro i x δ κ1 hx ⟨rfl, u11, u12, u13, u14, u15, rfl⟩
        obtain ⟨hx1, hx2⟩ := hrows x (List.mem_of_getElem? hx)
        have hstep : lawSome M p.ranks (rows.take (i + 1)) b root = lawSome M p.ranks (rows.take i) b root ++ (lawOne M p.ranks b root x).toList := by
          unfold lawSome
          rw [take_succ hx, List.filterMap_append]
          congr 1
        have hsl : (lawSome M p.ranks (rows.take i) b root).length ≤ 8 := by
          unfold lawSome
          refine Nat.le_trans (List.length_filterMap_le _ _) ?_
          rw [List.length_take]
          omega
        generalize lawSome M p.ranks (rows.take i) b root = S at *
        refine ⟨_, _, gx_tupD (ds := [nI x.1, nI x.2.1, nI x.2.2.1, nI x.2.2.2]) (gxs_cons gx_name (gxs_cons gx_name (gxs_cons gx_name (gxs_cons gx_name gxs_nil)))) rfl, ?_⟩
        show StX K _ [some (.d (encPlan p)), some (.d (encDown d)), some (.c (κ.length + n)), some (.d (.tuple (p.ranks.map nI))), some (.c C.length), some (.c (C.length + 1)), some (.d (nI b)), u7', u8, some (.d (nI root)), some (.c E.length), some (.d (nI x.1)), some (.d (nI x.2.1)), some (.d (nI x.2.2.1)), some (.d (nI x.2.2.2)), u15] _ _
        refine stx_if (evb_test (evx_op (evx_var rfl) (evx_tup2 (evx_var rfl) (evx_var rfl)) (rx_inT .d (by rfl) (by rfl)))) (fun c => ?_) (fun c => stx_next ⟨?_, _, _, _, _, _, rfl⟩)
        · rw [if_neg (by decide), any_two] at c
          have c' := of_decide_eq_true c
          obtain ⟨t, ht⟩ : ∃ t, t = x.2.1 + x.2.2.1 - b := ⟨_, rfl⟩
          have htn : t < n := by omega
          refine stx_seq' (stx_asg (evx_eq (evx_op (evx_op (evx_var rfl) (evx_var rfl) rx_addI) (evx_var rfl) rx_int) (y := .d (nI t)) ?_) ?_)
          · show AV.d (PyData.int _) = AV.d (PyData.int _)
            congr 2
            omega
          show StX K _ [some (.d (encPlan p)), some (.d (encDown d)), some (.c (κ.length + n)), some (.d (.tuple (p.ranks.map nI))), some (.c C.length), some (.c (C.length + 1)), some (.d (nI b)), u7', u8, some (.d (nI root)), some (.c E.length), some (.d (nI x.1)), some (.d (nI x.2.1)), some (.d (nI x.2.2.1)), some (.d (nI x.2.2.2)), some (.d (nI t))] _ _
          have ho : lawOne M p.ranks b root x = if M t root + x.2.2.2 = M b root then some ((p.ranks.getD t 0, t), x.1) else none := by
            unfold lawOne
            rw [if_pos c', ht]
          refine stx_if (evb_test (evx_op (evx_op (ev_at (hatE _) rfl rfl rfl htn hr) (evx_var rfl) rx_addI) (ev_at (hatE _) rfl rfl rfl hb' hr) rx_eqDI)) (fun c2 => ?_) (fun c2 => stx_next ⟨?_, _, _, _, _, _, rfl⟩)
          · have c3 : M t root + x.2.2.2 = M b root := by
              have := of_decide_eq_true c2
              omega
            refine stx_drop (evx_bm (evx_var rfl) get_cell (eva_cons (evx_tup2 (x := encName (p.ranks.getD t 0, t)) (evx_tup2 (hrank _ _ 15 t rfl rfl htn) (evx_var rfl)) (evx_var rfl)) eva_nil) (rm_append get_cell (by simp; omega))) ⟨?_, _, _, _, _, _, rfl⟩
            rw [set_cell, hstep, ho, if_pos c3]
            simp only [Option.toList, List.map_append]
            rfl
          · have c3 : ¬ M t root + x.2.2.2 = M b root := by
              have := of_decide_eq_false c2
              omega
            rw [hstep, ho, if_neg c3]
            simp [Option.toList]
        · rw [if_neg (by decide), any_two] at c
          have c' := of_decide_eq_false c
          have ho : lawOne M p.ranks b root x = none := by
            unfold lawOne
            rw [if_neg c']
          rw [hstep, ho]
          simp [Option.toList]
      · rintro δ κ1 ⟨rfl, u11, u12, u13, u14, u15, rfl⟩
        rw [List.take_length]
        have hlw : lawWay M p.ranks rows b root = if root = b then none else match lawSome M p.ranks rows b root with
          | [] => none
          | x :: xs => some (xs.foldl bmin x).2 := rfl
        generalize hS : lawSome M p.ranks rows b root = S at *
        have hE2 : ∀ z : List AV, E ++ [z] = C ++ (RC :: WC :: (junk ++ [z])) := fun z => by rw [hE]; simp
        rw [hE2]
        refine stx_seq' (stx_drop (evx_bm (evx_var rfl) get0 (eva_cons (evx_var rfl) eva_nil) (rm_append get0 (by omega))) ?_)
        rw [set0]
        have hlast : ∀ (u v z : List AV), (C ++ (u :: v :: (junk ++ [z])))[E.length]? = some z := fun u v z => by
          have e : C ++ (u :: v :: (junk ++ [z])) = (C ++ (u :: v :: junk)) ++ [z] := by simp
          have el : E.length = (C ++ (u :: v :: junk)).length := by rw [hE]; simp
          rw [e, el]
          exact get_cell
        refine stx_drop (evx_bm (z := .d .none) (k := C.length + 1) (evx_var rfl) get1 (as := [.d (encOpt (lawWay M p.ranks rows b root))]) (eva_cons ?_ eva_nil) (rm_append (xs := WC) (get1 (C := C) (x := RC ++ [AV.d (nI root)]) (j := junk ++ [(S.map encBest).map AV.d])) (by omega))) ⟨junk ++ [(S.map encBest).map AV.d], ?_, _, _, _, _, _, _, _, _, _, _, rfl⟩
        · by_cases c : root = b
          · rw [hlw, if_pos c]
            exact evx_ifF (evb_eq (evb_test (evx_op (evx_var rfl) (evx_var rfl) rx_neDI)) (by rw [c]; simp)) evx_non
          · rw [hlw, if_neg c]
            have hne2 := hso' c
            refine evx_ifT (evb_eq (evb_test (evx_op (evx_var rfl) (evx_var rfl) rx_neDI)) (by simp; omega)) ?_
            cases hx : S with
            | nil => exact absurd hx hne2
            | cons x xs =>
              exact evx_op (x := .d (encBest (xs.foldl bmin x))) (by rw [← min_bests]; exact evx_cb (eva_cons (evx_var rfl) eva_nil) (rc_minGC (d := encBest x) (ds := xs.map encBest) (hlast _ _ _) (bests_alike (x :: xs)) (Nat.le_trans (bests_depth (x :: xs)) (by decide)))) evx_int (rx_ixT1 (ds := [encName (xs.foldl bmin x).1, nI (xs.foldl bmin x).2]) rfl)
        · rw [set1]
    · rintro δ κ1 ⟨junk, rfl, u6, u7, u8, u9, u10, u11, u12, u13, u14, u15, rfl⟩
      have hR : ∀ k, k < n → (((((List.range n).map (lawRoot n M p.ranks)).map nI).map AV.d)[k]? = some (.d (nI (lawRoot n M p.ranks k)))) := fun k hk => by
        rw [List.map_map, List.map_map]
        exact map_range_get hk
      generalize (((List.range n).map (lawRoot n M p.ranks)).map nI).map AV.d = RC at *
      generalize (((List.range n).map fun b => lawWay M p.ranks rows b (lawRoot n M p.ranks b)).map encOpt).map AV.d = WC at *
      refine stx_ret (a := .t [.c C.length, .d (.list (((List.range n).map fun b => M b (lawRoot n M p.ranks b)).map nI)), .c (C.length + 1)]) (evx_tup (eva_cons (evx_var rfl) (eva_cons (lc_pureA (m := n) (src_range1 (n := ((n : Nat) : Int)) (eva_cons (hlen _ _ rfl) eva_nil)) (by omega) (fun b => M b (lawRoot n M p.ranks b)) nI (fun k hk => ⟨_, _, gx_name, by simp, ?_⟩)) (eva_cons (evx_var rfl) eva_nil)))) ?_
      · have hne := lawNames_self (ranks := p.ranks) hk (h0 k hk)
        obtain ⟨hr, _⟩ := lawRoot_lt hne
        exact evx_op (evx_op (evx_var rfl) (evx_var rfl) (rx_ixCg (hat _).ix (map_range_get hk))) (evx_op (evx_var rfl) (evx_var rfl) (rx_ixCg get0 (hR k hk))) (rx_ixCg ((hat _).row k hk) (map_range_get hr))
      · have e : C ++ (RC :: WC :: junk) = (C ++ [RC, WC]) ++ junk := by simp
        rw [e]
        exact Meets.eq (by simp [low, lows])
end
end BY
end

section
set_option Elab.async false
set_option linter.all false
set_option maxRecDepth 100000
set_option maxHeartbeats 600000
namespace BY
open PySem PySem.Spec PyProof.Rows L2
/-! ### sums between each two, by mathematics -/
def Adj (rows : List Row4) (a b c : Nat) : Prop := ∃ x ∈ rows, ((x.2.1 = a ∧ x.2.2.1 = b) ∨ (x.2.1 = b ∧ x.2.2.1 = a)) ∧ x.2.2.2 = c
inductive Walk (rows : List Row4) : Nat → Nat → Nat → Prop
  | nil (b : Nat) : Walk rows b b 0
  | cons {a b d c w : Nat} : Adj rows a b c → Walk rows b d w → Walk rows a d (c + w)
def RowsOk (n : Nat) (rows : List Row4) : Prop := ∀ x ∈ rows, x.2.1 < x.2.2.1 ∧ x.2.2.1 < n ∧ 1 ≤ x.2.2.2 ∧ x.2.2.2 ≤ 9
section
variable {rows : List Row4} {n : Nat}
theorem Adj.symm {a b c : Nat} (h : Adj rows a b c) : Adj rows b a c := by
  obtain ⟨x, hx, e, hc⟩ := h
  exact ⟨x, hx, e.symm, hc⟩
theorem Adj.ok {a b c : Nat} (ok : RowsOk n rows) (h : Adj rows a b c) : a < n ∧ b < n ∧ a ≠ b ∧ 1 ≤ c ∧ c ≤ 9 := by
  obtain ⟨x, hx, e, hc⟩ := h
  have := ok x hx
  omega
theorem Walk.app {a b c v w : Nat} (h1 : Walk rows a b v) (h2 : Walk rows b c w) : Walk rows a c (v + w) := by
  induction h1 with
  | nil => rw [Nat.zero_add]; exact h2
  | cons e _ ih => rw [Nat.add_assoc]; exact .cons e (ih h2)
/-! one stage, in place -/
def mid (M : Mx) (m : Nat) : Mx := fun x y => min (M x y) (M x m + M m y)
def Half (M : Mx) (m : Nat) (C : Mx) : Prop := ∀ x y, C x y = M x y ∨ C x y = mid M m x y
theorem half_row {M C : Mx} {m : Nat} (h0 : M m m = 0) (h : Half M m C) (x : Nat) : C x m = M x m ∧ C m x = M m x := by
  constructor
  · rcases h x m with e | e
    · exact e
    · rw [e]; unfold mid; omega
  · rcases h m x with e | e
    · exact e
    · rw [e]; unfold mid; omega
theorem half_step {M C : Mx} {m k j : Nat} (h0 : M m m = 0) (h : Half M m C) : stepJ m k C j = updM C k j (mid M m k j) := by
  unfold stepJ
  rw [(half_row h0 h k).1, (half_row h0 h j).2]
  congr 1
  rcases h k j with e | e
  · rw [e]; rfl
  · rw [e]; unfold mid; omega
theorem half_upd {M C : Mx} {m k j : Nat} (h : Half M m C) : Half M m (updM C k j (mid M m k j)) := fun x y => by
  unfold updM
  by_cases c : x = k ∧ y = j
  · obtain ⟨rfl, rfl⟩ := c
    simp
  · rw [if_neg c]
    exact h x y
theorem inner {M : Mx} {m k : Nat} (h0 : M m m = 0) : ∀ (js : List Nat) (C : Mx), Half M m C → Half M m (js.foldl (stepJ m k) C) ∧ (∀ j ∈ js, js.foldl (stepJ m k) C k j = mid M m k j) ∧ ∀ x y, C x y = mid M m x y → js.foldl (stepJ m k) C x y = mid M m x y
  | [], C, h => ⟨h, fun j hj => (nomatch hj), fun _ _ e => e⟩
  | j :: js, C, h => by
    rw [List.foldl_cons, half_step h0 h]
    obtain ⟨h1, h2, h3⟩ := inner h0 js _ (half_upd (k := k) (j := j) h)
    refine ⟨h1, fun i hi => ?_, fun x y e => h3 x y ?_⟩
    · rcases List.mem_cons.mp hi with e | e
      · subst e
        exact h3 k i (by simp [updM])
      · exact h2 i e
    · unfold updM
      by_cases c : x = k ∧ y = j
      · obtain ⟨rfl, rfl⟩ := c; simp
      · rw [if_neg c]; exact e
theorem outer {M : Mx} {m : Nat} (h0 : M m m = 0) : ∀ (ks : List Nat) (C : Mx), Half M m C → Half M m (ks.foldl (stepKM n m) C) ∧ (∀ k ∈ ks, ∀ j, j < n → ks.foldl (stepKM n m) C k j = mid M m k j) ∧ ∀ x y, C x y = mid M m x y → ks.foldl (stepKM n m) C x y = mid M m x y
  | [], C, h => ⟨h, fun j hj => (nomatch hj), fun _ _ e => e⟩
  | k :: ks, C, h => by
    obtain ⟨g1, g2, g3⟩ := inner (k := k) h0 (List.range n) C h
    rw [List.foldl_cons]
    obtain ⟨h1, h2, h3⟩ := outer h0 ks (stepKM n m C k) g1
    refine ⟨h1, fun i hi j hj => ?_, fun x y e => h3 x y (g3 x y e)⟩
    rcases List.mem_cons.mp hi with e | e
    · subst e
      exact h3 i j (g2 j (List.mem_range.mpr hj))
    · exact h2 i e j hj
theorem stepM_spec {M : Mx} {m : Nat} (h0 : M m m = 0) {x y : Nat} (hx : x < n) (hy : y < n) : stepM n M m x y = min (M x y) (M x m + M m y) :=
  (outer h0 (List.range n) M fun _ _ => .inl rfl).2.1 x (List.mem_range.mpr hx) y hy
/-! all stages -/
structure Stage (rows : List Row4) (n m : Nat) (M : Mx) : Prop where
  zero : ∀ a, a < n → M a a = 0
  edge : ∀ a b c, Adj rows a b c → M a b ≤ c
  sound : ∀ a b, a < n → b < n → M a b < 999 → Walk rows a b (M a b)
  bound : ∀ a b, a < n → b < n → M a b < 999 → M a b ≤ 9 * 2 ^ m
  tri : ∀ c, c < m → ∀ a b, a < n → b < n → M a b ≤ M a c + M c b
  close : ∀ c, c < m → ∀ a b, a < n → b < n → M a c < 999 → M c b < 999 → M a b < 999
theorem Stage.step {M : Mx} {m : Nat} (ok : RowsOk n rows) (h6 : n ≤ 6) (hm : m < n) (h : Stage rows n m M) : Stage rows n (m + 1) (stepM n M m) := by
  have z := h.zero m hm
  have sp : ∀ x y, x < n → y < n → stepM n M m x y = min (M x y) (M x m + M m y) := fun x y hx hy => stepM_spec z hx hy
  have p2 : 9 * 2 ^ (m + 1) = 9 * 2 ^ m + 9 * 2 ^ m := by rw [Nat.pow_succ]; omega
  have p3 : 9 * 2 ^ (m + 1) ≤ 576 := by
    have : 2 ^ (m + 1) ≤ 2 ^ 6 := Nat.pow_le_pow_right (by decide) (by omega)
    omega
  have bd : ∀ a b, a < n → b < n → M a b < 999 → M a b ≤ 9 * 2 ^ m := h.bound
  refine ⟨fun a ha => ?_, fun a b c e => ?_, fun a b ha hb hl => ?_, fun a b ha hb hl => ?_, fun c hc a b ha hb => ?_, fun c hc a b ha hb h1 h2 => ?_⟩
  · rw [sp a a ha ha, h.zero a ha]; omega
  · obtain ⟨ha, hb, _⟩ := e.ok ok
    rw [sp a b ha hb]
    have := h.edge a b c e
    omega
  · rw [sp a b ha hb] at hl ⊢
    by_cases c : M a b ≤ M a m + M m b
    · rw [Nat.min_eq_left c] at hl ⊢
      exact h.sound a b ha hb hl
    · rw [Nat.min_eq_right (by omega)] at hl ⊢
      exact (h.sound a m ha hm (by omega)).app (h.sound m b hm hb (by omega))
  · rw [sp a b ha hb] at hl ⊢
    have b1 := bd a b ha hb
    have b2 := bd a m ha hm
    have b3 := bd m b hm hb
    omega
  · have hcn : c < n := by omega
    rw [sp a b ha hb, sp a c ha hcn, sp c b hcn hb]
    by_cases e : c = m
    · subst e
      omega
    · have hc' : c < m := by omega
      have t1 := h.tri c hc' a b ha hb
      have t2 := h.tri c hc' m b hm hb
      have t3 := h.tri c hc' a m ha hm
      omega
  · have hcn : c < n := by omega
    rw [sp a c ha hcn] at h1
    rw [sp c b hcn hb] at h2
    rw [sp a b ha hb]
    have b2 := bd a m ha hm
    have b3 := bd m b hm hb
    have key : M a m < 999 → M m b < 999 → min (M a b) (M a m + M m b) < 999 := fun u v => by
      have := b2 u
      have := b3 v
      omega
    by_cases e : c = m
    · subst e
      exact key (by omega) (by omega)
    · have hc' : c < m := by omega
      have t1 := h.close c hc' a b ha hb
      have t2 := h.close c hc' m b hm hb
      have t3 := h.close c hc' a m ha hm
      by_cases u1 : M a c < 999
      · by_cases u2 : M c b < 999
        · have := t1 u1 u2
          omega
        · exact key (t3 u1 (by omega)) (by omega)
      · by_cases u2 : M c b < 999
        · exact key (by omega) (t2 (by omega) u2)
        · exact key (by omega) (by omega)
theorem Stage.all {M : Mx} (ok : RowsOk n rows) (h6 : n ≤ 6) (h : Stage rows n 0 M) : ∀ m, m ≤ n → Stage rows n m ((List.range m).foldl (stepM n) M)
  | 0, _ => h
  | m + 1, hm => by
    rw [foldl_range]
    exact (Stage.all ok h6 h m (by omega)).step ok h6 (by omega)
/-! the roads -/
structure Pre (rows done : List Row4) (M : Mx) : Prop where
  sym : ∀ a b, M a b = M b a
  zero : ∀ a, M a a = 0
  val : ∀ a b, a ≠ b → M a b = 999 ∨ Adj rows a b (M a b)
  edge : ∀ a b c, Adj done a b c → M a b ≤ c
theorem Pre.step {done : List Row4} {M : Mx} {x : Row4} (hx : x ∈ rows) (hn : x.2.1 ≠ x.2.2.1) (h : Pre rows done M) : Pre rows (done ++ [x]) (stepU M x) := by
  obtain ⟨k, o, t, c⟩ := x
  have e : ∀ a b, stepU M (k, o, t, c) a b = if (a = o ∧ b = t) ∨ (a = t ∧ b = o) then min c (M o t) else M a b := fun a b => by
    unfold stepU updM
    have hn' : o ≠ t := hn
    by_cases c1 : a = t ∧ b = o
    · obtain ⟨rfl, rfl⟩ := c1
      simp [hn']
    · by_cases c2 : a = o ∧ b = t
      · obtain ⟨rfl, rfl⟩ := c2
        simp [c1]
      · simp [c1, c2]
  have hn' : o ≠ t := hn
  refine ⟨fun a b => ?_, fun a => ?_, fun a b hab => ?_, fun a b c' ha => ?_⟩
  · rw [e, e, h.sym a b]
    by_cases q : (a = o ∧ b = t) ∨ (a = t ∧ b = o)
    · rw [if_pos q, if_pos (by omega)]
    · rw [if_neg q, if_neg (by omega)]
  · rw [e, if_neg (by omega)]
    exact h.zero a
  · rw [e]
    by_cases q : (a = o ∧ b = t) ∨ (a = t ∧ b = o)
    · rw [if_pos q]
      by_cases l : c ≤ M o t
      · rw [Nat.min_eq_left l]
        refine .inr ⟨_, hx, ?_, rfl⟩
        show (o = a ∧ t = b) ∨ (o = b ∧ t = a)
        omega
      · rw [Nat.min_eq_right (by omega)]
        have := h.val o t hn'
        rcases q with ⟨rfl, rfl⟩ | ⟨rfl, rfl⟩
        · exact this
        · rcases this with z | z
          · exact .inl z
          · exact .inr z.symm
    · rw [if_neg q]
      exact h.val a b hab
  · rw [e]
    obtain ⟨y, hy, ey, ec⟩ := ha
    rcases List.mem_append.mp hy with hy | hy
    · have := h.edge a b c' ⟨y, hy, ey, ec⟩
      by_cases q : (a = o ∧ b = t) ∨ (a = t ∧ b = o)
      · rw [if_pos q]
        have hs := h.sym o t
        rcases q with ⟨rfl, rfl⟩ | ⟨rfl, rfl⟩ <;> omega
      · rw [if_neg q]; exact this
    · rw [List.mem_singleton.mp hy] at ey ec
      simp only at ey ec
      rw [if_pos (by omega)]
      omega
theorem Pre.all (ok : RowsOk n rows) : ∀ (todo done : List Row4) (M : Mx), (∀ x ∈ todo, x ∈ rows) → Pre rows done M → Pre rows (done ++ todo) (todo.foldl stepU M)
  | [], done, M, _, h => by rw [List.append_nil]; exact h
  | x :: todo, done, M, ht, h => by
    have hx := ht x (List.mem_cons_self ..)
    have := ok x hx
    have q := Pre.all ok todo (done ++ [x]) (stepU M x) (fun y hy => ht y (List.mem_cons_of_mem _ hy)) (h.step hx (by omega))
    rw [List.append_assoc] at q
    exact q
theorem pre_start : Pre rows [] startM := by
  refine ⟨fun a b => ?_, fun a => ?_, fun a b h => ?_, fun a b c h => ?_⟩
  · unfold startM
    by_cases e : a = b
    · rw [if_pos e, if_pos e.symm]
    · rw [if_neg e, if_neg (fun z => e z.symm)]
  · simp [startM]
  · left
    simp [startM, h]
  · obtain ⟨x, hx, _⟩ := h
    cases hx
theorem stage0 (ok : RowsOk n rows) : Stage rows n 0 (rows.foldl stepU startM) := by
  have h := Pre.all ok rows [] startM (fun _ h => h) pre_start
  rw [List.nil_append] at h
  refine ⟨fun a _ => h.zero a, h.edge, fun a b _ _ hl => ?_, fun a b _ _ hl => ?_, fun c hc => (nomatch hc), fun c hc => (nomatch hc)⟩
  · by_cases e : a = b
    · subst e
      rw [h.zero]
      exact .nil a
    · rcases h.val a b e with z | z
      · omega
      · have q := Walk.cons z (.nil b)
        rw [Nat.add_zero] at q
        exact q
  · by_cases e : a = b
    · subst e
      rw [h.zero]
      omega
    · rcases h.val a b e with z | z
      · omega
      · obtain ⟨_, _, _, _, h9⟩ := z.ok ok
        omega
structure Dist (rows : List Row4) (n : Nat) (M : Mx) : Prop where
  zero : ∀ a, a < n → M a a = 0
  sound : ∀ a b, a < n → b < n → M a b < 999 → Walk rows a b (M a b)
  least : ∀ a b w, a < n → Walk rows a b w → M a b ≤ w ∧ M a b < 999
theorem Walk.lt {a b w : Nat} (ok : RowsOk n rows) (ha : a < n) (h : Walk rows a b w) : b < n := by
  induction h with
  | nil => exact ha
  | cons e _ ih => exact ih (e.ok ok).2.1
theorem Stage.dist {M : Mx} (ok : RowsOk n rows) (h : Stage rows n n M) : Dist rows n M := by
  refine ⟨h.zero, h.sound, fun a b w ha hw => ?_⟩
  induction hw with
  | nil => have := h.zero _ ha; omega
  | @cons a b d c w e hw ih =>
    obtain ⟨_, hb, _, _, h9⟩ := e.ok ok
    obtain ⟨i1, i2⟩ := ih hb
    have hd := hw.lt ok hb
    have h1 := h.edge a b c e
    have h2 := h.tri b hb a d ha hd
    have h3 := h.close b hb a d ha hd (by omega) i2
    exact ⟨by omega, h3⟩
end
theorem rowsOk {p : Plan} (ok : PlanOk p) (d : List (Nat × Nat)) : RowsOk p.ranks.length (upRows p.roads d) := fun x hx => by
  unfold upRows at hx
  obtain ⟨k, _, h⟩ := List.mem_filterMap.mp hx
  cases hr : p.roads[k]? with
  | none => rw [hr] at h; cases h
  | some r =>
    rw [hr] at h
    have hrd := ok.rd r (List.mem_of_getElem? hr)
    by_cases c : isUp k r.members d = true
    · simp only [c, if_true, Option.some.injEq] at h
      subst h
      exact ⟨hrd.lt, hrd.in_, hrd.c1, hrd.c9⟩
    · simp only [c, if_false] at h
      cases h
theorem dist_farsM {p : Plan} (ok : PlanOk p) (d : List (Nat × Nat)) : Dist (upRows p.roads d) p.ranks.length (farsM p d) :=
  (Stage.all (rowsOk ok d) ok.n6 (stage0 (rowsOk ok d)) _ (Nat.le_refl _)).dist (rowsOk ok d)
end BY
end

section
set_option Elab.async false
set_option linter.all false
set_option maxRecDepth 100000
set_option maxHeartbeats 600000
namespace BY
open PySem PySem.Spec PyProof.Rows L2
open Evl (Ex ex_l ex_t)
/-! ### values that are alike -/
def ht : Nat → PyData → Prop
  | _ + 1, .none => True
  | _ + 1, .int _ => True
  | j + 1, .list ds => ds.length ≤ 1000 ∧ ∀ e ∈ ds, ht j e
  | j + 1, .tuple ds => ds.length ≤ 1000 ∧ ∀ e ∈ ds, ht j e
  | _, _ => False
def fxA (j : Nat) : FX := fun as κ a κ' => ∃ x y d, as = [x, y] ∧ AVD κ x d ∧ AVD κ y d ∧ ht j d ∧ a = .d (.bool true) ∧ κ' = κ
local macro_rules | `(tactic| walk_at "ev") => `(tactic| first
  | exact evx_var rfl | exact evx_int | exact evx_bl | exact evx_non | exact evx_str | exact evx_v | exact eva_nil
  | (apply eva_cons; (focus (walk_at "ev")); (focus (walk_at "ev")))
  | (apply evx_op; (focus (walk_at "ev")); (focus (walk_at "ev")); (focus (walk_at "rx")))
  | (apply evx_un; (focus (walk_at "ev")); (focus (exact ru_negI)))
  | (apply evx_tup2 <;> (walk_at "ev"))
  | (apply evx_tup3 <;> (walk_at "ev"))
  | (apply evx_slT; (focus (walk_at "ev")); (focus (walk_at "eo")); (focus (walk_at "eo")))
  | (apply evx_cb; (focus (walk_at "ev")); (focus (walk_at "rc")))
  | (apply evx_chain <;> (walk_at "ev"))
  | (apply evx_has; (focus (walk_at "ev")); (focus (walk_at "fx"))))
local macro_rules | `(tactic| walk_at "eo") => `(tactic| first | exact evo_none | exact evo_some (by walk_at "ev"))
local macro_rules | `(tactic| walk_at "fx") => `(tactic| first | exact ⟨_, _, _, rfl, rfl, rfl⟩ | exact ⟨_, _, rfl, rfl, rfl⟩ | exact ⟨_, rfl, rfl, rfl⟩)
local macro_rules | `(tactic| walk_at "rx") => `(tactic| first
  | exact rx_addI | exact rx_eqDI | exact rx_neDI | exact rx_ixT0 rfl | exact rx_ixT1 rfl | exact rx_ixT2 rfl | exact rx_ixT3 rfl | exact rx_ixT4 rfl | exact rx_isN | exact rx_notN | exact rx_int | exact rx_bl)
local macro_rules | `(tactic| walk_at "rc") => `(tactic| first
  | exact rc_isi .d (kb_bool _) | exact rc_isi .d (kb_int _) | exact rc_isi .d (kb_tuple _) | exact rc_isi .d (kb_list _) | exact rc_isi .d (kb_str _) | exact rc_lenT | exact rc_lenL | exact rc_any | exact rc_all)
def t__law_alike (K : PySem.W.Frag) (w : World) (fx__law_alike : FX) : TS := (tSeq (tIfS (tTest (tOp (fun x y H Q => y = .non ∧ Q (.bl (decide (x = .non))) H) (tVar 1) (tC .non))) (tRet (tOp (fun x y H Q => y = .non ∧ Q (.bl (decide (x = .non))) H) (tVar 0) (tC .non))) tNext) (tSeq (tIfS (tTru K (tCB (rIsi K) (tCons (tVar 1) (tCons (tC (.ty "bool")) tNil)))) (tRet (tAndV (tCB (rIsi K) (tCons (tVar 0) (tCons (tC (.ty "bool")) tNil))) (tOp (rEqD K) (tVar 0) (tVar 1)))) tNext) (tSeq (tIfS (tTru K (tCB (rIsi K) (tCons (tVar 1) (tCons (tC (.ty "int")) tNil)))) (tRet (tAndV (tCB (rIsi K) (tCons (tVar 0) (tCons (tC (.ty "int")) tNil))) (tAndV (tNotV (tCB (rIsi K) (tCons (tVar 0) (tCons (tC (.ty "bool")) tNil)))) (tOp (rEqD K) (tVar 0) (tVar 1))))) tNext) (tSeq (tIfS (tTru K (tCB (rIsi K) (tCons (tVar 1) (tCons (tC (.ty "str")) tNil)))) (tRet (tAndV (tCB (rIsi K) (tCons (tVar 0) (tCons (tC (.ty "str")) tNil))) (tOp (rEqD K) (tVar 0) (tVar 1)))) tNext) (tSeq (tIfS (tOr (tTest (tOp (rNeD K) (tCB (rIsi K) (tCons (tVar 1) (tCons (tC (.ty "tuple")) tNil))) (tCB (rIsi K) (tCons (tVar 0) (tCons (tC (.ty "tuple")) tNil))))) (tTest (tOp (rNeD K) (tCB (rIsi K) (tCons (tVar 1) (tCons (tC (.ty "list")) tNil))) (tCB (rIsi K) (tCons (tVar 0) (tCons (tC (.ty "list")) tNil)))))) (tRet (tC (.bl false))) tNext) (tSeq (tIfS (tTest (tOp (rNeD K) (tCB (rLn K) (tCons (tVar 0) tNil)) (tCB (rLn K) (tCons (tVar 1) tNil)))) (tRet (tC (.bl false))) tNext) (tSeq (tFor (iRng1 (tCons (tCB (rLn K) (tCons (tVar 1) tNil)) tNil)) (gName 2) (tIfS (tNot (tTru K (tHas K fx__law_alike (tCons (tOp (rIx K) (tVar 0) (tVar 2)) (tCons (tOp (rIx K) (tVar 1) (tVar 2)) tNil))))) (tRet (tC (.bl false))) tNext)) (tRet (tC (.bl true))))))))))
section
variable {K : PySem.W.Frag} {w : World} {κ κ1 κ2 : Cells} {δ : Slots} {tm ta tb te : TE} {x y : AV} {d : PyData}
theorem avd_cls (h : AVD κ x d) : ACls κ x (clsOf d) := by
  cases h with
  | d => exact .d
  | c hk _ => exact .c hk
  | t _ => exact .t
theorem rx_isNA (h : AVD κ x d) : RX K (fun x y H Q => y = .non ∧ Q (.bl (decide (x = .non))) H) κ x (.d .none) (.d (.bool (isNo d))) κ := by
  cases h with
  | d => exact rx_isN
  | c hk _ =>
    intro G H ps vx vy R r1 r2 Q q
    cases r1 with
    | c r1 =>
      cases r2 with
      | d r2 =>
        cases r2
        exact ⟨rfl, q _ G H ps .refl R (.d (.bl _))⟩
  | t _ =>
    intro G H ps vx vy R r1 r2 Q q
    cases r1 with
    | t s1 s2 =>
      cases r2 with
      | d r2 =>
        cases r2
        exact ⟨rfl, q _ G H ps .refl R (.d (.bl _))⟩
theorem avds_at {ds : List PyData} {xs : List AV} (h : AVDs κ xs ds) : xs.length = ds.length ∧ ∀ (i : Nat) (e : PyData), ds[i]? = some e → ∃ z, xs[i]? = some z ∧ AVD κ z e := by
  revert h
  induction ds generalizing xs with
  | nil => intro h; cases h; exact ⟨rfl, fun i e q => by cases q⟩
  | cons d0 ds ih =>
    intro h
    cases h with
    | cons h1 h2 =>
      obtain ⟨e1, e2⟩ := ih h2
      refine ⟨by simp [e1], fun i e q => ?_⟩
      cases i with
      | zero => cases q; exact ⟨_, rfl, h1⟩
      | succ i => exact e2 i e q
def items : PyData → List PyData
  | .list ds => ds
  | .tuple ds => ds
  | _ => []
def isSq : PyData → Bool
  | .list _ => true
  | .tuple _ => true
  | _ => false
theorem rc_lenA (h : AVD κ x d) (hs : isSq d = true) : RC K (rLn K) κ [x] (.d (.int (items d).length)) κ := by
  cases h with
  | d =>
    cases d <;> first | exact rc_lenL | exact rc_lenT | cases hs
  | c hk h2 =>
    have q := rc_lenC (K := K) hk
    rw [(avds_at h2).1] at q
    exact q
  | t h2 =>
    have q := rc_lenTT (K := K) (κ := κ) (ds := ‹List AV›)
    rw [(avds_at h2).1] at q
    exact q
theorem rx_ixA (h : AVD κ x d) (hs : isSq d = true) {i : Nat} {e : PyData} (hi : (items d)[i]? = some e) : ∃ z, RX K (rIx K) κ x (.d (nI i)) z κ ∧ AVD κ z e := by
  cases h with
  | d =>
    cases d <;> first | exact ⟨_, rx_ixLDg hi, .d⟩ | exact ⟨_, rx_ixTDg hi, .d⟩ | cases hs
  | c hk h2 =>
    obtain ⟨z, h3, h4⟩ := (avds_at h2).2 i e hi
    exact ⟨z, rx_ixCg hk h3, h4⟩
  | t h2 =>
    obtain ⟨z, h3, h4⟩ := (avds_at h2).2 i e hi
    exact ⟨z, rx_ixTTg h3, h4⟩
theorem eqv_bb (b : Bool) : PyData.eqv (.bool b) (.bool b) = true := by cases b <;> rfl
theorem good__law_alike (j : Nat) : Good K (fxA (j + 1)) (t__law_alike K w (fxA j)) 3 2 := .pure (by rintro as κ a κ' ⟨x, y, d, rfl, _, _, _, _, rfl⟩; exact ⟨rfl, rfl⟩) (by
  rintro as κ0 a κ ⟨x, y, d, rfl, hx, hy, hh, rfl, rfl⟩
  show StX K (t__law_alike K w (fxA j)) [some x, some y, none] _ _
  refine stx_seq' (stx_if (evb_test (evx_op (evx_var rfl) evx_non (rx_isNA hy))) (fun c => stx_ret (evx_eq (evx_op (evx_var rfl) evx_non (rx_isNA hx)) (by rw [c])) ok_rt) (fun c => stx_next ?_))
  refine stx_seq' (stx_if (evb_truB (evx_cb (eva_cons (evx_var rfl) (eva_cons evx_v eva_nil)) (rc_isi (avd_cls hy) (kb_bool d)))) (fun c2 => ?_) (fun c2 => stx_next ?_))
  · cases d <;> first | exact Bool.noConfusion c2 | exact False.elim hh
  refine stx_seq' (stx_if (evb_truB (evx_cb (eva_cons (evx_var rfl) (eva_cons evx_v eva_nil)) (rc_isi (avd_cls hy) (kb_int d)))) (fun c3 => ?_) (fun c3 => stx_next ?_))
  · have e0 : ∃ i, d = .int i := by
      cases d <;> first | exact ⟨_, rfl⟩ | exact Bool.noConfusion c3 | exact Bool.noConfusion c2 | exact False.elim hh
    obtain ⟨i, rfl⟩ := e0
    cases hx
    cases hy
    refine stx_ret (evx_eq (evx_andV (b := true) (evx_cb (eva_cons (evx_var rfl) (eva_cons evx_v eva_nil)) (rc_isi .d (kb_int _))) (fun _ => evx_andV (b := true) (evx_notV (b := false) (evx_cb (eva_cons (evx_var rfl) (eva_cons evx_v eva_nil)) (rc_isi .d (kb_bool _)))) (fun _ => evx_op (evx_var rfl) (evx_var rfl) rx_eqDI))) (by simp)) ok_rt
  refine stx_seq' (stx_if (evb_truB (evx_cb (eva_cons (evx_var rfl) (eva_cons evx_v eva_nil)) (rc_isi (avd_cls hy) (kb_str d)))) (fun c4 => ?_) (fun c4 => stx_next ?_))
  · cases d <;> first | exact Bool.noConfusion c4 | exact False.elim hh
  have hs : isSq d = true := by
    cases d <;> first | rfl | exact Bool.noConfusion c | exact Bool.noConfusion c3 | exact False.elim hh
  refine stx_seq' (stx_ifF (evb_orF (evb_eq (evb_test (evx_op (evx_cb (eva_cons (evx_var rfl) (eva_cons evx_v eva_nil)) (rc_isi (avd_cls hy) (kb_tuple d))) (evx_cb (eva_cons (evx_var rfl) (eva_cons evx_v eva_nil)) (rc_isi (avd_cls hx) (kb_tuple d))) (rx_neD .d .d (by rfl) (by rfl)))) (by rw [eqv_bb]; rfl))
    (evb_eq (evb_test (evx_op (evx_cb (eva_cons (evx_var rfl) (eva_cons evx_v eva_nil)) (rc_isi (avd_cls hy) (kb_list d))) (evx_cb (eva_cons (evx_var rfl) (eva_cons evx_v eva_nil)) (rc_isi (avd_cls hx) (kb_list d))) (rx_neD .d .d (by rfl) (by rfl)))) (by rw [eqv_bb]; rfl))) (stx_next ?_))
  refine stx_seq' (stx_ifF (evb_eq (evb_test (evx_op (evx_cb (eva_cons (evx_var rfl) eva_nil) (rc_lenA hx hs)) (evx_cb (eva_cons (evx_var rfl) eva_nil) (rc_lenA hy hs)) rx_neDI)) (by simp)) (stx_next ?_))
  have hz : (items d).length ≤ 1000 ∧ ∀ e ∈ items d, ht j e := by
    cases d <;> first | exact hh | exact Bool.noConfusion hs
  obtain ⟨hz1, hz2⟩ := hz
  refine stx_seq' (stx_for (Inv := fun _ => True) (n := (items d).length) (fun i δ κ1 => κ1 = κ ∧ ∃ u, δ = [some x, some y, u])
    (src_range1 (n := (((items d).length : Nat) : Int)) (eva_cons (evx_cb (eva_cons (evx_var rfl) eva_nil) (rc_lenA hy hs)) eva_nil)) ⟨rfl, _, rfl⟩ (fun _ _ _ _ => trivial) ?_ ?_)
  · rintro i δ κ1 hi ⟨rfl, u, rfl⟩
    have hi' : i < (items d).length := by omega
    obtain ⟨e, he⟩ := get_of hi'
    obtain ⟨z1, r1, a1⟩ := rx_ixA (K := K) hx hs he
    obtain ⟨z2, r2, a2⟩ := rx_ixA (K := K) hy hs he
    refine ⟨_, _, gx_name, ?_⟩
    show StX K _ [some x, some y, some (.d (nI i))] _ _
    exact stx_ifF (evb_not (c := true) (evb_truB (evx_has (eva_cons (evx_op (evx_var rfl) (evx_var rfl) r1) (eva_cons (evx_op (evx_var rfl) (evx_var rfl) r2) eva_nil)) ⟨z1, z2, e, rfl, a1, a2, hz2 e (List.mem_of_getElem? he), rfl, rfl⟩))) (stx_next ⟨rfl, _, rfl⟩)
  · rintro δ κ1 ⟨rfl, u, rfl⟩
    exact stx_ret evx_bl ok_rt)
end
end BY
end

section
set_option Elab.async false
set_option linter.all false
set_option maxRecDepth 100000
set_option maxHeartbeats 600000
namespace BY
open PySem PySem.Spec PyProof.Rows L2
open Evl (Ex ex_l ex_t)
/-! ### the law -/
structure TreeEq (p : Plan) (d : List (Nat × Nat)) : Prop where
  roots : rootsF p d = lawRoots p d
  fars : farsF p d = lawFars p d
  ways : waysF p d = lawWays p d
  ok : LawTreeOk p d
def pre_law (as : List AV) (κ : Cells) : Prop := ∃ ns : List Int, as = [.d (.list (ns.map .int))] ∧ ns.length ≤ 1000
def fy_law (as : List AV) (κ : Cells) (a : AV) (κ' : Cells) : Prop := a = .d (.bool true) ∧ κ' = κ
local macro_rules | `(tactic| walk_at "ev") => `(tactic| first
  | exact evx_var rfl | exact evx_int | exact evx_bl | exact evx_non | exact evx_str | exact evx_v | exact eva_nil
  | (apply eva_cons; (focus (walk_at "ev")); (focus (walk_at "ev")))
  | (apply evx_op; (focus (walk_at "ev")); (focus (walk_at "ev")); (focus (walk_at "rx")))
  | (apply evx_un; (focus (walk_at "ev")); (focus (exact ru_negI)))
  | (apply evx_tup2 <;> (walk_at "ev"))
  | (apply evx_tup3 <;> (walk_at "ev"))
  | (apply evx_slT; (focus (walk_at "ev")); (focus (walk_at "eo")); (focus (walk_at "eo")))
  | (apply evx_cb; (focus (walk_at "ev")); (focus (walk_at "rc")))
  | (apply evx_chain <;> (walk_at "ev"))
  | (apply evx_has; (focus (walk_at "ev")); (focus (walk_at "fx"))))
local macro_rules | `(tactic| walk_at "eo") => `(tactic| first | exact evo_none | exact evo_some (by walk_at "ev"))
local macro_rules | `(tactic| walk_at "fx") => `(tactic| first | exact ⟨_, _, _, rfl, rfl, rfl⟩ | exact ⟨_, _, rfl, rfl, rfl⟩ | exact ⟨_, rfl, rfl, rfl⟩)
local macro_rules | `(tactic| walk_at "rx") => `(tactic| first
  | exact rx_addI | exact rx_eqDI | exact rx_neDI | exact rx_ixT0 rfl | exact rx_ixT1 rfl | exact rx_ixT2 rfl | exact rx_ixT3 rfl | exact rx_ixT4 rfl | exact rx_isN | exact rx_notN | exact rx_int | exact rx_bl)
local macro_rules | `(tactic| walk_at "rc") => `(tactic| first
  | exact rc_isi .d (kb_bool _) | exact rc_isi .d (kb_int _) | exact rc_isi .d (kb_tuple _) | exact rc_isi .d (kb_list _) | exact rc_isi .d (kb_str _) | exact rc_lenT | exact rc_lenL | exact rc_any | exact rc_all)
def t_law (K : PySem.W.Frag) (w : World) (fx__law_alike : FX) (dv_tree : List V) : TS := (tSeq (tAsg (tHasY K fy__law_begun pre__law_begun (tCons (tVar 0) tNil)) (gName 1)) (tSeq (tFor (iRng1 (tCons (tC (.int 4)) tNil)) (gName 2) (tSeq (tAsg (tHasY K fy__law_plan pre__law_plan (tCons (tVar 1) tNil)) (gName 3)) (tSeq (tAsg (tHasY K fy__law_down pre__law_down (tCons (tVar 1) (tCons (tVar 3) (tCons (tOp (rIx K) (tLst (tCons (tC (.int 2)) (tCons (tC (.int 5)) tNil))) (tHasY K fy__law_take pre__law_take (tCons (tVar 1) (tCons (tC (.int 2)) tNil)))) tNil)))) (gName 4)) (tFor (iRng1 (tCons (tC (.int 2)) tNil)) (gName 5) (tSeq (tAsg (tHasK K 1 fx_tree (tCons (tVar 3) tNil) (tCons (tVar 4) tNil)) (gName 6)) (tSeq (tIfS (tOr (tNot (tTru K (tHas K fx__law_alike (tCons (tVar 6) (tCons (tHas K fx__law_tree (tCons (tVar 3) (tCons (tVar 4) tNil))) tNil))))) (tNot (tTru K (tHas K fx__law_alike (tCons (tHasD K dv_tree fx_tree (tCons (tVar 3) tNil)) (tCons (tHas K fx__law_tree (tCons (tVar 3) (tCons (tTup tNil) tNil))) tNil)))))) (tRet (tC (.bl false))) tNext) (tFor (iSeq K (tVar 6)) (gName 7) (tDrop (tBM K "list" rAppend (tVar 7) (tCons (tC (.int 99)) tNil)))))))))) (tRet (tC (.bl true)))))
structure In (κ κ1 : Cells) : Prop where
  ex : ∃ j, κ1 = κ ++ j
  box : Box κ1 (κ.length + 1) κ.length
section
variable {K : PySem.W.Frag} {w : World} {κ κ1 κ2 : Cells} {δ : Slots} {tm ta tb te : TE}
theorem In.app (h : In κ κ1) (j : Cells) : In κ (κ1 ++ j) := ⟨by obtain ⟨j0, e⟩ := h.ex; exact ⟨j0 ++ j, by rw [e, List.append_assoc]⟩, h.box.app⟩
theorem In.le (h : In κ κ1) : κ.length + 2 ≤ κ1.length := by have := h.box.lt; omega
theorem pre_of {κ1 κ2 : Cells} (h1 : κ.length ≤ κ2.length) (h : ∀ k, k < κ.length → κ2[k]? = κ[k]?) : ∃ j, κ2 = κ ++ j := by
  refine ⟨κ2.drop κ.length, ?_⟩
  have e : κ2.take κ.length = κ := by
    apply List.ext_getElem?
    intro k
    by_cases hk : k < κ.length
    · rw [List.getElem?_take, if_pos hk]; exact h k hk
    · rw [List.getElem?_take, if_neg hk, List.getElem?_eq_none (by omega)]
  rw [← e, List.length_take, Nat.min_eq_left h1]
  exact (List.take_append_drop κ.length κ2).symm
theorem In.to (h : In κ κ1) (hb : BoxTo (κ.length + 1) κ.length κ1 κ2) : In κ κ2 := by
  refine ⟨pre_of (κ1 := κ1) (by rw [hb.len]; have := h.le; omega) fun k hk => ?_, hb.box⟩
  rw [hb.oth k (by omega) (by omega)]
  obtain ⟨j, e⟩ := h.ex
  rw [e, List.getElem?_append_left hk]
theorem In.set (h : In κ κ1) {k : Nat} (hk : κ.length + 2 ≤ k) (x : List AV) : In κ (κ1.set k x) := by
  obtain ⟨j, e⟩ := h.ex
  refine ⟨⟨j.set (k - κ.length) x, ?_⟩, ?_⟩
  · rw [e, List.set_append_right _ _ (by omega)]
  · obtain ⟨ns, st, h1, h2, h3⟩ := h.box
    exact ⟨ns, st, by rw [set_other (by omega)]; exact h1, by rw [set_other (by omega)]; exact h2, h3⟩
def treeD (p : Plan) (d : List (Nat × Nat)) : PyData := .tuple [.list ((rootsF p d).map nI), .list ((farsF p d).map nI), .list ((waysF p d).map encOpt)]
theorem ht_nIs (ls : List Nat) (h : ls.length ≤ 1000) : ht 2 (.list (ls.map nI)) := ⟨by rw [List.length_map]; exact h, fun e he => by
  obtain ⟨x, _, rfl⟩ := List.mem_map.mp he
  exact trivial⟩
theorem ht_opts (ls : List (Option Nat)) (h : ls.length ≤ 1000) : ht 2 (.list (ls.map encOpt)) := ⟨by rw [List.length_map]; exact h, fun e he => by
  obtain ⟨x, _, rfl⟩ := List.mem_map.mp he
  cases x <;> exact trivial⟩
theorem tree_lens (p : Plan) (d : List (Nat × Nat)) : (rootsF p d).length = p.ranks.length ∧ (farsF p d).length = p.ranks.length ∧ (waysF p d).length = p.ranks.length :=
  ⟨by unfold rootsF; rw [List.length_map]; exact nearF_len .., by unfold farsF; rw [List.length_map]; exact nearF_len .., by unfold waysF; simp⟩
theorem ht_tree {p : Plan} (ok : PlanOk p) (d : List (Nat × Nat)) : ht 3 (treeD p d) := by
  obtain ⟨h1, h2, h3⟩ := tree_lens p d
  have := ok.n6
  refine ⟨by simp, fun e he => ?_⟩
  simp only [List.mem_cons, List.not_mem_nil, or_false] at he
  rcases he with rfl | rfl | rfl
  · exact ht_nIs _ (by omega)
  · exact ht_nIs _ (by omega)
  · exact ht_opts _ (by omega)
theorem avd_tree {p : Plan} {d : List (Nat × Nat)} {m : Nat} {κ' : Cells} (hk : ∀ i, i < 3 → κ'[m + i]? = [((rootsF p d).map nI).map AV.d, ((farsF p d).map nI).map AV.d, ((waysF p d).map encOpt).map AV.d][i]?) : AVD κ' (.t [.c m, .c (m + 1), .c (m + 2)]) (treeD p d) :=
  .t (.cons (.c (hk 0 (by decide)) (avds_data ..)) (.cons (.c (hk 1 (by decide)) (avds_data ..)) (.cons (.c (hk 2 (by decide)) (avds_data ..)) .nil)))
theorem avd_law {p : Plan} {d : List (Nat × Nat)} {κ' : Cells} (te : TreeEq p d) : AVD (matC κ' p.ranks.length (farsM p d) ++ [((lawRoots p d).map nI).map .d, ((lawWays p d).map encOpt).map .d]) (.t [.c (κ'.length + p.ranks.length + 1), .d (.list ((lawFars p d).map nI)), .c (κ'.length + p.ranks.length + 2)]) (treeD p d) := by
  have e1 : κ'.length + p.ranks.length + 1 = (matC κ' p.ranks.length (farsM p d)).length := (matC_len ..).symm
  have e2 : κ'.length + p.ranks.length + 2 = (matC κ' p.ranks.length (farsM p d)).length + 1 := by rw [matC_len]
  rw [e1, e2]
  unfold treeD
  rw [te.roots, te.fars, te.ways]
  exact .t (.cons (.c get0 (avds_data ..)) (.cons .d (.cons (.c get1 (avds_data ..)) .nil)))
theorem map_inj {α β : Type} {f : α → β} (hf : ∀ x y, f x = f y → x = y) : ∀ xs ys : List α, xs.map f = ys.map f → xs = ys
  | [], [], _ => rfl
  | [], y :: ys, h => by cases h
  | x :: xs, [], h => by cases h
  | x :: xs, y :: ys, h => by
    rw [List.map_cons, List.map_cons, List.cons.injEq] at h
    rw [hf x y h.1, map_inj hf xs ys h.2]
theorem nI_inj (a b : Nat) (h : nI a = nI b) : a = b := by
  injection h with h
  omega
theorem encRoad_inj (r s : Road) (h : encRoad r = encRoad s) : r = s := by
  obtain ⟨a, b, c, d, e⟩ := r
  obtain ⟨a', b', c', d', e'⟩ := s
  simp only [encRoad, PyData.tuple.injEq, List.cons.injEq, and_true] at h
  obtain ⟨h1, h2, h3, h4, h5⟩ := h
  rw [nI_inj _ _ h1, nI_inj _ _ h2, nI_inj _ _ h3, nI_inj _ _ h4, map_inj nI_inj _ _ h5]
theorem encPlan_inj (p q : Plan) (h : encPlan p = encPlan q) : p = q := by
  obtain ⟨a, b⟩ := p
  obtain ⟨a', b'⟩ := q
  simp only [encPlan, PyData.tuple.injEq, List.cons.injEq, and_true] at h
  rw [map_inj nI_inj _ _ h.1, map_inj encRoad_inj _ _ h.2]
/-- one of the two looks of the law at a tree -/
theorem evb_alike {tt : TE} {p : Plan} {d : List (Nat × Nat)} {m : Nat} {κ2 : Cells} (ok : PlanOk p) (te : TreeEq p d) (hd : d.length ≤ 1000)
    (h1 : EvX K tt δ κ1 (.t [.c m, .c (m + 1), .c (m + 2)]) κ2) (hk : ∀ i, i < 3 → κ2[m + i]? = [((rootsF p d).map nI).map AV.d, ((farsF p d).map nI).map AV.d, ((waysF p d).map encOpt).map AV.d][i]?)
    (h2 : EvAs K tas δ κ2 [.d (encPlan p), .d (encDown d)] κ2) :
    EvB K (tNot (tTru K (tHas K (fxA 3) (tCons tt (tCons (tHas K fx__law_tree tas) tNil))))) δ κ1 false (matC κ2 p.ranks.length (farsM p d) ++ [((lawRoots p d).map nI).map .d, ((lawWays p d).map encOpt).map .d]) := by
  refine evb_not (c := true) (evb_truB (evx_has (eva_cons h1 (eva_cons (evx_has h2 ⟨p, d, ok, hd, te.ok, rfl, rfl, rfl⟩) eva_nil)) ⟨_, _, treeD p d, rfl, avd_tree fun i hi => ?_, avd_law te, ht_tree ok d, rfl, rfl⟩))
  have hl : m + i < κ2.length := by
    obtain ⟨x, hx⟩ : ∃ x, [((rootsF p d).map nI).map AV.d, ((farsF p d).map nI).map AV.d, ((waysF p d).map encOpt).map AV.d][i]? = some x := get_of (by simpa using hi)
    exact (List.getElem?_eq_some_iff.mp ((hk i hi).trans hx)).1
  unfold matC
  rw [List.append_assoc, List.append_assoc, List.getElem?_append_left hl]
  exact hk i hi
theorem cells3 {x y z : List AV} {i : Nat} (hi : i < 3) : (κ ++ [x, y, z])[κ.length + i]? = [x, y, z][i]? := by
  rw [List.getElem?_append_right (by omega), Nat.add_sub_cancel_left]
theorem good_law (TE : ∀ p d, PlanOk p → DownOk p d → TreeEq p d) {dv : List V} (hdv : ∀ G ps, VRs K G ps dv [.d (.tuple [])]) : GoodY K fy_law pre_law (t_law K w (fxA 3) dv) 8 1 where
  len := by rintro as κ ⟨ns, rfl, _⟩; rfl
  grow := by rintro as κ a κ' ⟨_, rfl⟩; exact Nat.le_refl _
  run := by
    rintro as κ ⟨ns, rfl, hns⟩ hl
    show StX K (t_law K w (fxA 3) dv) [some (.d (.list (ns.map .int))), none, none, none, none, none, none, none] κ _
    -- the box
    refine stx_seq' (sty_asg (evy_has (evys_of (eva_cons (evx_var rfl) eva_nil) ⟨⟨ns, rfl, hns⟩, ?_⟩)))
    rintro a κ1 ⟨rfl, ms, st, rfl⟩
    show StX K _ [some (.d (.list (ns.map .int))), some (.c (κ.length + 1)), none, none, none, none, none, none] _ _
    have in0 : In κ (κ ++ [(ms.map PyData.int).map AV.d, [.c κ.length, .d (.int st)]]) := ⟨⟨_, rfl⟩, ms, st, by rw [List.getElem?_append_right (by omega), Nat.add_sub_cancel_left]; rfl, by simp, by omega⟩
    have fin : ∀ (δ : Slots) (κ1 : Cells), In κ κ1 → StX K (tRet (tC (.bl true))) δ κ1 (okY (fy_law [.d (.list (ns.map .int))] κ)) := fun δ κ1 h => by
      obtain ⟨j, rfl⟩ := h.ex
      exact stx_ret evx_bl ⟨.d (.bool true), κ, ⟨rfl, rfl⟩, hl, Meets.eq (by simp [low])⟩
    refine stx_seq' (stx_for (Inv := fun _ => True) (n := 4) (fun i δ κ1 => In κ κ1 ∧ ∃ u2 u3 u4 u5 u6 u7, δ = [some (.d (.list (ns.map .int))), some (.c (κ.length + 1)), u2, u3, u4, u5, u6, u7])
      (src_range1 (n := 4) (by walk_at "ev")) ⟨in0, _, _, _, _, _, _, rfl⟩ (fun _ _ _ _ => trivial) ?_ ?_)
    · rintro i δ κ1 hi ⟨in1, u2, u3, u4, u5, u6, u7, rfl⟩
      refine ⟨_, _, gx_name, ?_⟩
      show StX K _ [some (.d (.list (ns.map .int))), some (.c (κ.length + 1)), some (.d (.int (i : Int))), u3, u4, u5, u6, u7] _ _
      -- the plan
      refine stx_seq' (sty_asg (evy_has (evys_of (eva_cons (evx_var rfl) eva_nil) ⟨⟨κ.length + 1, κ.length, rfl, in1.box⟩, ?_⟩)))
      rintro a κ2 ⟨b', l', p, e, hB', ok, rfl, bt⟩
      cases e
      have e := in1.box.uniq hB'
      subst e
      have in2 := in1.to bt
      show StX K _ [some (.d (.list (ns.map .int))), some (.c (κ.length + 1)), some (.d (.int (i : Int))), some (.d (encPlan p)), u4, u5, u6, u7] _ _
      -- the members that are down
      refine stx_seq' (sty_asg (evy_has (evys_consC (evx_var rfl) (evys_consC (x := .d (encPlan p)) (evx_var rfl) (evys_cons (P1 := fun x κ3 => ∃ m, 0 < m ∧ m < 2 ^ 64 ∧ x = .d (nI m) ∧ In κ κ3)
        (evy_menu (ds := [2, 5]) (l := κ.length) (m := 2) rfl in2.box (evx_lstD (ds := [nI 2, nI 5]) (by walk_at "ev")) (by decide) (by decide) rfl (by walk_at "ev") fun x κ3 hx bt3 => ⟨x, ?_, ?_, rfl, in2.to bt3⟩) fun x κ3 ⟨m, m0, m1, ex, in3⟩ => ?_)))))
      · simp only [List.mem_cons, List.not_mem_nil, or_false] at hx; omega
      · simp only [List.mem_cons, List.not_mem_nil, or_false] at hx; omega
      subst ex
      refine evys_nil ⟨⟨κ.length + 1, κ.length, p, m, rfl, in3.box, ok, m0, m1⟩, ?_⟩
      rintro a κ4 ⟨b', l', p', m', d, e, hB', hd, hd24, rfl, bt4⟩
      have e1 : κ.length + 1 = b' := by injection e with e _; injection e
      subst e1
      have e := in3.box.uniq hB'
      subst e
      have in4 := in3.to bt4
      have ep : encPlan p = encPlan p' := by injection e with _ e; injection e with e _; injection e
      have ep := encPlan_inj _ _ ep
      subst ep
      have te := TE p d ok hd
      have te0 := TE p [] ok (fun x hx => nomatch hx)
      have h6 := ok.n6
      show StX K _ [some (.d (.list (ns.map .int))), some (.c (κ.length + 1)), some (.d (.int (i : Int))), some (.d (encPlan p)), some (.d (encDown d)), u5, u6, u7] _ _
      refine stx_for (Inv := fun _ => True) (n := 2) (fun i' δ κ1 => In κ κ1 ∧ ∃ u5 u6 u7, δ = [some (.d (.list (ns.map .int))), some (.c (κ.length + 1)), some (.d (.int (i : Int))), some (.d (encPlan p)), some (.d (encDown d)), u5, u6, u7])
        (src_range1 (n := 2) (by walk_at "ev")) ⟨in4, _, _, _, rfl⟩ (fun _ _ _ _ => trivial) ?_ ?_
      · rintro i' δ κ5 hi' ⟨in5, u5, u6, u7, rfl⟩
        refine ⟨_, _, gx_name, ?_⟩
        show StX K _ [some (.d (.list (ns.map .int))), some (.c (κ.length + 1)), some (.d (.int (i : Int))), some (.d (encPlan p)), some (.d (encDown d)), some (.d (.int (i' : Int))), u6, u7] _ _
        obtain ⟨R, hR⟩ : ∃ R, R = ((rootsF p d).map nI).map AV.d := ⟨_, rfl⟩
        obtain ⟨F, hF⟩ : ∃ F, F = ((farsF p d).map nI).map AV.d := ⟨_, rfl⟩
        obtain ⟨W, hW⟩ : ∃ W, W = ((waysF p d).map encOpt).map AV.d := ⟨_, rfl⟩
        refine stx_seq' (stx_asg (a := .t [.c κ5.length, .c (κ5.length + 1), .c (κ5.length + 2)]) (κ1 := κ5 ++ [R, F, W]) (evx_hasK (as := [.d (encPlan p)]) (bs := [.d (encDown d)]) (eva_cons (evx_var rfl) eva_nil) (eva_cons (evx_var rfl) eva_nil) rfl rfl ⟨p, d, ok, hd, by omega, rfl, rfl, by rw [hR, hF, hW]⟩) ?_)
        show StX K _ [some (.d (.list (ns.map .int))), some (.c (κ.length + 1)), some (.d (.int (i : Int))), some (.d (encPlan p)), some (.d (encDown d)), some (.d (.int (i' : Int))), some (.t [.c κ5.length, .c (κ5.length + 1), .c (κ5.length + 2)]), u7] _ _
        have b1 := evb_alike (K := K) (δ := [some (.d (.list (ns.map .int))), some (.c (κ.length + 1)), some (.d (.int (i : Int))), some (.d (encPlan p)), some (.d (encDown d)), some (.d (.int (i' : Int))), some (.t [.c κ5.length, .c (κ5.length + 1), .c (κ5.length + 2)]), u7]) (κ1 := κ5 ++ [R, F, W]) (tt := tVar 6) (tas := tCons (tVar 3) (tCons (tVar 4) tNil)) (m := κ5.length) ok te (by omega) (evx_var rfl) (fun i hi => by rw [cells3 hi, hR, hF, hW]) (eva_cons (evx_var rfl) (eva_cons (evx_var rfl) eva_nil))
        obtain ⟨κ6, hκ6⟩ : ∃ κ6, κ6 = matC (κ5 ++ [R, F, W]) p.ranks.length (farsM p d) ++ [((lawRoots p d).map nI).map AV.d, ((lawWays p d).map encOpt).map AV.d] := ⟨_, rfl⟩
        rw [← hκ6] at b1
        have b2 := evb_alike (K := K) (δ := [some (.d (.list (ns.map .int))), some (.c (κ.length + 1)), some (.d (.int (i : Int))), some (.d (encPlan p)), some (.d (encDown d)), some (.d (.int (i' : Int))), some (.t [.c κ5.length, .c (κ5.length + 1), .c (κ5.length + 2)]), u7]) (κ1 := κ6) (tt := tHasD K dv fx_tree (tCons (tVar 3) tNil)) (tas := tCons (tVar 3) (tCons (tTup tNil) tNil)) (m := κ6.length) (κ2 := κ6 ++ [((rootsF p []).map nI).map AV.d, ((farsF p []).map nI).map AV.d, ((waysF p []).map encOpt).map AV.d]) ok te0 (by simp)
          (evx_hasD (das := [.d (encDown [])]) (as := [.d (encPlan p)]) (eva_cons (evx_var rfl) eva_nil) hdv ⟨p, [], ok, (fun x hx => nomatch hx), by simp, rfl, rfl, rfl⟩) (fun i hi => cells3 hi) (eva_cons (evx_var rfl) (eva_cons (evx_tupD (ds := []) eva_nil) eva_nil))
        obtain ⟨j7, hj7⟩ : ∃ j7, matC (κ6 ++ [((rootsF p []).map nI).map AV.d, ((farsF p []).map nI).map AV.d, ((waysF p []).map encOpt).map AV.d]) p.ranks.length (farsM p []) ++ [((lawRoots p []).map nI).map AV.d, ((lawWays p []).map encOpt).map AV.d] = (κ5 ++ [R, F, W]) ++ j7 := by
          rw [hκ6]
          unfold matC
          exact ⟨_, by simp only [List.append_assoc]; rfl⟩
        rw [hj7] at b2
        refine stx_seq' (stx_ifF (evb_orF b1 b2) (stx_next ?_))
        have in7 : In κ (κ5 ++ [R, F, W] ++ j7) := (in5.app _).app _
        have h5 := in5.le
        obtain ⟨l1, l2, l3⟩ := tree_lens p d
        refine stx_for (Inv := fun _ => True) (n := 3) (fun q δ κ1 => In κ κ1 ∧ (∀ q', q ≤ q' → q' < 3 → ∃ xs, κ1[κ5.length + q']? = some xs ∧ xs.length ≤ 6) ∧ ∃ u7, δ = [some (.d (.list (ns.map .int))), some (.c (κ.length + 1)), some (.d (.int (i : Int))), some (.d (encPlan p)), some (.d (encDown d)), some (.d (.int (i' : Int))), some (.t [.c κ5.length, .c (κ5.length + 1), .c (κ5.length + 2)]), u7])
          (src_seqT (src_tupT (ds := [AV.c κ5.length, AV.c (κ5.length + 1), AV.c (κ5.length + 2)]) (evx_var rfl))) ⟨in7, ?_, _, rfl⟩ (fun _ _ _ _ => trivial) ?_ ?_
        · intro q' _ hq
          have : (κ5 ++ [R, F, W] ++ j7)[κ5.length + q']? = [R, F, W][q']? := by
            rw [List.getElem?_append_left (by simp; omega), cells3 hq]
          rw [this]
          have h3 : q' = 0 ∨ q' = 1 ∨ q' = 2 := by omega
          rcases h3 with rfl | rfl | rfl
          · exact ⟨R, rfl, by rw [hR]; simp; omega⟩
          · exact ⟨F, rfl, by rw [hF]; simp; omega⟩
          · exact ⟨W, rfl, by rw [hW]; simp; omega⟩
        · rintro q δ κ8 hq ⟨in8, hc, u7, rfl⟩
          have hq3 : q < 3 := hq
          have ei : ([AV.c κ5.length, AV.c (κ5.length + 1), AV.c (κ5.length + 2)] : List AV).getD q (.d .none) = .c (κ5.length + q) := by
            have h3 : q = 0 ∨ q = 1 ∨ q = 2 := by omega
            rcases h3 with rfl | rfl | rfl <;> rfl
          rw [ei]
          obtain ⟨xs, hx, hxl⟩ := hc q (Nat.le_refl _) hq3
          refine ⟨_, _, gx_name, ?_⟩
          show StX K _ [some (.d (.list (ns.map .int))), some (.c (κ.length + 1)), some (.d (.int (i : Int))), some (.d (encPlan p)), some (.d (encDown d)), some (.d (.int (i' : Int))), some (.t [.c κ5.length, .c (κ5.length + 1), .c (κ5.length + 2)]), some (.c (κ5.length + q))] _ _
          refine stx_drop (evx_bm (evx_var rfl) hx (eva_cons evx_int eva_nil) (rm_append hx (by omega))) ⟨in8.set (by omega) _, fun q' h1 h2 => ?_, _, rfl⟩
          rw [set_other (by omega)]
          exact hc q' (by omega) h2
        · rintro δ κ8 ⟨in8, _, u7, rfl⟩
          exact ⟨in8, _, _, _, rfl⟩
      · rintro δ κ5 ⟨in5, u5, u6, u7, rfl⟩
        exact ⟨in5, _, _, _, _, _, _, rfl⟩
    · rintro δ κ1 ⟨in1, u2, u3, u4, u5, u6, u7, rfl⟩
      exact fin _ _ in1
end
end BY
end

section
set_option Elab.async false
set_option linter.all false
set_option maxRecDepth 100000
set_option maxHeartbeats 600000
namespace BY
open PySem PySem.Spec PyProof.Rows L2
/-! ### the program's rounds tell the same -/
def LeB (x y : Best) : Prop := x.1.1 < y.1.1 ∨ (x.1.1 = y.1.1 ∧ (x.1.2 < y.1.2 ∨ (x.1.2 = y.1.2 ∧ x.2 ≤ y.2)))
theorem ltN_iff (x y : Nat × Nat) : ltN x y = true ↔ (x.1 < y.1 ∨ (x.1 = y.1 ∧ x.2 < y.2)) := by
  unfold ltN
  simp only [Bool.or_eq_true, Bool.and_eq_true, decide_eq_true_eq]
theorem ltB_iff (x y : Best) : ltB x y = true ↔ (x.1.1 < y.1.1 ∨ (x.1.1 = y.1.1 ∧ (x.1.2 < y.1.2 ∨ (x.1.2 = y.1.2 ∧ x.2 < y.2)))) := by
  obtain ⟨⟨a, b⟩, c⟩ := x
  obtain ⟨⟨a', b'⟩, c'⟩ := y
  unfold ltB
  rw [Bool.or_eq_true, ltN_iff, Bool.and_eq_true, decide_eq_true_eq, decide_eq_true_eq]
  simp only [Prod.mk.injEq]
  omega
theorem LeB.refl (x : Best) : LeB x x := by unfold LeB; omega
theorem LeB.trans {x y z : Best} (h1 : LeB x y) (h2 : LeB y z) : LeB x z := by unfold LeB at *; omega
theorem LeB.far {x y : Best} (h : LeB x y) (c : Nat) : LeB (farB x c) (farB y c) := by
  unfold LeB at *
  unfold farB
  simp only
  omega
theorem bmin_l (x y : Best) : LeB (bmin x y) x := by
  unfold bmin
  by_cases c : ltB y x = true
  · rw [if_pos c]
    rw [ltB_iff] at c
    unfold LeB
    omega
  · rw [if_neg c]
    exact .refl x
theorem bmin_r (x y : Best) : LeB (bmin x y) y := by
  unfold bmin
  by_cases c : ltB y x = true
  · rw [if_pos c]
    exact .refl y
  · rw [if_neg c]
    rw [ltB_iff] at c
    unfold LeB
    omega
theorem bmin_or (x y : Best) : bmin x y = x ∨ bmin x y = y := by
  unfold bmin
  by_cases c : ltB y x = true
  · rw [if_pos c]; exact .inr rfl
  · rw [if_neg c]; exact .inl rfl
theorem getD_set {α : Type} {xs : List α} {i j : Nat} {x d : α} (hi : i < xs.length) : (xs.set i x).getD j d = if i = j then x else xs.getD j d := by
  rw [List.getD_eq_getElem?_getD, List.getD_eq_getElem?_getD, List.getElem?_set]
  by_cases e : i = j
  · subst e; simp [hi]
  · simp [e]
theorem stepR_at {bs : List Best} {r : Road} (h1 : r.one < bs.length) (h2 : r.other < bs.length) (hne : r.one ≠ r.other) (b : Nat) : (stepR bs r).getD b b0 =
    if b = r.other then bmin (bs.getD r.other b0) (farB (bmin (bs.getD r.one b0) (farB (bs.getD r.other b0) r.cost)) r.cost) else if b = r.one then bmin (bs.getD r.one b0) (farB (bs.getD r.other b0) r.cost) else bs.getD b b0 := by
  unfold stepR
  simp only
  rw [getD_set (by simpa using h2), getD_set h1, getD_set h1, if_neg hne, if_pos rfl]
  by_cases c1 : b = r.other
  · subst c1; simp
  · rw [if_neg (fun z => c1 z.symm), if_neg c1, getD_set h1]
    by_cases c2 : b = r.one
    · subst c2; simp
    · rw [if_neg (fun z => c2 z.symm), if_neg c2]
section
variable {p : Plan} {d : List (Nat × Nat)}
theorem up_road {k : Nat} (h : k ∈ upOf p.roads d) : ∃ r, p.roads[k]? = some r ∧ isUp k r.members d = true := by
  unfold upOf at h
  have h2 := (List.mem_filter.mp h).2
  cases hr : p.roads[k]? with
  | none => rw [hr] at h2; cases h2
  | some r => rw [hr] at h2; exact ⟨r, rfl, h2⟩
theorem up_row {k : Nat} {r : Road} (h : k ∈ upOf p.roads d) (hr : p.roads[k]? = some r) : (k, r.one, r.other, r.cost) ∈ upRows p.roads d := by
  obtain ⟨r', hr', hu⟩ := up_road h
  rw [hr] at hr'
  cases hr'
  unfold upRows
  refine List.mem_filterMap.mpr ⟨k, List.mem_range.mpr (List.getElem?_eq_some_iff.mp hr).1, ?_⟩
  rw [hr]
  simp only [hu, if_true]
theorem row_up {x : Row4} (h : x ∈ upRows p.roads d) : ∃ r, x.1 ∈ upOf p.roads d ∧ p.roads[x.1]? = some r ∧ x = (x.1, r.one, r.other, r.cost) := by
  unfold upRows at h
  obtain ⟨k, hk, e⟩ := List.mem_filterMap.mp h
  cases hr : p.roads[k]? with
  | none => rw [hr] at e; cases e
  | some r =>
    rw [hr] at e
    by_cases c : isUp k r.members d = true
    · simp only [c, if_true, Option.some.injEq] at e
      subst e
      refine ⟨r, ?_, hr, rfl⟩
      unfold upOf
      refine List.mem_filter.mpr ⟨hk, ?_⟩
      show (match p.roads[k]? with | some r => isUp k r.members d | none => false) = true
      rw [hr]
      exact c
    · simp only [c, if_false] at e
      cases e
theorem up_adj {k : Nat} {r : Road} (h : k ∈ upOf p.roads d) (hr : p.roads[k]? = some r) : Adj (upRows p.roads d) r.one r.other r.cost := ⟨_, up_row h hr, .inl ⟨rfl, rfl⟩, rfl⟩
/-! what holds of each state of the rounds -/
def Sd (p : Plan) (rows : List Row4) (bs : List Best) : Prop := bs.length = p.ranks.length ∧ ∀ b, b < p.ranks.length → ∃ c w, bs.getD b b0 = ((p.ranks.getD c 0, c), w) ∧ Walk rows b c w
theorem sd_min {x y : Best} {rows : List Row4} {b : Nat} (hx : ∃ c w, x = ((p.ranks.getD c 0, c), w) ∧ Walk rows b c w) (hy : ∃ c w, y = ((p.ranks.getD c 0, c), w) ∧ Walk rows b c w) : ∃ c w, bmin x y = ((p.ranks.getD c 0, c), w) ∧ Walk rows b c w := by
  rcases bmin_or x y with e | e <;> rw [e] <;> assumption
theorem sd_far {y : Best} {rows : List Row4} {a b k : Nat} (e : Adj rows a b k) (hy : ∃ c w, y = ((p.ranks.getD c 0, c), w) ∧ Walk rows b c w) : ∃ c w, farB y k = ((p.ranks.getD c 0, c), w) ∧ Walk rows a c w := by
  obtain ⟨c, w, rfl, hw⟩ := hy
  exact ⟨c, k + w, by unfold farB; rw [Nat.add_comm], .cons e hw⟩
theorem sd_step (ok : PlanOk p) {bs : List Best} {k : Nat} (hk : k ∈ upOf p.roads d) (h : Sd p (upRows p.roads d) bs) : Sd p (upRows p.roads d) (stepK p bs k) := by
  refine ⟨by rw [stepK_len]; exact h.1, fun b hb => ?_⟩
  obtain ⟨r, hr, _⟩ := up_road hk
  have hrd := ok.rd r (List.mem_of_getElem? hr)
  have h1 := hrd.lt
  have h2 := hrd.in_
  have e := up_adj hk hr
  unfold stepK
  rw [hr]
  show ∃ c w, (stepR bs r).getD b b0 = ((p.ranks.getD c 0, c), w) ∧ Walk (upRows p.roads d) b c w
  rw [stepR_at (by rw [h.1]; omega) (by rw [h.1]; exact h2) (by omega)]
  have so := h.2 r.one (by omega)
  have st := h.2 r.other h2
  by_cases c1 : b = r.other
  · rw [if_pos c1, c1]
    exact sd_min st (sd_far e.symm (sd_min so (sd_far e st)))
  · rw [if_neg c1]
    by_cases c2 : b = r.one
    · rw [if_pos c2, c2]
      exact sd_min so (sd_far e st)
    · rw [if_neg c2]
      exact h.2 b hb
theorem sd_fold (ok : PlanOk p) : ∀ (ks : List Nat) (bs : List Best), (∀ k ∈ ks, k ∈ upOf p.roads d) → Sd p (upRows p.roads d) bs → Sd p (upRows p.roads d) (ks.foldl (stepK p) bs)
  | [], _, _, h => h
  | k :: ks, bs, hk, h => sd_fold ok ks _ (fun x hx => hk x (List.mem_cons_of_mem _ hx)) (sd_step ok (hk k (List.mem_cons_self ..)) h)
def rounds (p : Plan) (d : List (Nat × Nat)) (k : Nat) : List Best := (List.range k).foldl (fun bs _ => (upOf p.roads d).foldl (stepK p) bs) (startB p)
theorem rounds_succ (k : Nat) : rounds p d (k + 1) = (upOf p.roads d).foldl (stepK p) (rounds p d k) := foldl_range _ _ _
theorem rounds_near : rounds p d p.ranks.length = nearF p (upOf p.roads d) := rfl
theorem start_at {b : Nat} (hb : b < p.ranks.length) : (startB p).getD b b0 = ((p.ranks.getD b 0, b), 0) := by
  unfold startB
  rw [List.getD_eq_getElem?_getD, map_range_get hb]
  rfl
theorem sd_rounds (ok : PlanOk p) : ∀ k, Sd p (upRows p.roads d) (rounds p d k)
  | 0 => ⟨by show (startB p).length = _; simp [startB], fun b hb => ⟨b, 0, start_at hb, .nil b⟩⟩
  | k + 1 => by
    rw [rounds_succ]
    exact sd_fold ok _ _ (fun _ h => h) (sd_rounds ok k)
/-! the rounds only lower -/
theorem step_le (ok : PlanOk p) {bs : List Best} {k : Nat} (hl : bs.length = p.ranks.length) (b : Nat) : LeB ((stepK p bs k).getD b b0) (bs.getD b b0) := by
  unfold stepK
  cases hr : p.roads[k]? with
  | none => exact .refl _
  | some r =>
    have hrd := ok.rd r (List.mem_of_getElem? hr)
    have h1 := hrd.lt
    have h2 := hrd.in_
    show LeB ((stepR bs r).getD b b0) _
    rw [stepR_at (by omega) (by omega) (by omega)]
    by_cases c1 : b = r.other
    · rw [if_pos c1, c1]; exact bmin_l _ _
    · rw [if_neg c1]
      by_cases c2 : b = r.one
      · rw [if_pos c2, c2]; exact bmin_l _ _
      · rw [if_neg c2]; exact .refl _
theorem fold_le (ok : PlanOk p) : ∀ (ks : List Nat) (bs : List Best), bs.length = p.ranks.length → ∀ b, LeB ((ks.foldl (stepK p) bs).getD b b0) (bs.getD b b0)
  | [], _, _, b => .refl _
  | k :: ks, bs, hl, b => (fold_le ok ks (stepK p bs k) (by rw [stepK_len]; exact hl) b).trans (step_le ok hl b)
theorem fold_relax (ok : PlanOk p) {k : Nat} {r : Road} (hr : p.roads[k]? = some r) : ∀ (ks : List Nat) (bs : List Best), bs.length = p.ranks.length → k ∈ ks →
    LeB ((ks.foldl (stepK p) bs).getD r.one b0) (farB (bs.getD r.other b0) r.cost) ∧ LeB ((ks.foldl (stepK p) bs).getD r.other b0) (farB (bs.getD r.one b0) r.cost)
  | [], _, _, hk => by cases hk
  | j :: ks, bs, hl, hk => by
    have hl' : (stepK p bs j).length = p.ranks.length := by rw [stepK_len]; exact hl
    rcases List.mem_cons.mp hk with e | e
    · subst e
      have hrd := ok.rd r (List.mem_of_getElem? hr)
      have h1 := hrd.lt
      have h2 := hrd.in_
      have e1 : stepK p bs k = stepR bs r := by unfold stepK; rw [hr]
      have a1 := stepR_at (bs := bs) (r := r) (by omega) (by omega) (by omega) r.one
      have a2 := stepR_at (bs := bs) (r := r) (by omega) (by omega) (by omega) r.other
      rw [if_neg (by omega), if_pos rfl] at a1
      rw [if_pos rfl] at a2
      have f1 := fold_le ok ks (stepK p bs k) hl' r.one
      have f2 := fold_le ok ks (stepK p bs k) hl' r.other
      rw [e1] at f1 f2
      rw [a1] at f1
      rw [a2] at f2
      rw [List.foldl_cons, e1]
      exact ⟨f1.trans (bmin_r _ _), f2.trans ((bmin_r _ _).trans ((bmin_l _ _).far _))⟩
    · obtain ⟨i1, i2⟩ := fold_relax ok hr ks (stepK p bs j) hl' e
      exact ⟨i1.trans ((step_le ok hl _).far _), i2.trans ((step_le ok hl _).far _)⟩
theorem round_adj (ok : PlanOk p) {a b c : Nat} (e : Adj (upRows p.roads d) a b c) (k : Nat) : LeB ((rounds p d (k + 1)).getD a b0) (farB ((rounds p d k).getD b b0) c) := by
  obtain ⟨x, hx, ex, ec⟩ := e
  obtain ⟨r, hu, hr, e4⟩ := row_up hx
  have hl := (sd_rounds (d := d) ok k).1
  rw [rounds_succ]
  obtain ⟨f1, f2⟩ := fold_relax ok hr (upOf p.roads d) (rounds p d k) hl hu
  rw [e4] at ex ec
  simp only at ex ec
  rcases ex with ⟨rfl, rfl⟩ | ⟨rfl, rfl⟩
  · rw [← ec]; exact f1
  · rw [← ec]; exact f2
theorem round_le (ok : PlanOk p) (k b : Nat) : LeB ((rounds p d (k + 1)).getD b b0) ((rounds p d k).getD b b0) := by
  rw [rounds_succ]
  exact fold_le ok _ _ (sd_rounds (d := d) ok k).1 b
/-! how many are nearer -/
theorem filter_lt {f g : Nat → Bool} : ∀ l : List Nat, (∀ x ∈ l, f x = true → g x = true) → (∃ x ∈ l, f x = false ∧ g x = true) → (l.filter f).length < (l.filter g).length
  | [], _, h => by obtain ⟨x, hx, _⟩ := h; cases hx
  | y :: l, hs, h => by
    have le : ∀ l : List Nat, (∀ x ∈ l, f x = true → g x = true) → (l.filter f).length ≤ (l.filter g).length := by
      intro l
      induction l with
      | nil => intro _; exact Nat.le_refl _
      | cons z l ih =>
        intro q
        have i := ih fun x hx => q x (List.mem_cons_of_mem _ hx)
        have q1 := q z (List.mem_cons_self ..)
        by_cases c : f z = true
        · rw [List.filter_cons_of_pos c, List.filter_cons_of_pos (q1 c)]
          simp only [List.length_cons]; omega
        · rw [List.filter_cons_of_neg c]
          by_cases c2 : g z = true
          · rw [List.filter_cons_of_pos c2]; simp only [List.length_cons]; omega
          · rw [List.filter_cons_of_neg c2]; exact i
    have hs' : ∀ x ∈ l, f x = true → g x = true := fun x hx => hs x (List.mem_cons_of_mem _ hx)
    have q1 := hs y (List.mem_cons_self ..)
    obtain ⟨x, hx, h1, h2⟩ := h
    by_cases c : f y = true
    · rw [List.filter_cons_of_pos c, List.filter_cons_of_pos (q1 c)]
      have : x ∈ l := by
        rcases List.mem_cons.mp hx with e | e
        · subst e; rw [c] at h1; cases h1
        · exact e
      have := filter_lt l hs' ⟨x, this, h1, h2⟩
      simp only [List.length_cons]; omega
    · rw [List.filter_cons_of_neg c]
      by_cases c2 : g y = true
      · rw [List.filter_cons_of_pos c2]
        have := le l hs'
        simp only [List.length_cons]; omega
      · rw [List.filter_cons_of_neg c2]
        have : x ∈ l := by
          rcases List.mem_cons.mp hx with e | e
          · subst e; exact absurd h2 c2
          · exact e
        exact filter_lt l hs' ⟨x, this, h1, h2⟩
def nearer (n : Nat) (M : Mx) (r b : Nat) : Nat := ((List.range n).filter fun x => decide (M x r < M b r)).length
theorem nearer_lt {n : Nat} {M : Mx} {r a b : Nat} (ha : a < n) (h : M a r < M b r) : nearer n M r a < nearer n M r b := by
  refine filter_lt _ (fun x _ hx => ?_) ⟨a, List.mem_range.mpr ha, ?_, ?_⟩
  · have := of_decide_eq_true hx
    exact decide_eq_true (by omega)
  · exact decide_eq_false (by omega)
  · exact decide_eq_true h
theorem next_step {rows : List Row4} {n : Nat} {M : Mx} (ok : RowsOk n rows) (D : Dist rows n M) {b r : Nat} (hb : b < n) (hr : r < n) (h : M b r < 999) (hne : b ≠ r) : ∃ t c, Adj rows b t c ∧ t < n ∧ M t r + c = M b r ∧ M t r < 999 := by
  have w := D.sound b r hb hr h
  generalize hw : M b r = v at w
  cases w with
  | nil => exact absurd rfl hne
  | @cons _ t _ c w' e w2 =>
    obtain ⟨_, ht, _, _, _⟩ := e.ok ok
    obtain ⟨l1, l2⟩ := D.least t r w' ht w2
    have s := D.sound t r ht hr l2
    have := (D.least b r (c + M t r) hb (.cons e s)).1
    exact ⟨t, c, e, ht, by omega, l2⟩
theorem rounds_reach (ok : PlanOk p) {r : Nat} (hr : r < p.ranks.length) : ∀ k b, b < p.ranks.length → farsM p d b r < 999 → nearer p.ranks.length (farsM p d) r b ≤ k → LeB ((rounds p d k).getD b b0) ((p.ranks.getD r 0, r), farsM p d b r)
  | k, b, hb, h, hn => by
    have D := dist_farsM ok d
    by_cases e : b = r
    · subst e
      rw [D.zero b hb]
      have : ∀ k, LeB ((rounds p d k).getD b b0) ((p.ranks.getD b 0, b), 0) := by
        intro k
        induction k with
        | zero => rw [show rounds p d 0 = startB p from rfl, start_at hb]; exact .refl _
        | succ k ih => exact (round_le ok k b).trans ih
      exact this k
    · obtain ⟨t, c, ea, ht, hs, hl⟩ := next_step (rowsOk ok d) D hb hr h e
      obtain ⟨_, _, _, c1, _⟩ := ea.ok (rowsOk ok d)
      have hlt := nearer_lt (n := p.ranks.length) (M := farsM p d) (r := r) (a := t) (b := b) ht (by omega)
      match k, hn with
      | 0, hn => omega
      | k + 1, hn =>
        have ih := rounds_reach ok hr k t ht hl (by omega)
        have q := (round_adj ok ea k).trans (ih.far c)
        unfold farB at q
        simp only at q
        rw [hs] at q
        exact q
theorem nmin_le : ∀ (xs : List (Nat × Nat)) (x y : Nat × Nat), y ∈ x :: xs → (xs.foldl nmin x).1 < y.1 ∨ ((xs.foldl nmin x).1 = y.1 ∧ (xs.foldl nmin x).2 ≤ y.2)
  | [], x, y, h => by
    rw [List.mem_singleton] at h
    subst h
    exact .inr ⟨rfl, Nat.le_refl _⟩
  | z :: xs, x, y, h => by
    rw [List.foldl_cons]
    have k1 := nmin_le xs (nmin x z) (nmin x z) (List.mem_cons_self ..)
    have m1 : (nmin x z).1 < x.1 ∨ ((nmin x z).1 = x.1 ∧ (nmin x z).2 ≤ x.2) := by
      unfold nmin
      by_cases c : ltN z x = true
      · rw [if_pos c]; rw [ltN_iff] at c; omega
      · rw [if_neg c]; omega
    have m2 : (nmin x z).1 < z.1 ∨ ((nmin x z).1 = z.1 ∧ (nmin x z).2 ≤ z.2) := by
      unfold nmin
      by_cases c : ltN z x = true
      · rw [if_pos c]; omega
      · rw [if_neg c]; rw [ltN_iff] at c; omega
    rcases List.mem_cons.mp h with e | e
    · subst e; omega
    · rcases List.mem_cons.mp e with e | e
      · subst e; omega
      · exact nmin_le xs (nmin x z) y (List.mem_cons_of_mem _ e)
theorem lawRoot_le {n : Nat} {M : Mx} {ranks : List Nat} {b c : Nat} (hc : c < n) (h : M b c < 999) : ranks.getD (lawRoot n M ranks b) 0 < ranks.getD c 0 ∨ (ranks.getD (lawRoot n M ranks b) 0 = ranks.getD c 0 ∧ lawRoot n M ranks b ≤ c) := by
  have hm : (ranks.getD c 0, c) ∈ lawNames n M ranks b := List.mem_map.mpr ⟨c, List.mem_filter.mpr ⟨List.mem_range.mpr hc, decide_eq_true h⟩, rfl⟩
  have hr := lawRoot_mem (ranks := ranks) (n := n) (M := M) (b := b) (fun e => by rw [e] at hm; cases hm)
  unfold lawRoot at hr ⊢
  cases hx : lawNames n M ranks b with
  | nil => rw [hx] at hm; cases hm
  | cons x xs =>
    rw [hx] at hm hr
    have := nmin_le xs x _ hm
    simp only at this hr ⊢
    have e1 : (xs.foldl nmin x).1 = ranks.getD (xs.foldl nmin x).2 0 := by
      have h2 : xs.foldl nmin x ∈ lawNames n M ranks b := by rw [hx]; exact nmin_mem xs x
      unfold lawNames at h2
      obtain ⟨k, _, e⟩ := List.mem_map.mp h2
      rw [← e]
    rw [e1] at this
    exact this
theorem near_at (ok : PlanOk p) {b : Nat} (hb : b < p.ranks.length) : (nearF p (upOf p.roads d)).getD b b0 = ((p.ranks.getD (lawRoot p.ranks.length (farsM p d) p.ranks b) 0, lawRoot p.ranks.length (farsM p d) p.ranks b), farsM p d b (lawRoot p.ranks.length (farsM p d) p.ranks b)) := by
  have D := dist_farsM ok d
  have hne := lawNames_self (ranks := p.ranks) hb (D.zero b hb)
  obtain ⟨hr, hl⟩ := lawRoot_lt hne
  rw [← rounds_near]
  obtain ⟨c, w, e, hw⟩ := (sd_rounds (d := d) ok p.ranks.length).2 b hb
  have hc := hw.lt (rowsOk ok d) hb
  obtain ⟨l1, l2⟩ := D.least b c w hb hw
  have lr := lawRoot_le (ranks := p.ranks) hc l2
  have hle := rounds_reach (d := d) ok hr p.ranks.length b hb hl (by
    unfold nearer
    refine Nat.le_trans (List.length_filter_le _ _) ?_
    simp)
  rw [e] at hle ⊢
  generalize lawRoot p.ranks.length (farsM p d) p.ranks b = R at *
  unfold LeB at hle
  simp only at hle
  have hcR : c = R := by omega
  subst hcR
  have : w = farsM p d b c := by omega
  rw [this]
theorem near_eq (ok : PlanOk p) : nearF p (upOf p.roads d) = (List.range p.ranks.length).map fun b => ((p.ranks.getD (lawRoot p.ranks.length (farsM p d) p.ranks b) 0, lawRoot p.ranks.length (farsM p d) p.ranks b), farsM p d b (lawRoot p.ranks.length (farsM p d) p.ranks b)) := by
  have e := range_getD (fun b : Best => b) b0 (nearF p (upOf p.roads d))
  rw [List.map_id', nearF_len] at e
  rw [← e]
  apply List.map_congr_left
  intro b hb
  exact near_at ok (List.mem_range.mp hb)
theorem roots_eq (ok : PlanOk p) : rootsF p d = lawRoots p d := by
  unfold rootsF lawRoots
  rw [near_eq ok, List.map_map]
  rfl
theorem fars_eq (ok : PlanOk p) : farsF p d = lawFars p d := by
  unfold farsF lawFars
  rw [near_eq ok, List.map_map]
  rfl
theorem root_adj (ok : PlanOk p) {a b c : Nat} (e : Adj (upRows p.roads d) a b c) : lawRoot p.ranks.length (farsM p d) p.ranks a = lawRoot p.ranks.length (farsM p d) p.ranks b := by
  have D := dist_farsM ok d
  obtain ⟨ha, hb, _⟩ := e.ok (rowsOk ok d)
  have h : lawNames p.ranks.length (farsM p d) p.ranks a = lawNames p.ranks.length (farsM p d) p.ranks b := by
    unfold lawNames
    congr 1
    apply List.filter_congr
    intro k hk
    have hk' := List.mem_range.mp hk
    by_cases c1 : farsM p d a k < 999
    · rw [decide_eq_true c1, decide_eq_true (D.least b k _ hb (.cons e.symm (D.sound a k ha hk' c1))).2]
    · by_cases c2 : farsM p d b k < 999
      · exact absurd (D.least a k _ ha (.cons e (D.sound b k hb hk' c2))).2 c1
      · rw [decide_eq_false c1, decide_eq_false c2]
  unfold lawRoot
  rw [h]
theorem fars_at {e : Nat} (ok : PlanOk p) (he : e < p.ranks.length) : (farsF p d).getD e 0 = farsM p d e (lawRoot p.ranks.length (farsM p d) p.ranks e) := by
  rw [fars_eq ok]
  unfold lawFars
  rw [List.getD_eq_getElem?_getD, map_range_get he]
  rfl
theorem choices_eq (ok : PlanOk p) {b : Nat} (hb : b < p.ranks.length) : choicesF p (upOf p.roads d) (farsF p d) b = lawSome (farsM p d) p.ranks (upRows p.roads d) b (lawRoot p.ranks.length (farsM p d) p.ranks b) := by
  have key : ∀ ks : List Nat, (∀ k ∈ ks, k < p.roads.length) → ((ks.filter fun k => match p.roads[k]? with
      | some r => isUp k r.members d
      | none => false).filterMap fun k => match p.roads[k]? with
        | some r => match otherEnd r b with
          | some e => if (farsF p d).getD e 0 + r.cost = (farsF p d).getD b 0 then some ((p.ranks.getD e 0, e), k) else none
          | none => none
        | none => none) = (ks.filterMap fun k => match p.roads[k]? with
        | some r => if isUp k r.members d = true then some (k, r.one, r.other, r.cost) else none
        | none => none).filterMap (lawOne (farsM p d) p.ranks b (lawRoot p.ranks.length (farsM p d) p.ranks b)) := by
    intro ks
    induction ks with
    | nil => intro _; rfl
    | cons k ks ih =>
      intro hks
      have ih := ih fun x hx => hks x (List.mem_cons_of_mem _ hx)
      obtain ⟨r, hr⟩ := get_of (hks k (List.mem_cons_self ..))
      have hrd := ok.rd r (List.mem_of_getElem? hr)
      have h1 := hrd.lt
      have h2 := hrd.in_
      by_cases c : isUp k r.members d = true
      · rw [List.filter_cons_of_pos (by rw [hr]; exact c), List.filterMap_cons, List.filterMap_cons]
        have hu : k ∈ upOf p.roads d := by
          unfold upOf
          exact List.mem_filter.mpr ⟨List.mem_range.mpr (hks k (List.mem_cons_self ..)), by rw [hr]; exact c⟩
        have ea := up_adj hu hr
        simp only [hr, c, if_true]
        rw [List.filterMap_cons]
        have hone : (match otherEnd r b with
            | some e => if (farsF p d).getD e 0 + r.cost = (farsF p d).getD b 0 then some ((p.ranks.getD e 0, e), k) else none
            | none => none) = lawOne (farsM p d) p.ranks b (lawRoot p.ranks.length (farsM p d) p.ranks b) (k, r.one, r.other, r.cost) := by
          unfold otherEnd lawOne
          by_cases c1 : b = r.one
          · have et : r.one + r.other - b = r.other := by omega
            rw [if_pos c1, if_pos (Or.inl c1)]
            simp only [et]
            rw [fars_at ok h2, fars_at ok hb, ← root_adj ok ea, ← c1]
          · rw [if_neg c1]
            by_cases c2 : b = r.other
            · have et : r.one + r.other - b = r.one := by omega
              rw [if_pos c2, if_pos (Or.inr c2)]
              simp only [et]
              rw [fars_at ok (show r.one < p.ranks.length by omega), fars_at ok hb, root_adj ok ea, ← c2]
            · rw [if_neg c2, if_neg (by show ¬ (b = r.one ∨ b = r.other); omega)]
        rw [hone, ih]
      · rw [List.filter_cons_of_neg (by rw [hr]; exact c), ih]
        simp only [List.filterMap_cons, hr, c, if_false]
        rfl
  exact key _ fun k hk => List.mem_range.mp hk
theorem some_nil (ok : PlanOk p) {b : Nat} (hb : b < p.ranks.length) : lawSome (farsM p d) p.ranks (upRows p.roads d) b b = [] := by
  unfold lawSome
  rw [List.filterMap_eq_nil_iff]
  intro x hx
  have := rowsOk ok d x hx
  have z := (dist_farsM ok d).zero b hb
  unfold lawOne
  by_cases c : b = x.2.1 ∨ b = x.2.2.1
  · rw [if_pos c, if_neg (by omega)]
  · rw [if_neg c]
theorem ways_eq (ok : PlanOk p) : waysF p d = lawWays p d := by
  unfold waysF lawWays
  apply List.map_congr_left
  intro b hb
  have hb' := List.mem_range.mp hb
  unfold wayF lawWay
  rw [choices_eq ok hb']
  by_cases c : lawRoot p.ranks.length (farsM p d) p.ranks b = b
  · rw [if_pos c, c, some_nil ok hb']
  · rw [if_neg c] <;> (cases lawSome (farsM p d) p.ranks (upRows p.roads d) b (lawRoot p.ranks.length (farsM p d) p.ranks b) <;> rfl)
theorem law_ok (ok : PlanOk p) : LawTreeOk p d := by
  have D := dist_farsM ok d
  refine ⟨D.zero, fun b hb hne => ?_⟩
  have hn := lawNames_self (ranks := p.ranks) hb (D.zero b hb)
  obtain ⟨hr, hl⟩ := lawRoot_lt hn
  obtain ⟨t, c, ⟨x, hx, ex, ec⟩, ht, hs, _⟩ := next_step (rowsOk ok d) D hb hr hl (fun z => hne z.symm)
  intro e
  unfold lawSome at e
  rw [List.filterMap_eq_nil_iff] at e
  have q := e x hx
  have et : x.2.1 + x.2.2.1 - b = t := by omega
  unfold lawOne at q
  rw [if_pos (by omega), et, ec, if_pos hs] at q
  cases q
theorem tree_eq (ok : PlanOk p) : TreeEq p d := ⟨roots_eq ok, fars_eq ok, ways_eq ok, law_ok ok⟩
end
end BY
end

section
set_option Elab.async false
set_option linter.all false
set_option maxRecDepth 100000
set_option maxHeartbeats 4000000
namespace BY
open PySem PySem.Spec PyProof.Rows L2
open Evl (Ex ex_l ex_t)
def topS (i : Nat) : Stmt := PySem.Challenge.pw_bridgeyard_k03_plain_trees.main.body.getD i (.Pass ⟨0, 0, 0, 0⟩)
structure TopK (K : PySem.W.Frag) (mg : Str → Option Value) (x : Str) (st : Stmt) (pars ks : List Str) (dvs : List V) : Prop where
  ex : ∃ f fd, Fun K x x st f fd ∧ mg x = some (.ref f) ∧ KBn K fd pars 1 ks (· ++ ·) (· ++ ·) ∧ ∃ ds, Vals dvs ds ∧ Binds K fd pars ds
theorem hasK_of {P : Program} {w : World} {K : PySem.W.Frag} {mg : Str → Option Value} {base : Heap} {x : Str} {k : Nat} {N pars ks : List Str} {dvs : List V} {st : Stmt} {fx : FX} {t : TS} (T : TopK K mg x st pars ks dvs) (S : FnScope N pars (defScope st)) (g : Good K fx t N.length pars.length)
    (hd : ∀ (cdv : Value) (A : Around) (outer : List Env) (s : Shared) (H : Hp) (E : XK) (f : Addr) (hr : Room k (A.deeper (envOfC x (defScope st) s.heap.objs.size f cdv))), PSs (cxOf CX0 P w K mg base N x (defScope st) f cdv A outer s H E).nox (defBody st) t) :
    HasK P w K mg base x (k + 1) pars ks dvs fx := by
  obtain ⟨f, fd, F, hm, kb, bd⟩ := T.ex
  exact ⟨f, fd, fn_x F S (fun _ _ _ _ q => g.len q) (fun _ _ _ _ q => g.grow q) (fun cdv A outer s H E hr => ⟨t, hd cdv A outer s H E f hr, fun as κ a κ' q l1 l2 => ⟨g.lo q l1 l2, g.run q⟩⟩), hm, F.kp, kb, bd⟩
theorem top_mk {K : PySem.W.Frag} {h : Heap} {mg : Str → Option Value} {x : Str} {st : Stmt} {pars : List Str} {f : Addr} {oc : Value} {od an : Option Addr} {osl : Array (Option Value)} {kV doc pm cdv ct : Value} (X : K.In h) (G : h.Ns mainGlobals mg)
    (a : PySem.W.nsIn K mainGlobals x = some (some (.ref f))) (l : K.lookup f = some ⟨oc, od, .func (PySem.W.fnOf x x (defArgs st) (defBody st) (defScope st) .none kV doc pm an cdv ct), osl⟩) (c : PySem.W.codeIn K cdv x = true) (k : PySem.W.keepIn K (.ref f) = true)
    (hb : ∀ (kV doc pm : Value) (an : Option Addr) (cdv ct : Value) (us : List Value), us.length = pars.length → bindArgs (PySem.W.fnOf x x (defArgs st) (defBody st) (defScope st) .none kV doc pm an cdv ct) ⟨us, []⟩ = pure (pars.zip us)) : Top K mg x st pars :=
  ⟨f, _, fun_mk l c k, PySem.W.mg_of X G a, (fun_mk l c k).binds hb⟩
theorem sp_law {K : PySem.W.Frag} {H : Hp} {a : Addr} {ns : List Int} (hS : SqL K H a (ns.map V.int)) (hl : ns.length ≤ 63) : spY K fy_law pre_law [.ref a] H (fun v _ => v = .bl true) fun _ _ _ => False :=
  ⟨H, [], [], [.d (.list (ns.map .int))], ⟨fun _ _ e => e, .nil, rfl, fun _ _ _ e => by simp at e⟩, .cons (.d (.lst hS (ints_dp ns))) .nil, ⟨ns, rfl, by omega⟩, fun v a κ' G' H' ps' ⟨e, _⟩ _ _ r => by
    subst e
    cases r with
    | d r =>
      cases r
      rfl⟩
abbrev s_is_number : Stmt := topS 11
abbrev N_is_number : List Str := ["thing", "least", "last"]
abbrev P_is_number : List Str := ["thing", "least", "last"]
theorem sc_is_number : FnScope N_is_number P_is_number (defScope s_is_number) := ⟨rfl, rfl, rfl, by decide +kernel, rfl, by decide +kernel, by decide +kernel⟩
abbrev s_is_tuple : Stmt := topS 12
abbrev N_is_tuple : List Str := ["thing", "many"]
abbrev P_is_tuple : List Str := ["thing", "many"]
theorem sc_is_tuple : FnScope N_is_tuple P_is_tuple (defScope s_is_tuple) := ⟨rfl, rfl, rfl, by decide +kernel, rfl, by decide +kernel, by decide +kernel⟩
abbrev s_is_lan : Stmt := topS 13
abbrev N_is_lan : List Str := ["thing"]
abbrev P_is_lan : List Str := ["thing"]
theorem sc_is_lan : FnScope N_is_lan P_is_lan (defScope s_is_lan) := ⟨rfl, rfl, rfl, by decide +kernel, rfl, by decide +kernel, by decide +kernel⟩
abbrev s_check_plan : Stmt := topS 14
abbrev N_check_plan : List Str := ["plan", "ranks", "roads"]
abbrev P_check_plan : List Str := ["plan"]
theorem sc_check_plan : FnScope N_check_plan P_check_plan (defScope s_check_plan) := ⟨rfl, rfl, rfl, by decide +kernel, rfl, by decide +kernel, by decide +kernel⟩
abbrev s__check_ranks : Stmt := topS 15
abbrev N__check_ranks : List Str := ["ranks", "number", "rank"]
abbrev P__check_ranks : List Str := ["ranks"]
theorem sc__check_ranks : FnScope N__check_ranks P__check_ranks (defScope s__check_ranks) := ⟨rfl, rfl, rfl, by decide +kernel, rfl, by decide +kernel, by decide +kernel⟩
abbrev s__check_roads : Stmt := topS 16
abbrev N__check_roads : List Str := ["roads", "bridges", "number", "road"]
abbrev P__check_roads : List Str := ["roads", "bridges"]
theorem sc__check_roads : FnScope N__check_roads P__check_roads (defScope s__check_roads) := ⟨rfl, rfl, rfl, by decide +kernel, rfl, by decide +kernel, by decide +kernel⟩
abbrev s__is_road : Stmt := topS 17
abbrev N__is_road : List Str := ["road", "bridges", "one", "other", "cost", "members", "lans"]
abbrev P__is_road : List Str := ["road", "bridges"]
theorem sc__is_road : FnScope N__is_road P__is_road (defScope s__is_road) := ⟨rfl, rfl, rfl, by decide +kernel, rfl, by decide +kernel, by decide +kernel⟩
abbrev s__are_lans : Stmt := topS 18
abbrev N__are_lans : List Str := ["lans", "lan"]
abbrev P__are_lans : List Str := ["lans"]
theorem sc__are_lans : FnScope N__are_lans P__are_lans (defScope s__are_lans) := ⟨rfl, rfl, rfl, by decide +kernel, rfl, by decide +kernel, by decide +kernel⟩
abbrev s_check_road : Stmt := topS 19
abbrev N_check_road : List Str := ["plan", "road"]
abbrev P_check_road : List Str := ["plan", "road"]
theorem sc_check_road : FnScope N_check_road P_check_road (defScope s_check_road) := ⟨rfl, rfl, rfl, by decide +kernel, rfl, by decide +kernel, by decide +kernel⟩
abbrev s_check_member : Stmt := topS 20
abbrev N_check_member : List Str := ["plan", "road", "member"]
abbrev P_check_member : List Str := ["plan", "road", "member"]
theorem sc_check_member : FnScope N_check_member P_check_member (defScope s_check_member) := ⟨rfl, rfl, rfl, by decide +kernel, rfl, by decide +kernel, by decide +kernel⟩
abbrev s_check_down : Stmt := topS 21
abbrev N_check_down : List Str := ["plan", "down", "pair", "road", "member"]
abbrev P_check_down : List Str := ["plan", "down"]
theorem sc_check_down : FnScope N_check_down P_check_down (defScope s_check_down) := ⟨rfl, rfl, rfl, by decide +kernel, rfl, by decide +kernel, by decide +kernel⟩
abbrev s_name_of : Stmt := topS 22
abbrev N_name_of : List Str := ["plan", "bridge"]
abbrev P_name_of : List Str := ["plan", "bridge"]
theorem sc_name_of : FnScope N_name_of P_name_of (defScope s_name_of) := ⟨rfl, rfl, rfl, by decide +kernel, rfl, by decide +kernel, by decide +kernel⟩
abbrev s_members_up : Stmt := topS 23
abbrev N_members_up : List Str := ["plan", "road", "down", "member"]
abbrev P_members_up : List Str := ["plan", "road", "down"]
theorem sc_members_up : FnScope N_members_up P_members_up (defScope s_members_up) := ⟨rfl, rfl, rfl, by decide +kernel, rfl, by decide +kernel, by decide +kernel⟩
abbrev s_roads_up : Stmt := topS 24
abbrev N_roads_up : List Str := ["plan", "down", "road"]
abbrev P_roads_up : List Str := ["plan", "down"]
theorem sc_roads_up : FnScope N_roads_up P_roads_up (defScope s_roads_up) := ⟨rfl, rfl, rfl, by decide +kernel, rfl, by decide +kernel, by decide +kernel⟩
abbrev s_other_end : Stmt := topS 25
abbrev N_other_end : List Str := ["road", "bridge", "one", "other"]
abbrev P_other_end : List Str := ["road", "bridge"]
theorem sc_other_end : FnScope N_other_end P_other_end (defScope s_other_end) := ⟨rfl, rfl, rfl, by decide +kernel, rfl, by decide +kernel, by decide +kernel⟩
abbrev s_tree : Stmt := topS 27
abbrev N_tree : List Str := ["plan", "down", "up", "bests", "roots", "root", "far", "fars", "ways", "bridge"]
abbrev P_tree : List Str := ["plan", "down"]
theorem sc_tree : FnScope N_tree P_tree (defScope s_tree) := ⟨rfl, rfl, rfl, by decide +kernel, rfl, by decide +kernel, by decide +kernel⟩
abbrev s__nearest : Stmt := topS 28
abbrev N__nearest : List Str := ["plan", "up", "ranks", "roads", "bests", "bridge", "_", "number", "one", "other", "cost"]
abbrev P__nearest : List Str := ["plan", "up"]
theorem sc__nearest : FnScope N__nearest P__nearest (defScope s__nearest) := ⟨rfl, rfl, rfl, by decide +kernel, rfl, by decide +kernel, by decide +kernel⟩
abbrev s__farther : Stmt := topS 29
abbrev N__farther : List Str := ["best", "cost", "root", "far"]
abbrev P__farther : List Str := ["best", "cost"]
theorem sc__farther : FnScope N__farther P__farther (defScope s__farther) := ⟨rfl, rfl, rfl, by decide +kernel, rfl, by decide +kernel, by decide +kernel⟩
abbrev s__way : Stmt := topS 30
abbrev N__way : List Str := ["plan", "up", "fars", "bridge", "choices", "number", "road", "end"]
abbrev P__way : List Str := ["plan", "up", "fars", "bridge"]
theorem sc__way : FnScope N__way P__way (defScope s__way) := ⟨rfl, rfl, rfl, by decide +kernel, rfl, by decide +kernel, by decide +kernel⟩
abbrev s__law_begun : Stmt := topS 32
abbrev N__law_begun : List Str := ["_law_script", "_law_stirred", "_law_cell"]
abbrev P__law_begun : List Str := ["_law_script"]
theorem sc__law_begun : FnScope N__law_begun P__law_begun (defScope s__law_begun) := ⟨rfl, rfl, rfl, by decide +kernel, rfl, by decide +kernel, by decide +kernel⟩
abbrev s__law_take : Stmt := topS 33
abbrev N__law_take : List Str := ["_law_box", "_law_many", "_law_number"]
abbrev P__law_take : List Str := ["_law_box", "_law_many"]
theorem sc__law_take : FnScope N__law_take P__law_take (defScope s__law_take) := ⟨rfl, rfl, rfl, by decide +kernel, rfl, by decide +kernel, by decide +kernel⟩
abbrev s__law_alike : Stmt := topS 34
abbrev N__law_alike : List Str := ["_law_found", "_law_due", "_law_k"]
abbrev P__law_alike : List Str := ["_law_found", "_law_due"]
theorem sc__law_alike : FnScope N__law_alike P__law_alike (defScope s__law_alike) := ⟨rfl, rfl, rfl, by decide +kernel, rfl, by decide +kernel, by decide +kernel⟩
abbrev s__law_road : Stmt := topS 35
abbrev N__law_road : List Str := ["_law_box", "_law_many", "_law_other", "_law_one", "_law_cost", "_law_lans", "_law_lan"]
abbrev P__law_road : List Str := ["_law_box", "_law_many"]
theorem sc__law_road : FnScope N__law_road P__law_road (defScope s__law_road) := ⟨rfl, rfl, rfl, by decide +kernel, rfl, by decide +kernel, by decide +kernel⟩
abbrev s__law_plan : Stmt := topS 36
abbrev N__law_plan : List Str := ["_law_box", "_law_many", "_law_ranks", "_law_k", "_law_roads", "_law_other", "_law_road_here"]
abbrev P__law_plan : List Str := ["_law_box"]
theorem sc__law_plan : FnScope N__law_plan P__law_plan (defScope s__law_plan) := ⟨rfl, rfl, rfl, by decide +kernel, rfl, by decide +kernel, by decide +kernel⟩
abbrev s__law_down : Stmt := topS 37
abbrev N__law_down : List Str := ["_law_box", "_law_plan_here", "_law_often", "_law_found", "_law_road_here", "_law_member"]
abbrev P__law_down : List Str := ["_law_box", "_law_plan_here", "_law_often"]
theorem sc__law_down : FnScope N__law_down P__law_down (defScope s__law_down) := ⟨rfl, rfl, rfl, by decide +kernel, rfl, by decide +kernel, by decide +kernel⟩
abbrev s__law_up : Stmt := topS 38
abbrev N__law_up : List Str := ["_law_plan_here", "_law_fallen", "_law_found", "_law_road_here", "_law_one", "_law_other", "_law_cost", "_law_members", "_law_lans", "_law_member"]
abbrev P__law_up : List Str := ["_law_plan_here", "_law_fallen"]
theorem sc__law_up : FnScope N__law_up P__law_up (defScope s__law_up) := ⟨rfl, rfl, rfl, by decide +kernel, rfl, by decide +kernel, by decide +kernel⟩
abbrev s__law_row : Stmt := topS 39
abbrev N__law_row : List Str := ["_law_many", "_law_k", "_law_j"]
abbrev P__law_row : List Str := ["_law_many", "_law_k"]
theorem sc__law_row : FnScope N__law_row P__law_row (defScope s__law_row) := ⟨rfl, rfl, rfl, by decide +kernel, rfl, by decide +kernel, by decide +kernel⟩
abbrev s__law_fars : Stmt := topS 40
abbrev N__law_fars : List Str := ["_law_plan_here", "_law_fallen", "_law_many", "_law_found", "_law_k", "_law_road_here", "_law_one", "_law_other", "_law_cost", "_law_middle", "_law_j"]
abbrev P__law_fars : List Str := ["_law_plan_here", "_law_fallen"]
theorem sc__law_fars : FnScope N__law_fars P__law_fars (defScope s__law_fars) := ⟨rfl, rfl, rfl, by decide +kernel, rfl, by decide +kernel, by decide +kernel⟩
abbrev s__law_tree : Stmt := topS 41
abbrev N__law_tree : List Str := ["_law_plan_here", "_law_fallen", "_law_fars_here", "_law_ranks", "_law_roots", "_law_ways", "_law_bridge", "_law_names", "_law_k", "_law_root", "_law_some", "_law_road_here", "_law_one", "_law_other", "_law_cost", "_law_there"]
abbrev P__law_tree : List Str := ["_law_plan_here", "_law_fallen"]
theorem sc__law_tree : FnScope N__law_tree P__law_tree (defScope s__law_tree) := ⟨rfl, rfl, rfl, by decide +kernel, rfl, by decide +kernel, by decide +kernel⟩
abbrev s_law : Stmt := topS 42
abbrev N_law : List Str := ["_law_script", "_law_box", "_law_turn", "_law_plan_here", "_law_fallen", "_law_again", "_law_found", "_law_some"]
abbrev P_law : List Str := ["_law_script"]
theorem sc_law : FnScope N_law P_law (defScope s_law) := ⟨rfl, rfl, rfl, by decide +kernel, rfl, by decide +kernel, by decide +kernel⟩
theorem has_is_number {P : Program} {w : World} {K : PySem.W.Frag} {mg : Str → Option Value} {base : Heap} (T : Top K mg "is_number" s_is_number P_is_number) (B : Bs mg)   : Has P w K mg base "is_number" 1 P_is_number fx_is_number :=
  has_of (k := 0) T sc_is_number (good_is_number (w := w)) fun cdv A outer s H E f hr =>
  (pss_cons (ps_if (PW.pt (pw_or (pt_tru (pe_callB call_isi (by rfl) B.isinstance_ boot_isinstance (pa_cons (pv 0) (pa_cons (pe_bltn (by rfl) B.bool_ boot_bool rfl) pa_nil)))) (pw_or1 (pt_not (pt_tru (pe_callB call_isi (by rfl) B.isinstance_ boot_isinstance (pa_cons (pv 0) (pa_cons (pe_bltn (by rfl) B.int_ boot_int rfl) pa_nil)))))))) (pss_one (ps_ret pe_bl)) pss_nil) (pss_one (ps_ret (pe_chain op_le op_le (pv 1) (pv 0) (pv 2)))))
theorem has_is_tuple {P : Program} {w : World} {K : PySem.W.Frag} {mg : Str → Option Value} {base : Heap} (T : Top K mg "is_tuple" s_is_tuple P_is_tuple) (B : Bs mg)   : Has P w K mg base "is_tuple" 1 P_is_tuple fx_is_tuple :=
  has_of (k := 0) T sc_is_tuple (good_is_tuple (w := w)) fun cdv A outer s H E f hr =>
  (pss_one (ps_ret (pe_and (pe_callB call_isi (by rfl) B.isinstance_ boot_isinstance (pa_cons (pv 0) (pa_cons (pe_bltn (by rfl) B.tuple_ boot_tuple rfl) pa_nil))) (pe_one (pe_cmpR (op_eqD (hu64 hr)) (pe_callB call_len_seq (by rfl) B.len_ boot_len (pa_cons (pv 0) pa_nil)) (pv 1) (nomark _))))))
theorem has_name_of {P : Program} {w : World} {K : PySem.W.Frag} {mg : Str → Option Value} {base : Heap} (T : Top K mg "name_of" s_name_of P_name_of)    : Has P w K mg base "name_of" 1 P_name_of fx_name_of :=
  has_of (k := 0) T sc_name_of (good_name_of (w := w)) fun cdv A outer s H E f hr =>
  (pss_one (ps_ret (pe_tup (pa_cons (pe_ix ix_seq (pe_ix ix_seq (pv 0) pe_int (fun _ _ => rfl)) (pv 1) (fun _ _ => rfl)) (pa_cons (pv 1) pa_nil)))))
theorem has_members_up {P : Program} {w : World} {K : PySem.W.Frag} {mg : Str → Option Value} {base : Heap} (T : Top K mg "members_up" s_members_up P_members_up) (B : Bs mg)   : Has P w K mg base "members_up" 1 P_members_up fx_members_up :=
  has_of (k := 0) T sc_members_up (good_members_up (w := w)) fun cdv A outer s H E f hr =>
  (pss_one (ps_ret (pe_lc (own := [("member", 3)]) (g := (gName 3)) (tt := (tTest (tOp (rInTD K true) (tTup (tCons (tVar 1) (tCons (tVar 3) tNil))) (tVar 2)))) (te := (tVar 3)) rfl sc_members_up.nd (pi_range1 (by rfl) B.range_ (pa_cons (pe_ix ix_seq (pe_ix ix_seq (pe_ix ix_seq (pv 0) pe_int (fun _ _ => rfl)) (pv 1) (fun _ _ => rfl)) pe_int (fun _ _ => rfl)) pa_nil)) (blkOk_by (N := N_members_up) (sc := defScope s_members_up) (by decide +kernel)) (fun _ _ _ _ _ => (pg_name (i := 3) sc_members_up.nd rfl (Or.inl rfl))) (fun _ _ _ _ _ => (pts_one (pt_cmpR (op_niTD (hu100 hr)) (pe_tup (pa_cons (pv 1) (pa_cons (pv 3) pa_nil))) (pv 2) (by with_unfolding_all rfl)))) (fun _ _ _ _ _ => (pv 3)))))
theorem has_other_end {P : Program} {w : World} {K : PySem.W.Frag} {mg : Str → Option Value} {base : Heap} (T : Top K mg "other_end" s_other_end P_other_end)    : Has P w K mg base "other_end" 1 P_other_end fx_other_end :=
  has_of (k := 0) T sc_other_end (good_other_end (w := w)) fun cdv A outer s H E f hr =>
  (pss_cons (ps_asg (pe_slice sl_tupA (pv 0) po_none (po_some pe_int)) (pg_tup rfl (pgs_cons (pg_name (i := 2) sc_other_end.nd rfl (Or.inl rfl)) (pgs_cons (pg_name (i := 3) sc_other_end.nd rfl (Or.inl rfl)) pgs_nil)))) (pss_cons (ps_if (pt_cmpR (op_eqD (hu64 hr)) (pv 1) (pv 2) (nomark _)) (pss_one (ps_ret (pv 3))) pss_nil) (pss_cons (ps_if (pt_cmpR (op_eqD (hu64 hr)) (pv 1) (pv 3) (nomark _)) (pss_one (ps_ret (pv 2))) pss_nil) (pss_one (ps_ret pe_non)))))
theorem has__farther {P : Program} {w : World} {K : PySem.W.Frag} {mg : Str → Option Value} {base : Heap} (T : Top K mg "_farther" s__farther P__farther)    : Has P w K mg base "_farther" 1 P__farther fx__farther :=
  has_of (k := 0) T sc__farther (good__farther (w := w)) fun cdv A outer s H E f hr =>
  (pss_cons (ps_asg (pv 0) (pg_tup rfl (pgs_cons (pg_name (i := 2) sc__farther.nd rfl (Or.inl rfl)) (pgs_cons (pg_name (i := 3) sc__farther.nd rfl (Or.inl rfl)) pgs_nil)))) (pss_one (ps_ret (pe_tup (pa_cons (pv 2) (pa_cons (pe_op op_addG (pv 3) (pv 1)) pa_nil))))))
theorem has__law_begun {P : Program} {w : World} {K : PySem.W.Frag} {mg : Str → Option Value} {base : Heap} (T : Top K mg "_law_begun" s__law_begun P__law_begun) (B : Bs mg)   : HasY P w K mg base "_law_begun" 1 P__law_begun fy__law_begun pre__law_begun :=
  hasY_of (k := 0) T sc__law_begun (good__law_begun (w := w)) fun cdv A outer s H E f hr =>
  (pss_cons (ps_set (i := 1) sc__law_begun.nd rfl (Or.inl rfl) pe_int) (pss_cons (ps_for PassesOwn.never rfl (pi_seq (pv 0)) (pg_name (i := 2) sc__law_begun.nd rfl (Or.inl rfl)) (pss_one (ps_set (i := 1) sc__law_begun.nd rfl (Or.inl rfl) (pe_op op_mod (pe_op op_addG (pe_op op_addG (pe_op op_mul (pv 1) pe_int) (pe_op op_mul (pv 2) pe_int)) pe_int) pe_int)))) (pss_one (ps_ret (pe_lst (pa_cons (pe_callTy call_list_of (by rfl) B.list_ boot_list (pa_cons (pv 0) pa_nil)) (pa_cons (pe_op op_mul (pv 1) (pe_callTy call_int1 (by rfl) B.int_ boot_int (pa_cons (pe_cmpR op_gt (pe_callB call_len_seq (by rfl) B.len_ boot_len (pa_cons (pv 0) pa_nil)) pe_int (nomark _)) pa_nil))) pa_nil)))))))
theorem has__law_take {P : Program} {w : World} {K : PySem.W.Frag} {mg : Str → Option Value} {base : Heap} (T : Top K mg "_law_take" s__law_take P__law_take)    : HasY P w K mg base "_law_take" 1 P__law_take fy__law_take pre__law_take :=
  hasY_of (k := 0) T sc__law_take (good__law_take (w := w)) fun cdv A outer s H E f hr =>
  (pss_cons (ps_if (pt_cmpR (op_eqD (hu64 hr)) (pe_ix ix_seq (pv 0) pe_int (fun _ _ => rfl)) (pe_lst pa_nil) (nomark _)) (pss_cons (ps_asg (pe_op op_mod (pe_op op_mul (pe_ix ix_seq (pv 0) pe_int (fun _ _ => rfl)) pe_int) pe_int) (pg_sub (pv 0) pe_int set_list)) (pss_one (ps_ret (pe_op op_mod (pe_op op_fdivW (pe_ix ix_seq (pv 0) pe_int (fun _ _ => rfl)) pe_int) (pv 1))))) pss_nil) (pss_cons (ps_set (i := 2) sc__law_take.nd rfl (Or.inl rfl) (pe_ix ix_seq (pe_ix ix_seq (pv 0) pe_int (fun _ _ => rfl)) pe_int (fun _ _ => rfl))) (pss_cons (ps_asg (pe_op op_fdivW (pv 2) (pv 1)) (pg_sub (pe_ix ix_seq (pv 0) pe_int (fun _ _ => rfl)) pe_int set_list)) (pss_cons (ps_if (PW.pt (pw_or (pt_cmpR (op_eqD (hu64 hr)) (pe_ix ix_seq (pe_ix ix_seq (pv 0) pe_int (fun _ _ => rfl)) pe_int (fun _ _ => rfl)) pe_int (nomark _)) (pw_or1 (pt_cmpR (op_eqD (hu64 hr)) (pe_ix ix_seq (pe_ix ix_seq (pv 0) pe_int (fun _ _ => rfl)) pe_int (fun _ _ => rfl)) (pe_un un_neg pe_int) (nomark _))))) (pss_one (ps_expr (pe_bm PySem.F.plainAttrs_list PySem.F.slot_list_pop PySem.F.type_list_pop mt_popAt (pe_ix ix_seq (pv 0) pe_int (fun _ _ => rfl)) (pa_cons pe_int pa_nil)))) pss_nil) (pss_one (ps_ret (pe_op op_mod (pv 2) (pv 1))))))))
theorem has__law_up {P : Program} {w : World} {K : PySem.W.Frag} {mg : Str → Option Value} {base : Heap} (T : Top K mg "_law_up" s__law_up P__law_up) (B : Bs mg)   : Has P w K mg base "_law_up" 1 P__law_up fx__law_up :=
  has_of (k := 0) T sc__law_up (good__law_up (w := w)) fun cdv A outer s H E f hr =>
  (pss_cons (ps_set (i := 2) sc__law_up.nd rfl (Or.inl rfl) (pe_lst pa_nil)) (pss_cons (ps_for PassesOwn.never rfl (pi_range1 (by rfl) B.range_ (pa_cons (pe_callB call_len_seq (by rfl) B.len_ boot_len (pa_cons (pe_ix ix_seq (pv 0) pe_int (fun _ _ => rfl)) pa_nil)) pa_nil)) (pg_name (i := 3) sc__law_up.nd rfl (Or.inr rfl)) (pss_cons (ps_asg (pe_ix ix_seq (pe_ix ix_seq (pv 0) pe_int (fun _ _ => rfl)) (pv 3) (fun _ _ => rfl)) (pg_tup rfl (pgs_cons (pg_name (i := 4) sc__law_up.nd rfl (Or.inl rfl)) (pgs_cons (pg_name (i := 5) sc__law_up.nd rfl (Or.inl rfl)) (pgs_cons (pg_name (i := 6) sc__law_up.nd rfl (Or.inl rfl)) (pgs_cons (pg_name (i := 7) sc__law_up.nd rfl (Or.inl rfl)) (pgs_cons (pg_name (i := 8) sc__law_up.nd rfl (Or.inl rfl)) pgs_nil))))))) (pss_one (ps_if (pt_cmpR (op_neD (hu64 hr)) (pe_lc (own := [("_law_member", 9)]) (g := (gName 9)) (tt := (tTest (tOp (rInTD K true) (tTup (tCons (tVar 3) (tCons (tVar 9) tNil))) (tVar 1)))) (te := (tVar 9)) rfl sc__law_up.nd (pi_range1 (by rfl) B.range_ (pa_cons (pv 7) pa_nil)) (blkOk_by (N := N__law_up) (sc := defScope s__law_up) (by decide +kernel)) (fun _ _ _ _ _ => (pg_name (i := 9) sc__law_up.nd rfl (Or.inl rfl))) (fun _ _ _ _ _ => (pts_one (pt_cmpR (op_niTD (hu100 hr)) (pe_tup (pa_cons (pv 3) (pa_cons (pv 9) pa_nil))) (pv 1) (by with_unfolding_all rfl)))) (fun _ _ _ _ _ => (pv 9))) (pe_lst pa_nil) (nomark _)) (pss_one (ps_expr (pe_bm PySem.F.plainAttrs_list PySem.F.slot_list_append PySem.F.type_list_append mt_append (pv 2) (pa_cons (pe_tup (pa_cons (pv 3) (pa_cons (pv 4) (pa_cons (pv 5) (pa_cons (pv 6) pa_nil))))) pa_nil)))) pss_nil)))) (pss_one (ps_ret (pv 2)))))
theorem has__law_row {P : Program} {w : World} {K : PySem.W.Frag} {mg : Str → Option Value} {base : Heap} (T : Top K mg "_law_row" s__law_row P__law_row) (B : Bs mg)   : Has P w K mg base "_law_row" 1 P__law_row fx__law_row :=
  has_of (k := 0) T sc__law_row (good__law_row (w := w)) fun cdv A outer s H E f hr =>
  (pss_one (ps_ret (pe_lc (own := [("_law_j", 2)]) (g := (gName 2)) (tt := tYes) (te := (tOp (rI CMul fun i j => .int (i * j)) (tC (.int 999)) (tCB rInt1 (tCons (tOp (rNeD K) (tVar 1) (tVar 2)) tNil)))) rfl sc__law_row.nd (pi_range1 (by rfl) B.range_ (pa_cons (pv 0) pa_nil)) (blkOk_by (N := N__law_row) (sc := defScope s__law_row) (by decide +kernel)) (fun _ _ _ _ _ => (pg_name (i := 2) sc__law_row.nd rfl (Or.inl rfl))) (fun _ _ _ _ _ => pts_nil) (fun _ _ _ _ _ => (pe_op op_mul pe_int (pe_callTy call_int1 (by rfl) B.int_ boot_int (pa_cons (pe_cmpR (op_neD (hu64 hr)) (pv 1) (pv 2) (nomark _)) pa_nil)))))))
theorem has_is_lan {P : Program} {w : World} {K : PySem.W.Frag} {mg : Str → Option Value} {base : Heap} (T : Top K mg "is_lan" s_is_lan P_is_lan)  {u_LAST_LAN : Tok} (c_LAST_LAN : mg "LAST_LAN" = some (.int 3 u_LAST_LAN)) (h_is_number : Has P w K mg base "is_number" 1 P_is_number fx_is_number) : Has P w K mg base "is_lan" 2 P_is_lan fx_is_lan :=
  has_of (k := 1) T sc_is_lan (good_is_lan (w := w)) fun cdv A outer s H E f hr =>
  (pss_one (ps_ret (pe_has h_is_number hr (pa_cons (pv 0) (pa_cons pe_int (pa_cons (pe_glob (by rfl) c_LAST_LAN ⟨_, rfl⟩) pa_nil))))))
theorem has__check_ranks {P : Program} {w : World} {K : PySem.W.Frag} {mg : Str → Option Value} {base : Heap} (T : Top K mg "_check_ranks" s__check_ranks P__check_ranks) (B : Bs mg) {u_LAST_RANK : Tok} (c_LAST_RANK : mg "LAST_RANK" = some (.int 9 u_LAST_RANK)) {u_MOST_BRIDGES : Tok} (c_MOST_BRIDGES : mg "MOST_BRIDGES" = some (.int 6 u_MOST_BRIDGES)) (h_is_number : Has P w K mg base "is_number" 1 P_is_number fx_is_number) : Has P w K mg base "_check_ranks" 2 P__check_ranks fx__check_ranks :=
  has_of (k := 1) T sc__check_ranks (good__check_ranks (w := w)) fun cdv A outer s H E f hr =>
  (pss_cons (ps_if (PW.pt (pw_or (pt_not (pt_tru (pe_callB call_isi (by rfl) B.isinstance_ boot_isinstance (pa_cons (pv 0) (pa_cons (pe_bltn (by rfl) B.tuple_ boot_tuple rfl) pa_nil))))) (pw_or1 (pt_not (pt_tru (pv 0)))))) (pss_one ps_never) pss_nil) (pss_one (ps_for PassesOwn.never rfl (pi_enumT (by rfl) B.enumerate_ (pa_cons (pv 0) pa_nil)) (pg_tup rfl (pgs_cons (pg_name (i := 1) sc__check_ranks.nd rfl (Or.inl rfl)) (pgs_cons (pg_name (i := 2) sc__check_ranks.nd rfl (Or.inl rfl)) pgs_nil))) (pss_one (ps_if (PW.pt (pw_or (pt_cmpR (op_eqD (hu64 hr)) (pv 1) (pe_glob (by rfl) c_MOST_BRIDGES ⟨_, rfl⟩) (nomark _)) (pw_or1 (pt_not (pt_tru (pe_has h_is_number hr (pa_cons (pv 2) (pa_cons pe_int (pa_cons (pe_glob (by rfl) c_LAST_RANK ⟨_, rfl⟩) pa_nil))))))))) (pss_one ps_never) pss_nil)))))
theorem has_check_road {P : Program} {w : World} {K : PySem.W.Frag} {mg : Str → Option Value} {base : Heap} (T : Top K mg "check_road" s_check_road P_check_road) (B : Bs mg)  (h_is_number : Has P w K mg base "is_number" 1 P_is_number fx_is_number) : Has P w K mg base "check_road" 2 P_check_road fx_check_road :=
  has_of (k := 1) T sc_check_road (good_check_road (w := w)) fun cdv A outer s H E f hr =>
  (pss_one (ps_if (pt_not (pt_tru (pe_has h_is_number hr (pa_cons (pv 1) (pa_cons pe_int (pa_cons (pe_op op_sub (pe_callB call_len_seq (by rfl) B.len_ boot_len (pa_cons (pe_ix ix_seq (pv 0) pe_int (fun _ _ => rfl)) pa_nil)) pe_int) pa_nil)))))) (pss_one ps_never) pss_nil))
theorem has_roads_up {P : Program} {w : World} {K : PySem.W.Frag} {mg : Str → Option Value} {base : Heap} (T : Top K mg "roads_up" s_roads_up P_roads_up) (B : Bs mg)  (h_members_up : Has P w K mg base "members_up" 1 P_members_up fx_members_up) : Has P w K mg base "roads_up" 2 P_roads_up fx_roads_up :=
  has_of (k := 1) T sc_roads_up (good_roads_up (w := w)) fun cdv A outer s H E f hr =>
  (pss_one (ps_ret (pe_lc (own := [("road", 2)]) (g := (gName 2)) (tt := (tTru K (tHas K fx_members_up (tCons (tVar 0) (tCons (tVar 2) (tCons (tVar 1) tNil)))))) (te := (tVar 2)) rfl sc_roads_up.nd (pi_range1 (by rfl) B.range_ (pa_cons (pe_callB call_len_seq (by rfl) B.len_ boot_len (pa_cons (pe_ix ix_seq (pv 0) pe_int (fun _ _ => rfl)) pa_nil)) pa_nil)) (blkOk_by (N := N_roads_up) (sc := defScope s_roads_up) (by decide +kernel)) (fun _ _ _ _ _ => (pg_name (i := 2) sc_roads_up.nd rfl (Or.inl rfl))) (fun _ _ _ _ _ => (pts_one (pt_tru (pe_has h_members_up hr (pa_cons (pv 0) (pa_cons (pv 2) (pa_cons (pv 1) pa_nil))))))) (fun _ _ _ _ _ => (pv 2)))))
theorem has__nearest {P : Program} {w : World} {K : PySem.W.Frag} {mg : Str → Option Value} {base : Heap} (T : Top K mg "_nearest" s__nearest P__nearest) (B : Bs mg)  (h__farther : Has P w K mg base "_farther" 1 P__farther fx__farther) (h_name_of : Has P w K mg base "name_of" 1 P_name_of fx_name_of) : Has P w K mg base "_nearest" 2 P__nearest fx__nearest :=
  has_of (k := 1) T sc__nearest (good__nearest (w := w)) fun cdv A outer s H E f hr =>
  (pss_cons (ps_asg (pv 0) (pg_tup rfl (pgs_cons (pg_name (i := 2) sc__nearest.nd rfl (Or.inl rfl)) (pgs_cons (pg_name (i := 3) sc__nearest.nd rfl (Or.inl rfl)) pgs_nil)))) (pss_cons (ps_setLc (i := 4) (own := [("bridge", 5)]) (g := (gName 5)) (tt := tYes) (te := (tTup (tCons (tHas K fx_name_of (tCons (tVar 0) (tCons (tVar 5) tNil))) (tCons (tC (.int 0)) tNil)))) rfl sc__nearest.nd rfl rfl (sw_true rfl rfl rfl (by decide +kernel)) (pi_range1 (by rfl) B.range_ (pa_cons (pe_callB call_len_seq (by rfl) B.len_ boot_len (pa_cons (pv 2) pa_nil)) pa_nil)) (blkOk_by (N := N__nearest) (sc := defScope s__nearest) (by decide +kernel)) (fun _ _ _ _ _ => (pg_name (i := 5) sc__nearest.nd rfl (Or.inl rfl))) (fun _ _ _ _ _ => pts_nil) (fun _ _ _ _ _ => (pe_tup (pa_cons (pe_has h_name_of hr (pa_cons (pv 0) (pa_cons (pv 5) pa_nil))) (pa_cons pe_int pa_nil))))) (pss_cons (ps_for PassesOwn.never rfl (pi_seq (pv 2)) (pg_name (i := 6) sc__nearest.nd rfl (Or.inl rfl)) (pss_one (ps_for PassesOwn.never rfl (pi_seq (pv 1)) (pg_name (i := 7) sc__nearest.nd rfl (Or.inl rfl)) (pss_cons (ps_asg (pe_slice sl_tupA (pe_ix ix_seq (pv 3) (pv 7) (fun _ _ => rfl)) po_none (po_some pe_int)) (pg_tup rfl (pgs_cons (pg_name (i := 8) sc__nearest.nd rfl (Or.inl rfl)) (pgs_cons (pg_name (i := 9) sc__nearest.nd rfl (Or.inl rfl)) (pgs_cons (pg_name (i := 10) sc__nearest.nd rfl (Or.inl rfl)) pgs_nil))))) (pss_cons (ps_asg (pe_callB (cr_minG rfl (hu100 hr)) (by rfl) B.min_ boot_min (pa_cons (pe_ix ix_seq (pv 4) (pv 8) (fun _ _ => rfl)) (pa_cons (pe_has h__farther hr (pa_cons (pe_ix ix_seq (pv 4) (pv 9) (fun _ _ => rfl)) (pa_cons (pv 10) pa_nil))) pa_nil))) (pg_sub (pv 4) (pv 8) set_list)) (pss_one (ps_asg (pe_callB (cr_minG rfl (hu100 hr)) (by rfl) B.min_ boot_min (pa_cons (pe_ix ix_seq (pv 4) (pv 9) (fun _ _ => rfl)) (pa_cons (pe_has h__farther hr (pa_cons (pe_ix ix_seq (pv 4) (pv 8) (fun _ _ => rfl)) (pa_cons (pv 10) pa_nil))) pa_nil))) (pg_sub (pv 4) (pv 9) set_list)))))))) (pss_one (ps_ret (pv 4))))))
theorem has__way {P : Program} {w : World} {K : PySem.W.Frag} {mg : Str → Option Value} {base : Heap} (T : Top K mg "_way" s__way P__way) (B : Bs mg)  (h_name_of : Has P w K mg base "name_of" 1 P_name_of fx_name_of) (h_other_end : Has P w K mg base "other_end" 1 P_other_end fx_other_end) : Has P w K mg base "_way" 2 P__way fx__way :=
  has_of (k := 1) T sc__way (good__way (w := w)) fun cdv A outer s H E f hr =>
  (pss_cons (ps_set (i := 4) sc__way.nd rfl (Or.inl rfl) (pe_lst pa_nil)) (pss_cons (ps_for PassesOwn.never rfl (pi_seq (pv 1)) (pg_name (i := 5) sc__way.nd rfl (Or.inl rfl)) (pss_cons (ps_set (i := 6) sc__way.nd rfl (Or.inl rfl) (pe_ix ix_seq (pe_ix ix_seq (pv 0) pe_int (fun _ _ => rfl)) (pv 5) (fun _ _ => rfl))) (pss_cons (ps_set (i := 7) sc__way.nd rfl (Or.inl rfl) (pe_has h_other_end hr (pa_cons (pv 6) (pa_cons (pv 3) pa_nil)))) (pss_one (ps_if (PW.pt (pw_and (pt_cmpR op_notN (pv 7) pe_non (nomark _)) (pw_and1 (pt_cmpR (op_eqD (hu64 hr)) (pe_op op_addG (pe_ix ix_seq (pv 2) (pv 7) (fun _ _ => rfl)) (pe_ix ix_seq (pv 6) pe_int (fun _ _ => rfl))) (pe_ix ix_seq (pv 2) (pv 3) (fun _ _ => rfl)) (nomark _))))) (pss_one (ps_expr (pe_bm PySem.F.plainAttrs_list PySem.F.slot_list_append PySem.F.type_list_append mt_append (pv 4) (pa_cons (pe_tup (pa_cons (pe_has h_name_of hr (pa_cons (pv 0) (pa_cons (pv 7) pa_nil))) (pa_cons (pv 5) pa_nil))) pa_nil)))) pss_nil))))) (pss_cons (ps_if (pt_not (pt_tru (pv 4))) (pss_one (ps_ret pe_non)) pss_nil) (pss_one (ps_ret (pe_ix ix_seq (pe_callB (cr_minG rfl (hu100 hr)) (by rfl) B.min_ boot_min (pa_cons (pv 4) pa_nil)) pe_int (fun _ _ => rfl)))))))
theorem has__law_road {P : Program} {w : World} {K : PySem.W.Frag} {mg : Str → Option Value} {base : Heap} (T : Top K mg "_law_road" s__law_road P__law_road) (B : Bs mg)  (h__law_take : HasY P w K mg base "_law_take" 1 P__law_take fy__law_take pre__law_take) : HasY P w K mg base "_law_road" 2 P__law_road fy__law_road pre__law_road :=
  hasY_of (k := 1) T sc__law_road (good__law_road (w := w)) fun cdv A outer s H E f hr =>
  (pss_cons (ps_set (i := 2) sc__law_road.nd rfl (Or.inl rfl) (pe_op op_addG pe_int (pe_hasY h__law_take hr (pa_cons (pv 0) (pa_cons (pe_op op_sub (pv 1) pe_int) pa_nil))))) (pss_cons (ps_par (i := 3) (j := 4) rfl sc__law_road.nd rfl rfl (by decide) rfl rfl (pa_cons (pe_hasY h__law_take hr (pa_cons (pv 0) (pa_cons (pv 2) pa_nil))) (pa_cons (pe_op op_addG pe_int (pe_hasY h__law_take hr (pa_cons (pv 0) (pa_cons (pe_ix ix_seq (pe_lst (pa_cons pe_int (pa_cons pe_int pa_nil))) (pe_hasY h__law_take hr (pa_cons (pv 0) (pa_cons pe_int pa_nil))) (fun _ _ => rfl)) pa_nil)))) pa_nil)) (by rfl)) (pss_cons (ps_set (i := 5) sc__law_road.nd rfl (Or.inl rfl) (pe_ifExp (pt_cmpR (op_eqD (hu64 hr)) (pe_hasY h__law_take hr (pa_cons (pv 0) (pa_cons pe_int pa_nil))) pe_int (nomark _)) (pe_callTy call_tuple_of (by rfl) B.tuple_ boot_tuple (pa_cons (pe_lc (own := [("_law_lan", 6)]) (g := (gName 6)) (tt := (tTest (tOp (rI0 fun i j => .bl (decide (j < i))) (tHasY K fy__law_take pre__law_take (tCons (tVar 0) (tCons (tC (.int 4)) tNil))) (tC (.int 0))))) (te := (tVar 6)) rfl sc__law_road.nd (pi_range1 (by rfl) B.range_ (pa_cons pe_int pa_nil)) (blkOk_by (N := N__law_road) (sc := defScope s__law_road) (by decide +kernel)) (fun _ _ _ _ _ => (pg_name (i := 6) sc__law_road.nd rfl (Or.inl rfl))) (fun _ _ _ _ _ => (pts_one (pt_cmpR op_gt (pe_hasY h__law_take hr (pa_cons (pv 0) (pa_cons pe_int pa_nil))) pe_int (nomark _)))) (fun _ _ _ _ _ => (pv 6))) pa_nil)) (pe_tup (pa_cons pe_int (pa_cons pe_int (pa_cons pe_int (pa_cons pe_int pa_nil))))))) (pss_one (ps_ret (pe_tup (pa_cons (pv 3) (pa_cons (pv 2) (pa_cons (pv 4) (pa_cons (pe_op op_addG pe_int (pe_hasY h__law_take hr (pa_cons (pv 0) (pa_cons pe_int pa_nil)))) (pa_cons (pv 5) pa_nil)))))))))))
theorem has__law_down {P : Program} {w : World} {K : PySem.W.Frag} {mg : Str → Option Value} {base : Heap} (T : Top K mg "_law_down" s__law_down P__law_down) (B : Bs mg)  (h__law_take : HasY P w K mg base "_law_take" 1 P__law_take fy__law_take pre__law_take) : HasY P w K mg base "_law_down" 2 P__law_down fy__law_down pre__law_down :=
  hasY_of (k := 1) T sc__law_down (good__law_down (w := w)) fun cdv A outer s H E f hr =>
  (pss_cons (ps_set (i := 3) sc__law_down.nd rfl (Or.inl rfl) (pe_lst pa_nil)) (pss_cons (ps_for PassesOwn.never rfl (pi_range1 (by rfl) B.range_ (pa_cons (pe_callB call_len_seq (by rfl) B.len_ boot_len (pa_cons (pe_ix ix_seq (pv 1) pe_int (fun _ _ => rfl)) pa_nil)) pa_nil)) (pg_name (i := 4) sc__law_down.nd rfl (Or.inr rfl)) (pss_one (ps_set (i := 3) sc__law_down.nd rfl (Or.inl rfl) (pe_op op_addG (pv 3) (pe_lc (own := [("_law_member", 5)]) (g := (gName 5)) (tt := (tTest (tOp (rEqD K) (tHasY K fy__law_take pre__law_take (tCons (tVar 0) (tCons (tVar 2) tNil))) (tC (.int 0))))) (te := (tTup (tCons (tVar 4) (tCons (tVar 5) tNil)))) rfl sc__law_down.nd (pi_range1 (by rfl) B.range_ (pa_cons (pe_ix ix_seq (pe_ix ix_seq (pe_ix ix_seq (pv 1) pe_int (fun _ _ => rfl)) (pv 4) (fun _ _ => rfl)) pe_int (fun _ _ => rfl)) pa_nil)) (blkOk_by (N := N__law_down) (sc := defScope s__law_down) (by decide +kernel)) (fun _ _ _ _ _ => (pg_name (i := 5) sc__law_down.nd rfl (Or.inl rfl))) (fun _ _ _ _ _ => (pts_one (pt_cmpR (op_eqD (hu64 hr)) (pe_hasY h__law_take hr (pa_cons (pv 0) (pa_cons (pv 2) pa_nil))) pe_int (nomark _)))) (fun _ _ _ _ _ => (pe_tup (pa_cons (pv 4) (pa_cons (pv 5) pa_nil))))))))) (pss_one (ps_ret (pe_callTy call_tuple_of (by rfl) B.tuple_ boot_tuple (pa_cons (pv 3) pa_nil))))))
theorem has__law_fars {P : Program} {w : World} {K : PySem.W.Frag} {mg : Str → Option Value} {base : Heap} (T : Top K mg "_law_fars" s__law_fars P__law_fars) (B : Bs mg)  (h__law_row : Has P w K mg base "_law_row" 1 P__law_row fx__law_row) (h__law_up : Has P w K mg base "_law_up" 1 P__law_up fx__law_up) : Has P w K mg base "_law_fars" 2 P__law_fars fx__law_fars :=
  has_of (k := 1) T sc__law_fars (good__law_fars (w := w)) fun cdv A outer s H E f hr =>
  (pss_cons (ps_set (i := 2) sc__law_fars.nd rfl (Or.inr rfl) (pe_callB call_len_seq (by rfl) B.len_ boot_len (pa_cons (pe_ix ix_seq (pv 0) pe_int (fun _ _ => rfl)) pa_nil))) (pss_cons (ps_setLc (i := 3) (own := [("_law_k", 4)]) (g := (gName 4)) (tt := tYes) (te := (tHas K fx__law_row (tCons (tVar 2) (tCons (tVar 4) tNil)))) rfl sc__law_fars.nd rfl rfl (sw_true rfl rfl rfl (by decide +kernel)) (pi_range1 (by rfl) B.range_ (pa_cons (pv 2) pa_nil)) (blkOk_by (N := N__law_fars) (sc := defScope s__law_fars) (by decide +kernel)) (fun _ _ _ _ _ => (pg_name (i := 4) sc__law_fars.nd rfl (Or.inl rfl))) (fun _ _ _ _ _ => pts_nil) (fun _ _ _ _ _ => (pe_has h__law_row hr (pa_cons (pv 2) (pa_cons (pv 4) pa_nil))))) (pss_cons (ps_for PassesOwn.never rfl (pi_seq (pe_has h__law_up hr (pa_cons (pv 0) (pa_cons (pv 1) pa_nil)))) (pg_tup rfl (pgs_cons (pg_name (i := 5) sc__law_fars.nd rfl (Or.inl rfl)) (pgs_cons (pg_name (i := 6) sc__law_fars.nd rfl (Or.inl rfl)) (pgs_cons (pg_name (i := 7) sc__law_fars.nd rfl (Or.inl rfl)) (pgs_cons (pg_name (i := 8) sc__law_fars.nd rfl (Or.inl rfl)) pgs_nil))))) (pss_cons (ps_asg (pe_callB (cr_minG rfl (hu100 hr)) (by rfl) B.min_ boot_min (pa_cons (pv 8) (pa_cons (pe_ix ix_seq (pe_ix ix_seq (pv 3) (pv 6) (fun _ _ => rfl)) (pv 7) (fun _ _ => rfl)) pa_nil))) (pg_sub (pe_ix ix_seq (pv 3) (pv 6) (fun _ _ => rfl)) (pv 7) set_list)) (pss_one (ps_asg (pe_ix ix_seq (pe_ix ix_seq (pv 3) (pv 6) (fun _ _ => rfl)) (pv 7) (fun _ _ => rfl)) (pg_sub (pe_ix ix_seq (pv 3) (pv 7) (fun _ _ => rfl)) (pv 6) set_list))))) (pss_cons (ps_for PassesOwn.never rfl (pi_range1 (by rfl) B.range_ (pa_cons (pv 2) pa_nil)) (pg_name (i := 9) sc__law_fars.nd rfl (Or.inl rfl)) (pss_one (ps_for PassesOwn.never rfl (pi_range1 (by rfl) B.range_ (pa_cons (pv 2) pa_nil)) (pg_name (i := 4) sc__law_fars.nd rfl (Or.inl rfl)) (pss_one (ps_for PassesOwn.never rfl (pi_range1 (by rfl) B.range_ (pa_cons (pv 2) pa_nil)) (pg_name (i := 10) sc__law_fars.nd rfl (Or.inl rfl)) (pss_one (ps_asg (pe_callB (cr_minG rfl (hu100 hr)) (by rfl) B.min_ boot_min (pa_cons (pe_ix ix_seq (pe_ix ix_seq (pv 3) (pv 4) (fun _ _ => rfl)) (pv 10) (fun _ _ => rfl)) (pa_cons (pe_op op_addG (pe_ix ix_seq (pe_ix ix_seq (pv 3) (pv 4) (fun _ _ => rfl)) (pv 9) (fun _ _ => rfl)) (pe_ix ix_seq (pe_ix ix_seq (pv 3) (pv 9) (fun _ _ => rfl)) (pv 10) (fun _ _ => rfl))) pa_nil))) (pg_sub (pe_ix ix_seq (pv 3) (pv 4) (fun _ _ => rfl)) (pv 10) set_list)))))))) (pss_one (ps_ret (pv 3)))))))
theorem has__are_lans {P : Program} {w : World} {K : PySem.W.Frag} {mg : Str → Option Value} {base : Heap} (T : Top K mg "_are_lans" s__are_lans P__are_lans) (B : Bs mg)  (h_is_lan : Has P w K mg base "is_lan" 2 P_is_lan fx_is_lan) : Has P w K mg base "_are_lans" 3 P__are_lans fx__are_lans :=
  has_of (k := 2) T sc__are_lans (good__are_lans (w := w)) fun cdv A outer s H E f hr =>
  (pss_cons (ps_if (PW.pt (pw_or (pt_not (pt_tru (pe_callB call_isi (by rfl) B.isinstance_ boot_isinstance (pa_cons (pv 0) (pa_cons (pe_bltn (by rfl) B.tuple_ boot_tuple rfl) pa_nil))))) (pw_or1 (pt_not (pt_tru (pe_callB (cr_all rfl) (by rfl) B.all_ boot_all (pa_cons (pe_lc (own := [("lan", 1)]) (g := (gName 1)) (tt := tYes) (te := (tHas K fx_is_lan (tCons (tVar 1) tNil))) rfl sc__are_lans.nd (pi_seq (pv 0)) (blkOk_by (N := N__are_lans) (sc := defScope s__are_lans) (by decide +kernel)) (fun _ _ _ _ _ => (pg_name (i := 1) sc__are_lans.nd rfl (Or.inl rfl))) (fun _ _ _ _ _ => pts_nil) (fun _ _ _ _ _ => (pe_has h_is_lan hr (pa_cons (pv 1) pa_nil)))) pa_nil))))))) (pss_one (ps_ret pe_bl)) pss_nil) (pss_one (ps_ret (pe_cmpR (op_eqD (hu64 hr)) (pe_callTy call_list_of (by rfl) B.list_ boot_list (pa_cons (pv 0) pa_nil)) (pe_callB (cr_sortedSet rfl) (by rfl) B.sorted_ boot_sorted (pa_cons (pe_callTy (cr_setTI rfl) (by rfl) B.set_ boot_set (pa_cons (pv 0) pa_nil)) pa_nil)) (nomark _)))))
theorem has_check_member {P : Program} {w : World} {K : PySem.W.Frag} {mg : Str → Option Value} {base : Heap} (T : Top K mg "check_member" s_check_member P_check_member)   (h_check_road : Has P w K mg base "check_road" 2 P_check_road fx_check_road) (h_is_number : Has P w K mg base "is_number" 1 P_is_number fx_is_number) : Has P w K mg base "check_member" 3 P_check_member fx_check_member :=
  has_of (k := 2) T sc_check_member (good_check_member (w := w)) fun cdv A outer s H E f hr =>
  (pss_cons (ps_expr (pe_has h_check_road hr (pa_cons (pv 0) (pa_cons (pv 1) pa_nil)))) (pss_one (ps_if (pt_not (pt_tru (pe_has h_is_number hr (pa_cons (pv 2) (pa_cons pe_int (pa_cons (pe_op op_sub (pe_ix ix_seq (pe_ix ix_seq (pe_ix ix_seq (pv 0) pe_int (fun _ _ => rfl)) (pv 1) (fun _ _ => rfl)) pe_int (fun _ _ => rfl)) pe_int) pa_nil)))))) (pss_one ps_never) pss_nil)))
theorem has0__law_alike {P : Program} {w : World} {K : PySem.W.Frag} {mg : Str → Option Value} {base : Heap} (T : Top K mg "_law_alike" s__law_alike P__law_alike) : Has P w K mg base "_law_alike" 0 P__law_alike (fxA 0) := by
  obtain ⟨f, fd, F, hm, bd⟩ := T.ex
  refine ⟨f, fd, ⟨fun vs H Q E h => ?_, fun A outer s H args us vs Q E _ _ _ _ h => ?_⟩, hm, F.kp, bd⟩
  · obtain ⟨_, _, _, _, _, _, _, _, ⟨_, _, _, _, _, _, hh, _⟩, _⟩ := h
    exact hh.elim
  · obtain ⟨_, _, _, _, _, _, _, _, ⟨_, _, _, _, _, _, hh, _⟩, _⟩ := h
    exact hh.elim
theorem hasS__law_alike {P : Program} {w : World} {K : PySem.W.Frag} {mg : Str → Option Value} {base : Heap} (T : Top K mg "_law_alike" s__law_alike P__law_alike) (B : Bs mg) (j : Nat) (h__law_alike : Has P w K mg base "_law_alike" j P__law_alike (fxA j)) : Has P w K mg base "_law_alike" (j + 1) P__law_alike (fxA (j + 1)) :=
  has_of (k := j) T sc__law_alike (good__law_alike (w := w) j) fun cdv A outer s H E f hr =>
  (pss_cons (ps_if (pt_cmpR op_isN (pv 1) pe_non (nomark _)) (pss_one (ps_ret (pe_cmpR op_isN (pv 0) pe_non (nomark _)))) pss_nil) (pss_cons (ps_if (pt_tru (pe_callB call_isi (by rfl) B.isinstance_ boot_isinstance (pa_cons (pv 1) (pa_cons (pe_bltn (by rfl) B.bool_ boot_bool rfl) pa_nil)))) (pss_one (ps_ret (pe_and (pe_callB call_isi (by rfl) B.isinstance_ boot_isinstance (pa_cons (pv 0) (pa_cons (pe_bltn (by rfl) B.bool_ boot_bool rfl) pa_nil))) (pe_one (pe_cmpR (op_eqD (hu64 hr)) (pv 0) (pv 1) (nomark _)))))) pss_nil) (pss_cons (ps_if (pt_tru (pe_callB call_isi (by rfl) B.isinstance_ boot_isinstance (pa_cons (pv 1) (pa_cons (pe_bltn (by rfl) B.int_ boot_int rfl) pa_nil)))) (pss_one (ps_ret (pe_and (pe_callB call_isi (by rfl) B.isinstance_ boot_isinstance (pa_cons (pv 0) (pa_cons (pe_bltn (by rfl) B.int_ boot_int rfl) pa_nil))) (pe_and (pe_not (pe_callB call_isi (by rfl) B.isinstance_ boot_isinstance (pa_cons (pv 0) (pa_cons (pe_bltn (by rfl) B.bool_ boot_bool rfl) pa_nil)))) (pe_one (pe_cmpR (op_eqD (hu64 hr)) (pv 0) (pv 1) (nomark _))))))) pss_nil) (pss_cons (ps_if (pt_tru (pe_callB call_isi (by rfl) B.isinstance_ boot_isinstance (pa_cons (pv 1) (pa_cons (pe_bltn (by rfl) B.str_ boot_str rfl) pa_nil)))) (pss_one (ps_ret (pe_and (pe_callB call_isi (by rfl) B.isinstance_ boot_isinstance (pa_cons (pv 0) (pa_cons (pe_bltn (by rfl) B.str_ boot_str rfl) pa_nil))) (pe_one (pe_cmpR (op_eqD (hu64 hr)) (pv 0) (pv 1) (nomark _)))))) pss_nil) (pss_cons (ps_if (PW.pt (pw_or (pt_cmpR (op_neD (hu64 hr)) (pe_callB call_isi (by rfl) B.isinstance_ boot_isinstance (pa_cons (pv 1) (pa_cons (pe_bltn (by rfl) B.tuple_ boot_tuple rfl) pa_nil))) (pe_callB call_isi (by rfl) B.isinstance_ boot_isinstance (pa_cons (pv 0) (pa_cons (pe_bltn (by rfl) B.tuple_ boot_tuple rfl) pa_nil))) (nomark _)) (pw_or1 (pt_cmpR (op_neD (hu64 hr)) (pe_callB call_isi (by rfl) B.isinstance_ boot_isinstance (pa_cons (pv 1) (pa_cons (pe_bltn (by rfl) B.list_ boot_list rfl) pa_nil))) (pe_callB call_isi (by rfl) B.isinstance_ boot_isinstance (pa_cons (pv 0) (pa_cons (pe_bltn (by rfl) B.list_ boot_list rfl) pa_nil))) (nomark _))))) (pss_one (ps_ret pe_bl)) pss_nil) (pss_cons (ps_if (pt_cmpR (op_neD (hu64 hr)) (pe_callB call_len_seq (by rfl) B.len_ boot_len (pa_cons (pv 0) pa_nil)) (pe_callB call_len_seq (by rfl) B.len_ boot_len (pa_cons (pv 1) pa_nil)) (nomark _)) (pss_one (ps_ret pe_bl)) pss_nil) (pss_cons (ps_for PassesOwn.never rfl (pi_range1 (by rfl) B.range_ (pa_cons (pe_callB call_len_seq (by rfl) B.len_ boot_len (pa_cons (pv 1) pa_nil)) pa_nil)) (pg_name (i := 2) sc__law_alike.nd rfl (Or.inl rfl)) (pss_one (ps_if (pt_not (pt_tru (pe_has (hkj := Nat.le_refl j) h__law_alike hr (pa_cons (pe_ix ix_seq (pv 0) (pv 2) (fun _ _ => rfl)) (pa_cons (pe_ix ix_seq (pv 1) (pv 2) (fun _ _ => rfl)) pa_nil))))) (pss_one (ps_ret pe_bl)) pss_nil))) (pss_one (ps_ret pe_bl)))))))))
theorem has__law_alike {P : Program} {w : World} {K : PySem.W.Frag} {mg : Str → Option Value} {base : Heap} (T : Top K mg "_law_alike" s__law_alike P__law_alike) (B : Bs mg) : Has P w K mg base "_law_alike" 3 P__law_alike (fxA 3) := hasS__law_alike T B 2 (hasS__law_alike T B 1 (hasS__law_alike T B 0 (has0__law_alike T)))
theorem has__law_plan {P : Program} {w : World} {K : PySem.W.Frag} {mg : Str → Option Value} {base : Heap} (T : Top K mg "_law_plan" s__law_plan P__law_plan) (B : Bs mg)  (h__law_road : HasY P w K mg base "_law_road" 2 P__law_road fy__law_road pre__law_road) (h__law_take : HasY P w K mg base "_law_take" 1 P__law_take fy__law_take pre__law_take) : HasY P w K mg base "_law_plan" 3 P__law_plan fy__law_plan pre__law_plan :=
  hasY_of (k := 2) T sc__law_plan (good__law_plan (w := w)) fun cdv A outer s H E f hr =>
  (pss_cons (ps_set (i := 1) sc__law_plan.nd rfl (Or.inl rfl) (pe_op op_addG pe_int (pe_ix ix_seq (pe_lst (pa_cons (pe_hasY h__law_take hr (pa_cons (pv 0) (pa_cons pe_int pa_nil))) (pa_cons pe_int (pa_cons pe_int pa_nil)))) (pe_hasY h__law_take hr (pa_cons (pv 0) (pa_cons pe_int pa_nil))) (fun _ _ => rfl)))) (pss_cons (ps_set (i := 2) sc__law_plan.nd rfl (Or.inl rfl) (pe_callTy call_tuple_of (by rfl) B.tuple_ boot_tuple (pa_cons (pe_lc (own := [("_law_k", 3)]) (g := (gName 3)) (tt := tYes) (te := (tHasY K fy__law_take pre__law_take (tCons (tVar 0) (tCons (tOp (rIx K) (tLst (tCons (tC (.int 1)) (tCons (tC (.int 3)) (tCons (tC (.int 10)) tNil)))) (tHasY K fy__law_take pre__law_take (tCons (tVar 0) (tCons (tC (.int 3)) tNil)))) tNil)))) rfl sc__law_plan.nd (pi_range1 (by rfl) B.range_ (pa_cons (pv 1) pa_nil)) (blkOk_by (N := N__law_plan) (sc := defScope s__law_plan) (by decide +kernel)) (fun _ _ _ _ _ => (pg_name (i := 3) sc__law_plan.nd rfl (Or.inl rfl))) (fun _ _ _ _ _ => pts_nil) (fun _ _ _ _ _ => (pe_hasY h__law_take hr (pa_cons (pv 0) (pa_cons (pe_ix ix_seq (pe_lst (pa_cons pe_int (pa_cons pe_int (pa_cons pe_int pa_nil)))) (pe_hasY h__law_take hr (pa_cons (pv 0) (pa_cons pe_int pa_nil))) (fun _ _ => rfl)) pa_nil))))) pa_nil))) (pss_cons (ps_set (i := 4) sc__law_plan.nd rfl (Or.inl rfl) (pe_lst pa_nil)) (pss_cons (ps_for PassesOwn.never rfl (pi_range2 (by rfl) B.range_ (pa_cons pe_int (pa_cons (pv 1) pa_nil))) (pg_name (i := 5) sc__law_plan.nd rfl (Or.inl rfl)) (pss_one (ps_if (pt_cmpR op_gt (pe_hasY h__law_take hr (pa_cons (pv 0) (pa_cons pe_int pa_nil))) pe_int (nomark _)) (pss_cons (ps_set (i := 6) sc__law_plan.nd rfl (Or.inl rfl) (pe_hasY h__law_road hr (pa_cons (pv 0) (pa_cons (pv 1) pa_nil)))) (pss_one (ps_expr (pe_bm PySem.F.plainAttrs_list PySem.F.slot_list_append PySem.F.type_list_append mt_append (pv 4) (pa_cons (pe_op op_addG (pe_tup (pa_cons (pe_hasY h__law_take hr (pa_cons (pv 0) (pa_cons (pv 5) pa_nil))) (pa_cons (pv 5) pa_nil))) (pe_slice sl_tupA (pv 6) (po_some pe_int) po_none)) pa_nil))))) pss_nil))) (pss_cons (ps_while PassesOwn.never (PW.pt (pw_and (pt_cmpR op_gt (pv 1) pe_int (nomark _)) (pw_and (pt_cmpR op_lt (pe_callB call_len_seq (by rfl) B.len_ boot_len (pa_cons (pv 4) pa_nil)) pe_int (nomark _)) (pw_and1 (pt_cmpR op_gt (pe_hasY h__law_take hr (pa_cons (pv 0) (pa_cons pe_int pa_nil))) pe_int (nomark _)))))) (pss_one (ps_expr (pe_bm PySem.F.plainAttrs_list PySem.F.slot_list_append PySem.F.type_list_append mt_append (pv 4) (pa_cons (pe_hasY h__law_road hr (pa_cons (pv 0) (pa_cons (pv 1) pa_nil))) pa_nil))))) (pss_one (ps_ret (pe_tup (pa_cons (pv 2) (pa_cons (pe_callTy call_tuple_of (by rfl) B.tuple_ boot_tuple (pa_cons (pv 4) pa_nil)) pa_nil))))))))))
theorem has__law_tree {P : Program} {w : World} {K : PySem.W.Frag} {mg : Str → Option Value} {base : Heap} (T : Top K mg "_law_tree" s__law_tree P__law_tree) (B : Bs mg)  (h__law_fars : Has P w K mg base "_law_fars" 2 P__law_fars fx__law_fars) (h__law_up : Has P w K mg base "_law_up" 1 P__law_up fx__law_up) : Has P w K mg base "_law_tree" 3 P__law_tree fx__law_tree :=
  has_of (k := 2) T sc__law_tree (good__law_tree (w := w)) fun cdv A outer s H E f hr =>
  (pss_cons (ps_asg (pe_tup (pa_cons (pe_has h__law_fars hr (pa_cons (pv 0) (pa_cons (pv 1) pa_nil))) (pa_cons (pe_ix ix_seq (pv 0) pe_int (fun _ _ => rfl)) pa_nil))) (pg_tup rfl (pgs_cons (pg_name (i := 2) sc__law_tree.nd rfl (Or.inr rfl)) (pgs_cons (pg_name (i := 3) sc__law_tree.nd rfl (Or.inr rfl)) pgs_nil)))) (pss_cons (ps_asg (pe_tup (pa_cons (pe_lst pa_nil) (pa_cons (pe_lst pa_nil) pa_nil))) (pg_tup rfl (pgs_cons (pg_name (i := 4) sc__law_tree.nd rfl (Or.inr rfl)) (pgs_cons (pg_name (i := 5) sc__law_tree.nd rfl (Or.inl rfl)) pgs_nil)))) (pss_cons (ps_for PassesOwn.never rfl (pi_range1 (by rfl) B.range_ (pa_cons (pe_callB call_len_seq (by rfl) B.len_ boot_len (pa_cons (pv 3) pa_nil)) pa_nil)) (pg_name (i := 6) sc__law_tree.nd rfl (Or.inr rfl)) (pss_cons (ps_setLc (i := 7) (own := [("_law_k", 8)]) (g := (gName 8)) (tt := (tTest (tOp (rI0 fun i j => .bl (decide (i < j))) (tOp (rIx K) (tOp (rIx K) (tVar 2) (tVar 6)) (tVar 8)) (tC (.int 999))))) (te := (tTup (tCons (tOp (rIx K) (tVar 3) (tVar 8)) (tCons (tVar 8) tNil)))) rfl sc__law_tree.nd rfl rfl (sw_true rfl rfl rfl (by decide +kernel)) (pi_range1 (by rfl) B.range_ (pa_cons (pe_callB call_len_seq (by rfl) B.len_ boot_len (pa_cons (pv 3) pa_nil)) pa_nil)) (blkOk_by (N := N__law_tree) (sc := defScope s__law_tree) (by decide +kernel)) (fun _ _ _ _ _ => (pg_name (i := 8) sc__law_tree.nd rfl (Or.inl rfl))) (fun _ _ _ _ _ => (pts_one (pt_cmpR op_lt (pe_ix ix_seq (pe_ix ix_seq (pv 2) (pv 6) (fun _ _ => rfl)) (pv 8) (fun _ _ => rfl)) pe_int (nomark _)))) (fun _ _ _ _ _ => (pe_tup (pa_cons (pe_ix ix_seq (pv 3) (pv 8) (fun _ _ => rfl)) (pa_cons (pv 8) pa_nil))))) (pss_cons (ps_par (i := 9) (j := 10) rfl sc__law_tree.nd rfl rfl (by decide) rfl rfl (pa_cons (pe_ix ix_seq (pe_callB (cr_minG rfl (hu100 hr)) (by rfl) B.min_ boot_min (pa_cons (pv 7) pa_nil)) pe_int (fun _ _ => rfl)) (pa_cons (pe_lst pa_nil) pa_nil)) (by rfl)) (pss_cons (ps_for PassesOwn.never rfl (pi_seq (pe_has h__law_up hr (pa_cons (pv 0) (pa_cons (pv 1) pa_nil)))) (pg_tup rfl (pgs_cons (pg_name (i := 11) sc__law_tree.nd rfl (Or.inl rfl)) (pgs_cons (pg_name (i := 12) sc__law_tree.nd rfl (Or.inl rfl)) (pgs_cons (pg_name (i := 13) sc__law_tree.nd rfl (Or.inl rfl)) (pgs_cons (pg_name (i := 14) sc__law_tree.nd rfl (Or.inl rfl)) pgs_nil))))) (pss_one (ps_if (pt_cmpR (op_inTD (hu100 hr)) (pv 6) (pe_tup (pa_cons (pv 12) (pa_cons (pv 13) pa_nil))) (by with_unfolding_all rfl)) (pss_cons (ps_set (i := 15) sc__law_tree.nd rfl (Or.inl rfl) (pe_op op_sub (pe_op op_addG (pv 12) (pv 13)) (pv 6))) (pss_one (ps_if (pt_cmpR (op_eqD (hu64 hr)) (pe_op op_addG (pe_ix ix_seq (pe_ix ix_seq (pv 2) (pv 15) (fun _ _ => rfl)) (pv 9) (fun _ _ => rfl)) (pv 14)) (pe_ix ix_seq (pe_ix ix_seq (pv 2) (pv 6) (fun _ _ => rfl)) (pv 9) (fun _ _ => rfl)) (nomark _)) (pss_one (ps_expr (pe_bm PySem.F.plainAttrs_list PySem.F.slot_list_append PySem.F.type_list_append mt_append (pv 10) (pa_cons (pe_tup (pa_cons (pe_tup (pa_cons (pe_ix ix_seq (pv 3) (pv 15) (fun _ _ => rfl)) (pa_cons (pv 15) pa_nil))) (pa_cons (pv 11) pa_nil))) pa_nil)))) pss_nil))) pss_nil))) (pss_cons (ps_expr (pe_bm PySem.F.plainAttrs_list PySem.F.slot_list_append PySem.F.type_list_append mt_append (pv 4) (pa_cons (pv 9) pa_nil))) (pss_one (ps_expr (pe_bm PySem.F.plainAttrs_list PySem.F.slot_list_append PySem.F.type_list_append mt_append (pv 5) (pa_cons (pe_ifExp (pt_cmpR (op_neD (hu64 hr)) (pv 9) (pv 6) (nomark _)) (pe_ix ix_seq (pe_callB (cr_minG rfl (hu100 hr)) (by rfl) B.min_ boot_min (pa_cons (pv 10) pa_nil)) pe_int (fun _ _ => rfl)) pe_non) pa_nil))))))))) (pss_one (ps_ret (pe_tup (pa_cons (pv 4) (pa_cons (pe_lc (own := [("_law_k", 8)]) (g := (gName 8)) (tt := tYes) (te := (tOp (rIx K) (tOp (rIx K) (tVar 2) (tVar 8)) (tOp (rIx K) (tVar 4) (tVar 8)))) rfl sc__law_tree.nd (pi_range1 (by rfl) B.range_ (pa_cons (pe_callB call_len_seq (by rfl) B.len_ boot_len (pa_cons (pv 3) pa_nil)) pa_nil)) (blkOk_by (N := N__law_tree) (sc := defScope s__law_tree) (by decide +kernel)) (fun _ _ _ _ _ => (pg_name (i := 8) sc__law_tree.nd rfl (Or.inl rfl))) (fun _ _ _ _ _ => pts_nil) (fun _ _ _ _ _ => (pe_ix ix_seq (pe_ix ix_seq (pv 2) (pv 8) (fun _ _ => rfl)) (pe_ix ix_seq (pv 4) (pv 8) (fun _ _ => rfl)) (fun _ _ => rfl)))) (pa_cons (pv 5) pa_nil)))))))))
theorem has__is_road {P : Program} {w : World} {K : PySem.W.Frag} {mg : Str → Option Value} {base : Heap} (T : Top K mg "_is_road" s__is_road P__is_road)  {u_LAST_COST : Tok} (c_LAST_COST : mg "LAST_COST" = some (.int 9 u_LAST_COST)) {u_MOST_MEMBERS : Tok} (c_MOST_MEMBERS : mg "MOST_MEMBERS" = some (.int 3 u_MOST_MEMBERS)) (h__are_lans : Has P w K mg base "_are_lans" 3 P__are_lans fx__are_lans) (h_is_number : Has P w K mg base "is_number" 1 P_is_number fx_is_number) (h_is_tuple : Has P w K mg base "is_tuple" 1 P_is_tuple fx_is_tuple) : Has P w K mg base "_is_road" 4 P__is_road fx__is_road :=
  has_of (k := 3) T sc__is_road (good__is_road (w := w)) fun cdv A outer s H E f hr =>
  (pss_cons (ps_if (pt_not (pt_tru (pe_has h_is_tuple hr (pa_cons (pv 0) (pa_cons pe_int pa_nil))))) (pss_one (ps_ret pe_bl)) pss_nil) (pss_cons (ps_asg (pv 0) (pg_tup rfl (pgs_cons (pg_name (i := 2) sc__is_road.nd rfl (Or.inl rfl)) (pgs_cons (pg_name (i := 3) sc__is_road.nd rfl (Or.inl rfl)) (pgs_cons (pg_name (i := 4) sc__is_road.nd rfl (Or.inl rfl)) (pgs_cons (pg_name (i := 5) sc__is_road.nd rfl (Or.inl rfl)) (pgs_cons (pg_name (i := 6) sc__is_road.nd rfl (Or.inl rfl)) pgs_nil))))))) (pss_cons (ps_if (PW.pt (pw_or (pt_not (pt_tru (pe_has h_is_number hr (pa_cons (pv 3) (pa_cons pe_int (pa_cons (pe_op op_sub (pv 1) pe_int) pa_nil)))))) (pw_or1 (pt_not (pt_tru (pe_has h_is_number hr (pa_cons (pv 2) (pa_cons pe_int (pa_cons (pe_op op_sub (pv 3) pe_int) pa_nil))))))))) (pss_one (ps_ret pe_bl)) pss_nil) (pss_one (ps_ret (pe_and (pe_has h_is_number hr (pa_cons (pv 4) (pa_cons pe_int (pa_cons (pe_glob (by rfl) c_LAST_COST ⟨_, rfl⟩) pa_nil)))) (pe_and (pe_has h_is_number hr (pa_cons (pv 5) (pa_cons pe_int (pa_cons (pe_glob (by rfl) c_MOST_MEMBERS ⟨_, rfl⟩) pa_nil)))) (pe_one (pe_has h__are_lans hr (pa_cons (pv 6) pa_nil))))))))))
theorem has_check_down {P : Program} {w : World} {K : PySem.W.Frag} {mg : Str → Option Value} {base : Heap} (T : Top K mg "check_down" s_check_down P_check_down) (B : Bs mg)  (h_check_member : Has P w K mg base "check_member" 3 P_check_member fx_check_member) (h_is_tuple : Has P w K mg base "is_tuple" 1 P_is_tuple fx_is_tuple) : Has P w K mg base "check_down" 4 P_check_down fx_check_down :=
  has_of (k := 3) T sc_check_down (good_check_down (w := w)) fun cdv A outer s H E f hr =>
  (pss_cons (ps_if (pt_not (pt_tru (pe_callB call_isi (by rfl) B.isinstance_ boot_isinstance (pa_cons (pv 1) (pa_cons (pe_bltn (by rfl) B.tuple_ boot_tuple rfl) pa_nil))))) (pss_one ps_never) pss_nil) (pss_one (ps_for PassesOwn.never rfl (pi_seq (pv 1)) (pg_name (i := 2) sc_check_down.nd rfl (Or.inl rfl)) (pss_cons (ps_if (pt_not (pt_tru (pe_has h_is_tuple hr (pa_cons (pv 2) (pa_cons pe_int pa_nil))))) (pss_one ps_never) pss_nil) (pss_cons (ps_asg (pv 2) (pg_tup rfl (pgs_cons (pg_name (i := 3) sc_check_down.nd rfl (Or.inl rfl)) (pgs_cons (pg_name (i := 4) sc_check_down.nd rfl (Or.inl rfl)) pgs_nil)))) (pss_one (ps_expr (pe_has h_check_member hr (pa_cons (pv 0) (pa_cons (pv 3) (pa_cons (pv 4) pa_nil)))))))))))
theorem has__check_roads {P : Program} {w : World} {K : PySem.W.Frag} {mg : Str → Option Value} {base : Heap} (T : Top K mg "_check_roads" s__check_roads P__check_roads) (B : Bs mg) {u_MOST_ROADS : Tok} (c_MOST_ROADS : mg "MOST_ROADS" = some (.int 8 u_MOST_ROADS)) (h__is_road : Has P w K mg base "_is_road" 4 P__is_road fx__is_road) : Has P w K mg base "_check_roads" 5 P__check_roads fx__check_roads :=
  has_of (k := 4) T sc__check_roads (good__check_roads (w := w)) fun cdv A outer s H E f hr =>
  (pss_cons (ps_if (pt_not (pt_tru (pe_callB call_isi (by rfl) B.isinstance_ boot_isinstance (pa_cons (pv 0) (pa_cons (pe_bltn (by rfl) B.tuple_ boot_tuple rfl) pa_nil))))) (pss_one ps_never) pss_nil) (pss_one (ps_for PassesOwn.never rfl (pi_enumT (by rfl) B.enumerate_ (pa_cons (pv 0) pa_nil)) (pg_tup rfl (pgs_cons (pg_name (i := 2) sc__check_roads.nd rfl (Or.inl rfl)) (pgs_cons (pg_name (i := 3) sc__check_roads.nd rfl (Or.inl rfl)) pgs_nil))) (pss_one (ps_if (PW.pt (pw_or (pt_cmpR (op_eqD (hu64 hr)) (pv 2) (pe_glob (by rfl) c_MOST_ROADS ⟨_, rfl⟩) (nomark _)) (pw_or1 (pt_not (pt_tru (pe_has h__is_road hr (pa_cons (pv 3) (pa_cons (pv 1) pa_nil)))))))) (pss_one ps_never) pss_nil)))))
theorem has_check_plan {P : Program} {w : World} {K : PySem.W.Frag} {mg : Str → Option Value} {base : Heap} (T : Top K mg "check_plan" s_check_plan P_check_plan) (B : Bs mg)  (h__check_ranks : Has P w K mg base "_check_ranks" 2 P__check_ranks fx__check_ranks) (h__check_roads : Has P w K mg base "_check_roads" 5 P__check_roads fx__check_roads) (h_is_tuple : Has P w K mg base "is_tuple" 1 P_is_tuple fx_is_tuple) : Has P w K mg base "check_plan" 6 P_check_plan fx_check_plan :=
  has_of (k := 5) T sc_check_plan (good_check_plan (w := w)) fun cdv A outer s H E f hr =>
  (pss_cons (ps_if (pt_not (pt_tru (pe_has h_is_tuple hr (pa_cons (pv 0) (pa_cons pe_int pa_nil))))) (pss_one ps_never) pss_nil) (pss_cons (ps_asg (pv 0) (pg_tup rfl (pgs_cons (pg_name (i := 1) sc_check_plan.nd rfl (Or.inl rfl)) (pgs_cons (pg_name (i := 2) sc_check_plan.nd rfl (Or.inl rfl)) pgs_nil)))) (pss_cons (ps_expr (pe_has h__check_ranks hr (pa_cons (pv 1) pa_nil))) (pss_one (ps_expr (pe_has h__check_roads hr (pa_cons (pv 2) (pa_cons (pe_callB call_len_seq (by rfl) B.len_ boot_len (pa_cons (pv 1) pa_nil)) pa_nil))))))))
theorem has_tree {P : Program} {w : World} {K : PySem.W.Frag} {mg : Str → Option Value} {base : Heap} {dvs : List V} (T : TopK K mg "tree" s_tree P_tree ["down"] dvs) (B : Bs mg)  (h__nearest : Has P w K mg base "_nearest" 2 P__nearest fx__nearest) (h__way : Has P w K mg base "_way" 2 P__way fx__way) (h_check_down : Has P w K mg base "check_down" 4 P_check_down fx_check_down) (h_check_plan : Has P w K mg base "check_plan" 6 P_check_plan fx_check_plan) (h_roads_up : Has P w K mg base "roads_up" 2 P_roads_up fx_roads_up) : HasK P w K mg base "tree" 7 P_tree ["down"] dvs fx_tree :=
  hasK_of (k := 6) T sc_tree (good_tree (w := w)) fun cdv A outer s H E f hr =>
  (pss_cons (ps_expr (pe_has h_check_plan hr (pa_cons (pv 0) pa_nil))) (pss_cons (ps_expr (pe_has h_check_down hr (pa_cons (pv 0) (pa_cons (pv 1) pa_nil)))) (pss_cons (ps_set (i := 2) sc_tree.nd rfl (Or.inr rfl) (pe_has h_roads_up hr (pa_cons (pv 0) (pa_cons (pv 1) pa_nil)))) (pss_cons (ps_set (i := 3) sc_tree.nd rfl (Or.inl rfl) (pe_has h__nearest hr (pa_cons (pv 0) (pa_cons (pv 2) pa_nil)))) (pss_cons (ps_setLc (i := 4) (own := [("root", 5), ("far", 6)]) (g := (gTup K 2 (gCons (gName 5) (gCons (gName 6) gNil)))) (tt := tYes) (te := (tOp (rIx K) (tVar 5) (tC (.int 1)))) rfl sc_tree.nd rfl rfl (sw_true rfl rfl rfl (by decide +kernel)) (pi_seq (pv 3)) (blkOk_by (N := N_tree) (sc := defScope s_tree) (by decide +kernel)) (fun _ _ _ _ _ => (pg_tup rfl (pgs_cons (pg_name (i := 5) sc_tree.nd rfl (Or.inl rfl)) (pgs_cons (pg_name (i := 6) sc_tree.nd rfl (Or.inl rfl)) pgs_nil)))) (fun _ _ _ _ _ => pts_nil) (fun _ _ _ _ _ => (pe_ix ix_seq (pv 5) pe_int (fun _ _ => rfl)))) (pss_cons (ps_set (i := 7) sc_tree.nd rfl (Or.inr rfl) (pe_lc (own := [("root", 5), ("far", 6)]) (g := (gTup K 2 (gCons (gName 5) (gCons (gName 6) gNil)))) (tt := tYes) (te := (tVar 6)) rfl sc_tree.nd (pi_seq (pv 3)) (blkOk_by (N := N_tree) (sc := defScope s_tree) (by decide +kernel)) (fun _ _ _ _ _ => (pg_tup rfl (pgs_cons (pg_name (i := 5) sc_tree.nd rfl (Or.inl rfl)) (pgs_cons (pg_name (i := 6) sc_tree.nd rfl (Or.inl rfl)) pgs_nil)))) (fun _ _ _ _ _ => pts_nil) (fun _ _ _ _ _ => (pv 6)))) (pss_cons (ps_setLc (i := 8) (own := [("bridge", 9)]) (g := (gName 9)) (tt := tYes) (te := (tHas K fx__way (tCons (tVar 0) (tCons (tVar 2) (tCons (tVar 7) (tCons (tVar 9) tNil)))))) rfl sc_tree.nd rfl rfl (sw_true rfl rfl rfl (by decide +kernel)) (pi_range1 (by rfl) B.range_ (pa_cons (pe_callB call_len_seq (by rfl) B.len_ boot_len (pa_cons (pv 7) pa_nil)) pa_nil)) (blkOk_by (N := N_tree) (sc := defScope s_tree) (by decide +kernel)) (fun _ _ _ _ _ => (pg_name (i := 9) sc_tree.nd rfl (Or.inl rfl))) (fun _ _ _ _ _ => pts_nil) (fun _ _ _ _ _ => (pe_has h__way hr (pa_cons (pv 0) (pa_cons (pv 2) (pa_cons (pv 7) (pa_cons (pv 9) pa_nil))))))) (pss_one (ps_ret (pe_tup (pa_cons (pv 4) (pa_cons (pv 7) (pa_cons (pv 8) pa_nil)))))))))))))
theorem law_fn {P : Program} {w : World} {K : PySem.W.Frag} {mg : Str → Option Value} {base : Heap} {f : Addr} {fd : FuncData} (F : Fun K "law" "law" s_law f fd) (B : Bs mg)  (h__law_alike : Has P w K mg base "_law_alike" 3 P__law_alike (fxA 3)) (h__law_begun : HasY P w K mg base "_law_begun" 1 P__law_begun fy__law_begun pre__law_begun) (h__law_down : HasY P w K mg base "_law_down" 2 P__law_down fy__law_down pre__law_down) (h__law_plan : HasY P w K mg base "_law_plan" 3 P__law_plan fy__law_plan pre__law_plan) (h__law_take : HasY P w K mg base "_law_take" 1 P__law_take fy__law_take pre__law_take) (h__law_tree : Has P w K mg base "_law_tree" 3 P__law_tree fx__law_tree) {dv_tree : List V} (h_tree : HasK P w K mg base "tree" 7 P_tree ["down"] dv_tree fx_tree) (hdv : ∀ G ps, VRs K G ps dv_tree [.d (.tuple [])]) : FnOk P w K mg base CX0 8 f fd P_law (spY K fy_law pre_law) :=
  have g := good_law (K := K) (w := w) (fun p d ok _ => tree_eq ok) hdv
  fn_y (k := 7) F sc_law (fun _ _ q => g.len q) (fun _ _ _ _ q => g.grow q) fun cdv A outer s H E hr => ⟨t_law K w (fxA 3) dv_tree,
  (pss_cons (ps_set (i := 1) sc_law.nd rfl (Or.inl rfl) (pe_hasY h__law_begun hr (pa_cons (pv 0) pa_nil))) (pss_cons (ps_for PassesOwn.never rfl (pi_range1 (by rfl) B.range_ (pa_cons pe_int pa_nil)) (pg_name (i := 2) sc_law.nd rfl (Or.inl rfl)) (pss_cons (ps_set (i := 3) sc_law.nd rfl (Or.inl rfl) (pe_hasY h__law_plan hr (pa_cons (pv 1) pa_nil))) (pss_cons (ps_set (i := 4) sc_law.nd rfl (Or.inl rfl) (pe_hasY h__law_down hr (pa_cons (pv 1) (pa_cons (pv 3) (pa_cons (pe_ix ix_seq (pe_lst (pa_cons pe_int (pa_cons pe_int pa_nil))) (pe_hasY h__law_take hr (pa_cons (pv 1) (pa_cons pe_int pa_nil))) (fun _ _ => rfl)) pa_nil))))) (pss_one (ps_for PassesOwn.never rfl (pi_range1 (by rfl) B.range_ (pa_cons pe_int pa_nil)) (pg_name (i := 5) sc_law.nd rfl (Or.inl rfl)) (pss_cons (ps_set (i := 6) sc_law.nd rfl (Or.inl rfl) (pe_hasK h_tree hr (pa_cons (pv 3) pa_nil) (pk_cons (pv 4) pk_nil))) (pss_cons (ps_if (PW.pt (pw_or (pt_not (pt_tru (pe_has h__law_alike hr (pa_cons (pv 6) (pa_cons (pe_has h__law_tree hr (pa_cons (pv 3) (pa_cons (pv 4) pa_nil))) pa_nil))))) (pw_or1 (pt_not (pt_tru (pe_has h__law_alike hr (pa_cons (pe_hasD h_tree hr (pa_cons (pv 3) pa_nil)) (pa_cons (pe_has h__law_tree hr (pa_cons (pv 3) (pa_cons (pe_tup pa_nil) pa_nil))) pa_nil)))))))) (pss_one (ps_ret pe_bl)) pss_nil) (pss_one (ps_for PassesOwn.never rfl (pi_seq (pv 6)) (pg_name (i := 7) sc_law.nd rfl (Or.inl rfl)) (pss_one (ps_expr (pe_bm PySem.F.plainAttrs_list PySem.F.slot_list_append PySem.F.type_list_append mt_append (pv 7) (pa_cons pe_int pa_nil))))))))))))) (pss_one (ps_ret pe_bl)))), fun as κ q l1 _ => g.run q l1⟩
structure Tops (K : PySem.W.Frag) (mg : Str → Option Value) (dvs : List V) : Prop where
  B : Bs mg
  c_LAST_COST : ∃ u : Tok, mg "LAST_COST" = some (.int 9 u)
  c_LAST_LAN : ∃ u : Tok, mg "LAST_LAN" = some (.int 3 u)
  c_LAST_RANK : ∃ u : Tok, mg "LAST_RANK" = some (.int 9 u)
  c_MOST_BRIDGES : ∃ u : Tok, mg "MOST_BRIDGES" = some (.int 6 u)
  c_MOST_MEMBERS : ∃ u : Tok, mg "MOST_MEMBERS" = some (.int 3 u)
  c_MOST_ROADS : ∃ u : Tok, mg "MOST_ROADS" = some (.int 8 u)
  T_is_number : Top K mg "is_number" s_is_number P_is_number
  T_is_tuple : Top K mg "is_tuple" s_is_tuple P_is_tuple
  T_name_of : Top K mg "name_of" s_name_of P_name_of
  T_members_up : Top K mg "members_up" s_members_up P_members_up
  T_other_end : Top K mg "other_end" s_other_end P_other_end
  T__farther : Top K mg "_farther" s__farther P__farther
  T__law_begun : Top K mg "_law_begun" s__law_begun P__law_begun
  T__law_take : Top K mg "_law_take" s__law_take P__law_take
  T__law_up : Top K mg "_law_up" s__law_up P__law_up
  T__law_row : Top K mg "_law_row" s__law_row P__law_row
  T_is_lan : Top K mg "is_lan" s_is_lan P_is_lan
  T__check_ranks : Top K mg "_check_ranks" s__check_ranks P__check_ranks
  T_check_road : Top K mg "check_road" s_check_road P_check_road
  T_roads_up : Top K mg "roads_up" s_roads_up P_roads_up
  T__nearest : Top K mg "_nearest" s__nearest P__nearest
  T__way : Top K mg "_way" s__way P__way
  T__law_road : Top K mg "_law_road" s__law_road P__law_road
  T__law_down : Top K mg "_law_down" s__law_down P__law_down
  T__law_fars : Top K mg "_law_fars" s__law_fars P__law_fars
  T__are_lans : Top K mg "_are_lans" s__are_lans P__are_lans
  T_check_member : Top K mg "check_member" s_check_member P_check_member
  T__law_alike : Top K mg "_law_alike" s__law_alike P__law_alike
  T__law_plan : Top K mg "_law_plan" s__law_plan P__law_plan
  T__law_tree : Top K mg "_law_tree" s__law_tree P__law_tree
  T__is_road : Top K mg "_is_road" s__is_road P__is_road
  T_check_down : Top K mg "check_down" s_check_down P_check_down
  T__check_roads : Top K mg "_check_roads" s__check_roads P__check_roads
  T_check_plan : Top K mg "check_plan" s_check_plan P_check_plan
  T_tree : TopK K mg "tree" s_tree P_tree ["down"] dvs
theorem law_all {P : Program} {w : World} {K : PySem.W.Frag} {mg : Str → Option Value} {base : Heap} {dvs : List V} (S : Tops K mg dvs) {f : Addr} {fd : FuncData} (F : Fun K "law" "law" s_law f fd) (hdv : ∀ G ps, VRs K G ps dvs [.d (.tuple [])]) : FnOk P w K mg base CX0 8 f fd P_law (spY K fy_law pre_law) := by
  have B := S.B
  obtain ⟨u_LAST_COST, c_LAST_COST⟩ := S.c_LAST_COST
  obtain ⟨u_LAST_LAN, c_LAST_LAN⟩ := S.c_LAST_LAN
  obtain ⟨u_LAST_RANK, c_LAST_RANK⟩ := S.c_LAST_RANK
  obtain ⟨u_MOST_BRIDGES, c_MOST_BRIDGES⟩ := S.c_MOST_BRIDGES
  obtain ⟨u_MOST_MEMBERS, c_MOST_MEMBERS⟩ := S.c_MOST_MEMBERS
  obtain ⟨u_MOST_ROADS, c_MOST_ROADS⟩ := S.c_MOST_ROADS
  have h_is_number : Has P w K mg base "is_number" 1 P_is_number fx_is_number := has_is_number S.T_is_number B
  have h_is_tuple : Has P w K mg base "is_tuple" 1 P_is_tuple fx_is_tuple := has_is_tuple S.T_is_tuple B
  have h_name_of : Has P w K mg base "name_of" 1 P_name_of fx_name_of := has_name_of S.T_name_of 
  have h_members_up : Has P w K mg base "members_up" 1 P_members_up fx_members_up := has_members_up S.T_members_up B
  have h_other_end : Has P w K mg base "other_end" 1 P_other_end fx_other_end := has_other_end S.T_other_end 
  have h__farther : Has P w K mg base "_farther" 1 P__farther fx__farther := has__farther S.T__farther 
  have h__law_begun : HasY P w K mg base "_law_begun" 1 P__law_begun fy__law_begun pre__law_begun := has__law_begun S.T__law_begun B
  have h__law_take : HasY P w K mg base "_law_take" 1 P__law_take fy__law_take pre__law_take := has__law_take S.T__law_take 
  have h__law_up : Has P w K mg base "_law_up" 1 P__law_up fx__law_up := has__law_up S.T__law_up B
  have h__law_row : Has P w K mg base "_law_row" 1 P__law_row fx__law_row := has__law_row S.T__law_row B
  have h_is_lan : Has P w K mg base "is_lan" 2 P_is_lan fx_is_lan := has_is_lan S.T_is_lan c_LAST_LAN h_is_number
  have h__check_ranks : Has P w K mg base "_check_ranks" 2 P__check_ranks fx__check_ranks := has__check_ranks S.T__check_ranks B c_LAST_RANK c_MOST_BRIDGES h_is_number
  have h_check_road : Has P w K mg base "check_road" 2 P_check_road fx_check_road := has_check_road S.T_check_road B h_is_number
  have h_roads_up : Has P w K mg base "roads_up" 2 P_roads_up fx_roads_up := has_roads_up S.T_roads_up B h_members_up
  have h__nearest : Has P w K mg base "_nearest" 2 P__nearest fx__nearest := has__nearest S.T__nearest B h__farther h_name_of
  have h__way : Has P w K mg base "_way" 2 P__way fx__way := has__way S.T__way B h_name_of h_other_end
  have h__law_road : HasY P w K mg base "_law_road" 2 P__law_road fy__law_road pre__law_road := has__law_road S.T__law_road B h__law_take
  have h__law_down : HasY P w K mg base "_law_down" 2 P__law_down fy__law_down pre__law_down := has__law_down S.T__law_down B h__law_take
  have h__law_fars : Has P w K mg base "_law_fars" 2 P__law_fars fx__law_fars := has__law_fars S.T__law_fars B h__law_row h__law_up
  have h__are_lans : Has P w K mg base "_are_lans" 3 P__are_lans fx__are_lans := has__are_lans S.T__are_lans B h_is_lan
  have h_check_member : Has P w K mg base "check_member" 3 P_check_member fx_check_member := has_check_member S.T_check_member h_check_road h_is_number
  have h__law_alike : Has P w K mg base "_law_alike" 3 P__law_alike (fxA 3) := has__law_alike S.T__law_alike B
  have h__law_plan : HasY P w K mg base "_law_plan" 3 P__law_plan fy__law_plan pre__law_plan := has__law_plan S.T__law_plan B h__law_road h__law_take
  have h__law_tree : Has P w K mg base "_law_tree" 3 P__law_tree fx__law_tree := has__law_tree S.T__law_tree B h__law_fars h__law_up
  have h__is_road : Has P w K mg base "_is_road" 4 P__is_road fx__is_road := has__is_road S.T__is_road c_LAST_COST c_MOST_MEMBERS h__are_lans h_is_number h_is_tuple
  have h_check_down : Has P w K mg base "check_down" 4 P_check_down fx_check_down := has_check_down S.T_check_down B h_check_member h_is_tuple
  have h__check_roads : Has P w K mg base "_check_roads" 5 P__check_roads fx__check_roads := has__check_roads S.T__check_roads B c_MOST_ROADS h__is_road
  have h_check_plan : Has P w K mg base "check_plan" 6 P_check_plan fx_check_plan := has_check_plan S.T_check_plan B h__check_ranks h__check_roads h_is_tuple
  have h_tree : HasK P w K mg base "tree" 7 P_tree ["down"] dvs fx_tree := has_tree S.T_tree B h__nearest h__way h_check_down h_check_plan h_roads_up
  exact law_fn F B h__law_alike h__law_begun h__law_down h__law_plan h__law_take h__law_tree h_tree hdv
theorem topK_tree {K : PySem.W.Frag} {h : Heap} {mg : Str → Option Value} {f D T : Addr} {oc : Value} {od an tod : Option Addr} {osl tsl : Array (Option Value)} {doc pm cdv ct : Value} {n : Nat} (X : K.In h) (G : h.Ns mainGlobals mg)
    (a : PySem.W.nsIn K mainGlobals "tree" = some (some (.ref f))) (l : K.lookup f = some ⟨oc, od, .func (PySem.W.fnOf "tree" "tree" (defArgs s_tree) (defBody s_tree) (defScope s_tree) .none (.ref D) doc pm an cdv ct), osl⟩) (c : PySem.W.codeIn K cdv "tree" = true) (k : PySem.W.keepIn K (.ref f) = true)
    (d : PySem.W.nsIn K D "down" = some (some (.ref T))) (t : K.lookup T = some ⟨.type "tuple", tod, .seq #[] n, tsl⟩) : ∃ dvs, TopK K mg "tree" s_tree P_tree ["down"] dvs ∧ ∀ G ps, VRs K G ps dvs [.d (.tuple [])] := by
  have FD : FunD K "tree" "tree" (defArgs s_tree) (defBody s_tree) (defScope s_tree) [] [("down", V.ref T)] f _ := ⟨⟨oc, od, .none, .ref D, doc, pm, an, cdv, ct, osl, rfl, l, c, .inl ⟨rfl, rfl⟩, .inr ⟨D, rfl, fun q hq => by
    rw [List.mem_singleton.mp hq]
    exact ⟨_, d, rfl⟩⟩⟩, k⟩
  refine ⟨[V.ref T], ⟨f, _, fun_mk l c k, PySem.W.mg_of X G a, ?_, ?_⟩, fun G ps => .cons (.d (.tup (.inr ⟨_, #[], n, t, rfl, rfl, by decide, .nil⟩) .nil)) .nil⟩
  · obtain ⟨mv, kb⟩ := FD.kbinds0 (ps := P_tree) 1 ["down"] [] (fun us _ ws => us ++ ws) (by simp) (by simp) (fun r1 _ r3 => r1.append r3) (fun D doc pm an cdv ct us mv ws h1 h2 h3 => match us, mv, ws, h1, h2, h3 with | [_], [], [_], _, _, _ => rfl)
    exact kb
  · exact FD.binds0 1 (by simp) rfl fun D doc pm an cdv ct us ks h1 h2 => match us, ks, h1, h2 with | [_], [_], _, _ => ⟨_, _, _, _, _, _, rfl, rfl, rfl⟩
theorem law_mk {l : PySem.W.OpenLaw} {w : World} {K : PySem.W.Frag} {h : Heap} {mg : Str → Option Value} {fa f : Addr} {oc : Value} {od an : Option Addr} {osl : Array (Option Value)} {kV doc pm cdv ct : Value} {dvs : List V} (X : K.In h) (G : h.Ns mainGlobals mg) (hfa : mg "law" = some (.ref fa)) (S : Tops K mg dvs) (hdv : ∀ G ps, VRs K G ps dvs [.d (.tuple [])])
    (a : PySem.W.nsIn K mainGlobals "law" = some (some (.ref f))) (lk : K.lookup f = some ⟨oc, od, .func (PySem.W.fnOf "law" "law" (defArgs s_law) (defBody s_law) (defScope s_law) .none kV doc pm an cdv ct), osl⟩) (c : PySem.W.codeIn K cdv "law" = true) (k : PySem.W.keepIn K (.ref f) = true) :
    ∃ fd : FuncData, (∀ (s : Shared) (v : Value), BindsTo s fd ⟨[v], []⟩ [("_law_script", v)]) ∧ ∀ base : Heap, K.In base → base.Ns mainGlobals mg → FnOk l.prog w K mg base CX0 8 fa fd ["_law_script"] (spY K fy_law pre_law) := by
  have e := hfa.symm.trans (PySem.W.mg_of X G a)
  cases e
  exact ⟨_, fun s v => .of_eq rfl, fun base _ _ => law_all S (fun_mk lk c k) hdv⟩
theorem int_of {mg : Str → Option Value} {x : Str} {i : Int} {v : Value} (h : mg x = some v) (e : ∃ u : Tok, v = .int i u) : ∃ u : Tok, mg x = some (.int i u) := by
  obtain ⟨u, rfl⟩ := e
  exact ⟨u, h⟩
abbrev kof {K : PySem.W.Frag} {h : Heap} (_ : K.In h) : PySem.W.Frag := K
end BY
end

section
set_option Elab.async false
set_option linter.all false
set_option maxRecDepth 100000
open PySem PySem.W PyProof.Rows
set_option maxHeartbeats 0 in
theorem PySem.Challenge.cw_bridgeyard_k03_plain_trees_holds : PySem.Challenge.rw_bridgeyard_k03_plain_trees.Holds := by
  w_on; o_law; k_head; (case hw => w_witness2)
  k_fill
  refine L2.walk_of (l := PySem.Challenge.rw_bridgeyard_k03_plain_trees) (n := 63) (k := 8) (x := "_law_script") (CX := fun _ => L2.CX0) (sp := fun w => BY.spY _ BY.fy_law BY.pre_law) rfl (by decide) rfl ⟨rfl, by decide, by decide⟩ (fun w h Y => PySem.W.kIn_of Y) ?F (fun _ _ a ns hl _ hS => BY.sp_law hS hl) (fun _ _ _ _ _ h => h)
  case F =>
    intro w mg fa h KX G hmg
    have hB : BY.Bs mg := by
      refine' ⟨PySem.W.mg_none_of KX G ?z_isinstance, PySem.W.mg_none_of KX G ?z_len, PySem.W.mg_none_of KX G ?z_any, PySem.W.mg_none_of KX G ?z_all, PySem.W.mg_none_of KX G ?z_min, PySem.W.mg_none_of KX G ?z_sorted, PySem.W.mg_none_of KX G ?z_set, PySem.W.mg_none_of KX G ?z_list, PySem.W.mg_none_of KX G ?z_tuple, PySem.W.mg_none_of KX G ?z_int, PySem.W.mg_none_of KX G ?z_bool, PySem.W.mg_none_of KX G ?z_str, PySem.W.mg_none_of KX G ?z_range, PySem.W.mg_none_of KX G ?z_enumerate⟩
      (case z_isinstance => k_is)
      (case z_len => k_is)
      (case z_any => k_is)
      (case z_all => k_is)
      (case z_min => k_is)
      (case z_sorted => k_is)
      (case z_set => k_is)
      (case z_list => k_is)
      (case z_tuple => k_is)
      (case z_int => k_is)
      (case z_bool => k_is)
      (case z_str => k_is)
      (case z_range => k_is)
      (case z_enumerate => k_is)
    have c_LAST_COST : ∃ u : Tok, mg "LAST_COST" = some (.int 9 u) := by
      refine' BY.int_of (PySem.W.mg_of KX G ?a_LAST_COST) ?e_LAST_COST
      (case a_LAST_COST => k_is)
      (case e_LAST_COST => exact ⟨_, rfl⟩)
    have c_LAST_LAN : ∃ u : Tok, mg "LAST_LAN" = some (.int 3 u) := by
      refine' BY.int_of (PySem.W.mg_of KX G ?a_LAST_LAN) ?e_LAST_LAN
      (case a_LAST_LAN => k_is)
      (case e_LAST_LAN => exact ⟨_, rfl⟩)
    have c_LAST_RANK : ∃ u : Tok, mg "LAST_RANK" = some (.int 9 u) := by
      refine' BY.int_of (PySem.W.mg_of KX G ?a_LAST_RANK) ?e_LAST_RANK
      (case a_LAST_RANK => k_is)
      (case e_LAST_RANK => exact ⟨_, rfl⟩)
    have c_MOST_BRIDGES : ∃ u : Tok, mg "MOST_BRIDGES" = some (.int 6 u) := by
      refine' BY.int_of (PySem.W.mg_of KX G ?a_MOST_BRIDGES) ?e_MOST_BRIDGES
      (case a_MOST_BRIDGES => k_is)
      (case e_MOST_BRIDGES => exact ⟨_, rfl⟩)
    have c_MOST_MEMBERS : ∃ u : Tok, mg "MOST_MEMBERS" = some (.int 3 u) := by
      refine' BY.int_of (PySem.W.mg_of KX G ?a_MOST_MEMBERS) ?e_MOST_MEMBERS
      (case a_MOST_MEMBERS => k_is)
      (case e_MOST_MEMBERS => exact ⟨_, rfl⟩)
    have c_MOST_ROADS : ∃ u : Tok, mg "MOST_ROADS" = some (.int 8 u) := by
      refine' BY.int_of (PySem.W.mg_of KX G ?a_MOST_ROADS) ?e_MOST_ROADS
      (case a_MOST_ROADS => k_is)
      (case e_MOST_ROADS => exact ⟨_, rfl⟩)
    have' T_is_number := BY.top_mk (x := "is_number") (st := BY.s_is_number) (pars := BY.P_is_number) KX G ?a_is_number ?l_is_number ?c_is_number ?k_is_number (fun _ _ _ _ _ _ us hl => match us, hl with | [_, _, _], _ => rfl)
    (case a_is_number => k_is); (case l_is_number => k_is); (case c_is_number => k_is); (case k_is_number => k_is)
    have' T_is_tuple := BY.top_mk (x := "is_tuple") (st := BY.s_is_tuple) (pars := BY.P_is_tuple) KX G ?a_is_tuple ?l_is_tuple ?c_is_tuple ?k_is_tuple (fun _ _ _ _ _ _ us hl => match us, hl with | [_, _], _ => rfl)
    (case a_is_tuple => k_is); (case l_is_tuple => k_is); (case c_is_tuple => k_is); (case k_is_tuple => k_is)
    have' T_name_of := BY.top_mk (x := "name_of") (st := BY.s_name_of) (pars := BY.P_name_of) KX G ?a_name_of ?l_name_of ?c_name_of ?k_name_of (fun _ _ _ _ _ _ us hl => match us, hl with | [_, _], _ => rfl)
    (case a_name_of => k_is); (case l_name_of => k_is); (case c_name_of => k_is); (case k_name_of => k_is)
    have' T_members_up := BY.top_mk (x := "members_up") (st := BY.s_members_up) (pars := BY.P_members_up) KX G ?a_members_up ?l_members_up ?c_members_up ?k_members_up (fun _ _ _ _ _ _ us hl => match us, hl with | [_, _, _], _ => rfl)
    (case a_members_up => k_is); (case l_members_up => k_is); (case c_members_up => k_is); (case k_members_up => k_is)
    have' T_other_end := BY.top_mk (x := "other_end") (st := BY.s_other_end) (pars := BY.P_other_end) KX G ?a_other_end ?l_other_end ?c_other_end ?k_other_end (fun _ _ _ _ _ _ us hl => match us, hl with | [_, _], _ => rfl)
    (case a_other_end => k_is); (case l_other_end => k_is); (case c_other_end => k_is); (case k_other_end => k_is)
    have' T__farther := BY.top_mk (x := "_farther") (st := BY.s__farther) (pars := BY.P__farther) KX G ?a__farther ?l__farther ?c__farther ?k__farther (fun _ _ _ _ _ _ us hl => match us, hl with | [_, _], _ => rfl)
    (case a__farther => k_is); (case l__farther => k_is); (case c__farther => k_is); (case k__farther => k_is)
    have' T__law_begun := BY.top_mk (x := "_law_begun") (st := BY.s__law_begun) (pars := BY.P__law_begun) KX G ?a__law_begun ?l__law_begun ?c__law_begun ?k__law_begun (fun _ _ _ _ _ _ us hl => match us, hl with | [_], _ => rfl)
    (case a__law_begun => k_is); (case l__law_begun => k_is); (case c__law_begun => k_is); (case k__law_begun => k_is)
    have' T__law_take := BY.top_mk (x := "_law_take") (st := BY.s__law_take) (pars := BY.P__law_take) KX G ?a__law_take ?l__law_take ?c__law_take ?k__law_take (fun _ _ _ _ _ _ us hl => match us, hl with | [_, _], _ => rfl)
    (case a__law_take => k_is); (case l__law_take => k_is); (case c__law_take => k_is); (case k__law_take => k_is)
    have' T__law_up := BY.top_mk (x := "_law_up") (st := BY.s__law_up) (pars := BY.P__law_up) KX G ?a__law_up ?l__law_up ?c__law_up ?k__law_up (fun _ _ _ _ _ _ us hl => match us, hl with | [_, _], _ => rfl)
    (case a__law_up => k_is); (case l__law_up => k_is); (case c__law_up => k_is); (case k__law_up => k_is)
    have' T__law_row := BY.top_mk (x := "_law_row") (st := BY.s__law_row) (pars := BY.P__law_row) KX G ?a__law_row ?l__law_row ?c__law_row ?k__law_row (fun _ _ _ _ _ _ us hl => match us, hl with | [_, _], _ => rfl)
    (case a__law_row => k_is); (case l__law_row => k_is); (case c__law_row => k_is); (case k__law_row => k_is)
    have' T_is_lan := BY.top_mk (x := "is_lan") (st := BY.s_is_lan) (pars := BY.P_is_lan) KX G ?a_is_lan ?l_is_lan ?c_is_lan ?k_is_lan (fun _ _ _ _ _ _ us hl => match us, hl with | [_], _ => rfl)
    (case a_is_lan => k_is); (case l_is_lan => k_is); (case c_is_lan => k_is); (case k_is_lan => k_is)
    have' T__check_ranks := BY.top_mk (x := "_check_ranks") (st := BY.s__check_ranks) (pars := BY.P__check_ranks) KX G ?a__check_ranks ?l__check_ranks ?c__check_ranks ?k__check_ranks (fun _ _ _ _ _ _ us hl => match us, hl with | [_], _ => rfl)
    (case a__check_ranks => k_is); (case l__check_ranks => k_is); (case c__check_ranks => k_is); (case k__check_ranks => k_is)
    have' T_check_road := BY.top_mk (x := "check_road") (st := BY.s_check_road) (pars := BY.P_check_road) KX G ?a_check_road ?l_check_road ?c_check_road ?k_check_road (fun _ _ _ _ _ _ us hl => match us, hl with | [_, _], _ => rfl)
    (case a_check_road => k_is); (case l_check_road => k_is); (case c_check_road => k_is); (case k_check_road => k_is)
    have' T_roads_up := BY.top_mk (x := "roads_up") (st := BY.s_roads_up) (pars := BY.P_roads_up) KX G ?a_roads_up ?l_roads_up ?c_roads_up ?k_roads_up (fun _ _ _ _ _ _ us hl => match us, hl with | [_, _], _ => rfl)
    (case a_roads_up => k_is); (case l_roads_up => k_is); (case c_roads_up => k_is); (case k_roads_up => k_is)
    have' T__nearest := BY.top_mk (x := "_nearest") (st := BY.s__nearest) (pars := BY.P__nearest) KX G ?a__nearest ?l__nearest ?c__nearest ?k__nearest (fun _ _ _ _ _ _ us hl => match us, hl with | [_, _], _ => rfl)
    (case a__nearest => k_is); (case l__nearest => k_is); (case c__nearest => k_is); (case k__nearest => k_is)
    have' T__way := BY.top_mk (x := "_way") (st := BY.s__way) (pars := BY.P__way) KX G ?a__way ?l__way ?c__way ?k__way (fun _ _ _ _ _ _ us hl => match us, hl with | [_, _, _, _], _ => rfl)
    (case a__way => k_is); (case l__way => k_is); (case c__way => k_is); (case k__way => k_is)
    have' T__law_road := BY.top_mk (x := "_law_road") (st := BY.s__law_road) (pars := BY.P__law_road) KX G ?a__law_road ?l__law_road ?c__law_road ?k__law_road (fun _ _ _ _ _ _ us hl => match us, hl with | [_, _], _ => rfl)
    (case a__law_road => k_is); (case l__law_road => k_is); (case c__law_road => k_is); (case k__law_road => k_is)
    have' T__law_down := BY.top_mk (x := "_law_down") (st := BY.s__law_down) (pars := BY.P__law_down) KX G ?a__law_down ?l__law_down ?c__law_down ?k__law_down (fun _ _ _ _ _ _ us hl => match us, hl with | [_, _, _], _ => rfl)
    (case a__law_down => k_is); (case l__law_down => k_is); (case c__law_down => k_is); (case k__law_down => k_is)
    have' T__law_fars := BY.top_mk (x := "_law_fars") (st := BY.s__law_fars) (pars := BY.P__law_fars) KX G ?a__law_fars ?l__law_fars ?c__law_fars ?k__law_fars (fun _ _ _ _ _ _ us hl => match us, hl with | [_, _], _ => rfl)
    (case a__law_fars => k_is); (case l__law_fars => k_is); (case c__law_fars => k_is); (case k__law_fars => k_is)
    have' T__are_lans := BY.top_mk (x := "_are_lans") (st := BY.s__are_lans) (pars := BY.P__are_lans) KX G ?a__are_lans ?l__are_lans ?c__are_lans ?k__are_lans (fun _ _ _ _ _ _ us hl => match us, hl with | [_], _ => rfl)
    (case a__are_lans => k_is); (case l__are_lans => k_is); (case c__are_lans => k_is); (case k__are_lans => k_is)
    have' T_check_member := BY.top_mk (x := "check_member") (st := BY.s_check_member) (pars := BY.P_check_member) KX G ?a_check_member ?l_check_member ?c_check_member ?k_check_member (fun _ _ _ _ _ _ us hl => match us, hl with | [_, _, _], _ => rfl)
    (case a_check_member => k_is); (case l_check_member => k_is); (case c_check_member => k_is); (case k_check_member => k_is)
    have' T__law_alike := BY.top_mk (x := "_law_alike") (st := BY.s__law_alike) (pars := BY.P__law_alike) KX G ?a__law_alike ?l__law_alike ?c__law_alike ?k__law_alike (fun _ _ _ _ _ _ us hl => match us, hl with | [_, _], _ => rfl)
    (case a__law_alike => k_is); (case l__law_alike => k_is); (case c__law_alike => k_is); (case k__law_alike => k_is)
    have' T__law_plan := BY.top_mk (x := "_law_plan") (st := BY.s__law_plan) (pars := BY.P__law_plan) KX G ?a__law_plan ?l__law_plan ?c__law_plan ?k__law_plan (fun _ _ _ _ _ _ us hl => match us, hl with | [_], _ => rfl)
    (case a__law_plan => k_is); (case l__law_plan => k_is); (case c__law_plan => k_is); (case k__law_plan => k_is)
    have' T__law_tree := BY.top_mk (x := "_law_tree") (st := BY.s__law_tree) (pars := BY.P__law_tree) KX G ?a__law_tree ?l__law_tree ?c__law_tree ?k__law_tree (fun _ _ _ _ _ _ us hl => match us, hl with | [_, _], _ => rfl)
    (case a__law_tree => k_is); (case l__law_tree => k_is); (case c__law_tree => k_is); (case k__law_tree => k_is)
    have' T__is_road := BY.top_mk (x := "_is_road") (st := BY.s__is_road) (pars := BY.P__is_road) KX G ?a__is_road ?l__is_road ?c__is_road ?k__is_road (fun _ _ _ _ _ _ us hl => match us, hl with | [_, _], _ => rfl)
    (case a__is_road => k_is); (case l__is_road => k_is); (case c__is_road => k_is); (case k__is_road => k_is)
    have' T_check_down := BY.top_mk (x := "check_down") (st := BY.s_check_down) (pars := BY.P_check_down) KX G ?a_check_down ?l_check_down ?c_check_down ?k_check_down (fun _ _ _ _ _ _ us hl => match us, hl with | [_, _], _ => rfl)
    (case a_check_down => k_is); (case l_check_down => k_is); (case c_check_down => k_is); (case k_check_down => k_is)
    have' T__check_roads := BY.top_mk (x := "_check_roads") (st := BY.s__check_roads) (pars := BY.P__check_roads) KX G ?a__check_roads ?l__check_roads ?c__check_roads ?k__check_roads (fun _ _ _ _ _ _ us hl => match us, hl with | [_, _], _ => rfl)
    (case a__check_roads => k_is); (case l__check_roads => k_is); (case c__check_roads => k_is); (case k__check_roads => k_is)
    have' T_check_plan := BY.top_mk (x := "check_plan") (st := BY.s_check_plan) (pars := BY.P_check_plan) KX G ?a_check_plan ?l_check_plan ?c_check_plan ?k_check_plan (fun _ _ _ _ _ _ us hl => match us, hl with | [_], _ => rfl)
    (case a_check_plan => k_is); (case l_check_plan => k_is); (case c_check_plan => k_is); (case k_check_plan => k_is)
    have' TK := BY.topK_tree KX G ?ta ?tl ?tc ?tk ?td ?tt
    (case ta => k_is); (case tl => k_is); (case tc => k_is); (case tk => k_is); (case td => k_is); (case tt => k_is)
    obtain ⟨dvs, T_tree, hdv⟩ := TK
    refine' BY.law_mk KX G hmg ⟨hB, c_LAST_COST, c_LAST_LAN, c_LAST_RANK, c_MOST_BRIDGES, c_MOST_MEMBERS, c_MOST_ROADS, T_is_number, T_is_tuple, T_name_of, T_members_up, T_other_end, T__farther, T__law_begun, T__law_take, T__law_up, T__law_row, T_is_lan, T__check_ranks, T_check_road, T_roads_up, T__nearest, T__way, T__law_road, T__law_down, T__law_fars, T__are_lans, T_check_member, T__law_alike, T__law_plan, T__law_tree, T__is_road, T_check_down, T__check_roads, T_check_plan, T_tree⟩ hdv ?a ?l ?c ?k
    (case a => k_is); (case l => k_is); (case c => k_is); (case k => k_is)
end
