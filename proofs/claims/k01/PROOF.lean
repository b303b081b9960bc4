import PyProof.Rows.All
import Wide.All
import OpenK.AllK
import Wide.FinOn
import HandS.ForMost
import HandS.Wide
import HandS.SortKw
import KE.SortKeyHeap
import KE.SortData
import HandS.Dict
import HandS.TupAny
import HandS.Style
import HandS.IsInst
import PyProof.AutoSeq1
import HandS.Set
import HandS.SetFor
import HandS.Strs
import HandS.Text
import HandS.Zip
import PyProof.Rows.IntBool
import PyProof.CallStr
import PyProof.StrLawsIn
import PySem.Challenge.RW_strandpull_k01_bundles_and_loads_told
set_option Elab.async false
set_option linter.all false
set_option maxRecDepth 100000
set_option maxHeartbeats 8000000
/-! Sd: values as data. H the part of the heap that never changes any more, M the lists that may still change. -/
namespace Sd
open PySem L2

def Ex (H H' : Hp) : Prop := ∀ a o, H a = some o → H' a = some o
theorem Ex.refl (H : Hp) : Ex H H := fun _ _ h => h
theorem Ex.trans {H H1 H2 : Hp} (a : Ex H H1) (b : Ex H1 H2) : Ex H H2 := fun x o h => b x o (a x o h)
theorem Ex.new {H : Hp} {p : Addr} {o : HO} (h : H p = none) : Ex H (upd H p o) := fun a u e => by
  rw [upd_ne (ne_of_none e h)]
  exact e

mutual
inductive Dq (K : PySem.W.Frag) (H : Hp) : V → PyData → Prop
  | non : Dq K H .non .none
  | bl (b : Bool) : Dq K H (.bl b) (.bool b)
  | int (i : Int) : Dq K H (.int i) (.int i)
  | str (x : Str) : Dq K H (.str x) (.str x)
  | lst {a : Addr} {xs : List V} {ds : List PyData} : H a = some (.lst xs) → DqAll K H xs ds → Dq K H (.ref a) (.list ds)
  | tup {a : Addr} {xs : List V} {ds : List PyData} : SqT K H a xs → DqAll K H xs ds → Dq K H (.ref a) (.tuple ds)
inductive DqAll (K : PySem.W.Frag) (H : Hp) : List V → List PyData → Prop
  | nil : DqAll K H [] []
  | cons {v : V} {vs : List V} {d : PyData} {ds : List PyData} : Dq K H v d → DqAll K H vs ds → DqAll K H (v :: vs) (d :: ds)
end
theorem sqTx {K : PySem.W.Frag} {H H' : Hp} {a : Addr} {xs : List V} (e : Ex H H') (h : SqT K H a xs) : SqT K H' a xs := by
  rcases h with (h | ⟨o, h⟩) | h
  · exact .inl (.inl (e _ _ h))
  · exact .inl (.inr ⟨o, e _ _ h⟩)
  · exact .inr h
mutual
theorem Dq.mono {H H' : Hp} (e : Ex H H') : ∀ (d : PyData) (v : V), Dq K H v d → Dq K H' v d
  | .none, _, h => by cases h; exact .non
  | .bool b, _, h => by cases h; exact .bl _
  | .int i, _, h => by cases h; exact .int _
  | .str x, _, h => by cases h; exact .str _
  | .list ds, _, h => by
    cases h with
    | lst h1 h2 => exact .lst (e _ _ h1) (DqAll.mono e ds _ h2)
  | .tuple ds, _, h => by
    cases h with
    | tup h1 h2 => exact .tup (sqTx e h1) (DqAll.mono e ds _ h2)
  | .dict _, _, h => by cases h
theorem DqAll.mono {H H' : Hp} (e : Ex H H') : ∀ (ds : List PyData) (vs : List V), DqAll K H vs ds → DqAll K H' vs ds
  | [], _, h => by cases h; exact .nil
  | d :: ds, _, h => by
    cases h with
    | cons h1 h2 => exact .cons (Dq.mono e d _ h1) (DqAll.mono e ds _ h2)
end
mutual
theorem Dq.dp {K : PySem.W.Frag} {H : Hp} : ∀ (d : PyData) (v : V), Dq K H v d → Dp K H v d
  | .none, _, h => by cases h; exact .non
  | .bool b, _, h => by cases h; exact .bl _
  | .int i, _, h => by cases h; exact .int _
  | .str x, _, h => by cases h; exact .str _
  | .list ds, _, h => by
    cases h with
    | lst h1 h2 => exact .lst (SqL.of h1) (DqAll.dp ds _ h2)
  | .tuple ds, _, h => by
    cases h with
    | tup h1 h2 => exact .tup h1 (DqAll.dp ds _ h2)
  | .dict _, _, h => by cases h
theorem DqAll.dp {K : PySem.W.Frag} {H : Hp} : ∀ (ds : List PyData) (vs : List V), DqAll K H vs ds → DpAll K H vs ds
  | [], _, h => by cases h; exact .nil
  | d :: ds, _, h => by
    cases h with
    | cons h1 h2 => exact .cons (Dq.dp d _ h1) (DqAll.dp ds _ h2)
end
theorem DqAll.length {H : Hp} : ∀ {ds : List PyData} {vs : List V}, DqAll K H vs ds → vs.length = ds.length
  | [], _, h => by cases h; rfl
  | d :: ds, _, h => by
    cases h with
    | cons h1 h2 => rw [List.length_cons, List.length_cons, DqAll.length h2]
theorem DqAll.get {H : Hp} : ∀ {ds : List PyData} {vs : List V} {i : Nat} {v : V}, DqAll K H vs ds → vs[i]? = some v → ∃ d, ds[i]? = some d ∧ Dq K H v d
  | [], _, _, _, h, e => by cases h; simp at e
  | d :: ds, _, i, v, h, e => by
    cases h with
    | cons h1 h2 =>
      cases i with
      | zero => simp at e; subst e; exact ⟨d, rfl, h1⟩
      | succ i => simp at e; obtain ⟨d', q1, q2⟩ := DqAll.get h2 e; exact ⟨d', by simpa using q1, q2⟩
theorem DqAll.getR {H : Hp} : ∀ {ds : List PyData} {vs : List V} {i : Nat} {d : PyData}, DqAll K H vs ds → ds[i]? = some d → ∃ v, vs[i]? = some v ∧ Dq K H v d
  | [], _, _, _, h, e => by simp at e
  | d0 :: ds, _, i, d, h, e => by
    cases h with
    | cons h1 h2 =>
      cases i with
      | zero => simp at e; subst e; exact ⟨_, rfl, h1⟩
      | succ i => simp at e; obtain ⟨d', q1, q2⟩ := DqAll.getR h2 e; exact ⟨d', by simpa using q1, q2⟩
theorem DqAll.append {H : Hp} : ∀ {xs ys : List V} {ds es : List PyData}, DqAll K H xs ds → DqAll K H ys es → DqAll K H (xs ++ ys) (ds ++ es)
  | _, _, [], _, h, k => by cases h; exact k
  | _, _, d :: ds, _, h, k => by
    cases h with
    | cons h1 h2 => exact .cons h1 (DqAll.append h2 k)
theorem DqAll.take {H : Hp} : ∀ (n : Nat) {xs : List V} {ds : List PyData}, DqAll K H xs ds → DqAll K H (xs.take n) (ds.take n)
  | 0, _, _, _ => by simp only [List.take_zero]; exact .nil
  | n + 1, _, [], h => by cases h; exact .nil
  | n + 1, _, d :: ds, h => by
    cases h with
    | cons h1 h2 => exact .cons h1 (DqAll.take n h2)
theorem DqAll.drop {H : Hp} : ∀ (n : Nat) {xs : List V} {ds : List PyData}, DqAll K H xs ds → DqAll K H (xs.drop n) (ds.drop n)
  | 0, _, _, h => h
  | n + 1, _, [], h => by cases h; exact .nil
  | n + 1, _, d :: ds, h => by
    cases h with
    | cons h1 h2 => exact DqAll.drop n h2
theorem DqAll.set {H : Hp} {v : V} {d : PyData} (hv : Dq K H v d) : ∀ (n : Nat) {xs : List V} {ds : List PyData}, DqAll K H xs ds → DqAll K H (xs.set n v) (ds.set n d)
  | _, _, [], h => by cases h; exact .nil
  | 0, _, d :: ds, h => by
    cases h with
    | cons h1 h2 => exact .cons hv h2
  | n + 1, _, d :: ds, h => by
    cases h with
    | cons h1 h2 => exact .cons h1 (DqAll.set hv n h2)
theorem DqAll.ints {H : Hp} : ∀ {xs : List V} {ns : List Int}, DqAll K H xs (ns.map .int) → xs = ns.map V.int
  | _, [], h => by cases h; rfl
  | _, n :: ns, h => by
    cases h with
    | cons h1 h2 =>
      cases h1
      rw [DqAll.ints h2]; rfl
theorem DqAll.ofInts {H : Hp} : ∀ (ns : List Int), DqAll K H (ns.map V.int) (ns.map .int)
  | [] => .nil
  | n :: ns => .cons (.int n) (DqAll.ofInts ns)

/-- a value: data; a list that may change, by its address; the script, by its ints; a built-in class; a dict of texts that does not change -/
inductive SV where
  | d (x : PyData) | m (a : Addr) | l (ns : List Int) | t (n : String) | q (ps : List (Str × PyData))
abbrev Mem := Addr → Option (List PyData)
def mset (M : Mem) (a : Addr) (ds : List PyData) : Mem := fun b => if b = a then some ds else M b
theorem mset_same {M : Mem} {a : Addr} {ds : List PyData} : mset M a ds a = some ds := by unfold mset; rw [if_pos rfl]
theorem mset_ne {M : Mem} {a b : Addr} {ds : List PyData} (h : b ≠ a) : mset M a ds b = M b := by unfold mset; rw [if_neg h]
theorem mset_mset {M : Mem} {a : Addr} {ds es : List PyData} : mset (mset M a ds) a es = mset M a es := by
  funext b; unfold mset; split <;> rfl

def SVOk (K : PySem.W.Frag) (H : Hp) (v : V) : SV → Prop
  | .d x => Dq K H v x
  | .m a => v = .ref a
  | .l ns => ∃ a, v = .ref a ∧ SqL K H a (ns.map V.int)
  | .t n => v = .ty n
  | .q ps => ∃ a vs, v = .ref a ∧ H a = some (.dK ((ps.map fun p => (Sum.inr p.1 : Key)).zip vs)) ∧ DqAll K H vs (ps.map Prod.snd)
structure WOk (K : PySem.W.Frag) (H : Hp) (M : Mem) (H1 : Hp) : Prop where
  ex : Ex H H1
  cell : ∀ a ds, M a = some ds → H a = none ∧ ∃ vs, H1 a = some (.lst vs) ∧ DqAll K H vs ds
structure Step (H H1 : Hp) (M : Mem) (H' H2 : Hp) (M' : Mem) : Prop where
  pure : Ex H H'
  keep : ∀ a o, H1 a = some o → M a = none → H2 a = some o
  new : ∀ a, H a = none → M a = none → H1 a ≠ none → H' a = none ∧ M' a = none
theorem Step.refl {H H1 : Hp} {M : Mem} : Step H H1 M H H1 M := ⟨Ex.refl _, fun _ _ h _ => h, fun _ h h' _ => ⟨h, h'⟩⟩
theorem Step.trans {H H1 H' H2 H'' H3 : Hp} {M M' M'' : Mem} (w : WOk K H M H1) (w' : WOk K H' M' H2) (a : Step H H1 M H' H2 M') (b : Step H' H2 M' H'' H3 M'') : Step H H1 M H'' H3 M'' := by
  refine ⟨a.pure.trans b.pure, fun x o hx hm => ?_, fun x hx hm hn => ?_⟩
  · have h2 := a.keep x o hx hm
    refine b.keep x o h2 ?_
    cases q : M' x with
    | none => rfl
    | some ds =>
      exfalso
      have hn := (w'.cell x ds q).1
      cases q2 : H x with
      | none =>
        have := (a.new x q2 hm (by rw [hx]; simp)).2
        rw [q] at this; cases this
      | some u =>
        rw [a.pure x u q2] at hn; cases hn
  · obtain ⟨h1, h2⟩ := a.new x hx hm hn
    refine b.new x h1 h2 ?_
    cases q : H1 x with
    | none => exact absurd q hn
    | some o => rw [a.keep x o q hm]; simp
theorem SVOk.mono {K : PySem.W.Frag} {H H' : Hp} {v : V} (e : Ex H H') : ∀ {r : SV}, SVOk K H v r → SVOk K H' v r
  | .d x, h => Dq.mono e x v h
  | .m a, h => h
  | .l ns, ⟨a, h1, h2⟩ => ⟨a, h1, Same.seq e h2⟩
  | .t n, h => h
  | .q ps, ⟨a, vs, h1, h2, h3⟩ => ⟨a, vs, h1, e _ _ h2, DqAll.mono e _ _ h3⟩

abbrev DSt := List (Option SV)
structure EnvOk (K : PySem.W.Frag) (H : Hp) (σ : St) (δ : DSt) : Prop where
  len : σ.length = δ.length
  at' : ∀ (i : Nat) (r : SV), δ[i]? = some (some r) → ∃ v, σ[i]? = some (some v) ∧ SVOk K H v r
theorem EnvOk.mono {K : PySem.W.Frag} {H H' : Hp} {σ : St} {δ : DSt} (e : Ex H H') (h : EnvOk K H σ δ) : EnvOk K H' σ δ := ⟨h.len, fun i r q => by
  obtain ⟨v, h1, h2⟩ := h.at' i r q
  exact ⟨v, h1, h2.mono e⟩⟩
theorem EnvOk.set {K : PySem.W.Frag} {H : Hp} {σ : St} {δ : DSt} {v : V} {r : SV} (h : EnvOk K H σ δ) (i : Nat) (hv : SVOk K H v r) : EnvOk K H (σ.set i (some v)) (δ.set i (some r)) := by
  refine ⟨by rw [List.length_set, List.length_set, h.len], fun j r' q => ?_⟩
  by_cases e : i = j
  · subst e
    have hl : i < δ.length := by
      have := (List.getElem?_eq_some_iff.mp q).1
      rwa [List.length_set] at this
    rw [List.getElem?_set_self hl] at q
    cases q
    exact ⟨v, by rw [List.getElem?_set_self (by rw [h.len]; exact hl)], hv⟩
  · rw [List.getElem?_set_ne e] at q ⊢
    exact h.at' j r' q
def wipeD (δ : DSt) : List Nat → DSt
  | [] => δ
  | v :: vs => (wipeD δ vs).set v none
theorem EnvOk.wipe {K : PySem.W.Frag} {H : Hp} {σ : St} {δ : DSt} (h : EnvOk K H σ δ) : ∀ vs : List Nat, EnvOk K H (wipe σ vs) (wipeD δ vs)
  | [] => h
  | v :: vs => by
    have ih := EnvOk.wipe h vs
    refine ⟨by unfold L2.wipe wipeD; rw [List.length_set, List.length_set, ih.len], fun j r q => ?_⟩
    unfold L2.wipe
    unfold wipeD at q
    by_cases e : v = j
    · subst e
      by_cases hl : v < (wipeD δ vs).length
      · rw [List.getElem?_set_self hl] at q; cases q
      · rw [List.getElem?_eq_none (by rw [List.length_set]; omega)] at q; cases q
    · rw [List.getElem?_set_ne e] at q ⊢
      exact ih.at' j r q

/-! ### readings over data -/
section
variable (K : PySem.W.Frag)
def dE (te : TE) (δ : DSt) (M : Mem) (P : SV → Mem → Prop) : Prop := ∀ (σ : St) (H H1 : Hp), EnvOk K H σ δ → WOk K H M H1 → ∀ Q : VK,
  (∀ v r H' M' H2, P r M' → Step H H1 M H' H2 M' → WOk K H' M' H2 → SVOk K H' v r → Q v H2) → te σ H1 Q
def dT (tt : TT) (δ : DSt) (M : Mem) (P : Bool → Mem → Prop) : Prop := ∀ (σ : St) (H H1 : Hp), EnvOk K H σ δ → WOk K H M H1 → ∀ Q : Bool → Hp → Prop,
  (∀ b H' M' H2, P b M' → Step H H1 M H' H2 M' → WOk K H' M' H2 → Q b H2) → tt σ H1 Q
inductive SVsOk (H : Hp) : List V → List SV → Prop
  | nil : SVsOk H [] []
  | cons {v : V} {vs : List V} {r : SV} {rs : List SV} : SVOk K H v r → SVsOk H vs rs → SVsOk H (v :: vs) (r :: rs)
def dA (ta : TA) (δ : DSt) (M : Mem) (P : List SV → Mem → Prop) : Prop := ∀ (σ : St) (H H1 : Hp), EnvOk K H σ δ → WOk K H M H1 → ∀ Q : List V → Hp → Prop,
  (∀ vs rs H' M' H2, P rs M' → Step H H1 M H' H2 M' → WOk K H' M' H2 → SVsOk K H' vs rs → Q vs H2) → ta σ H1 Q
def dO (to : TO) (δ : DSt) (M : Mem) (P : Option Int → Mem → Prop) : Prop := ∀ (σ : St) (H H1 : Hp), EnvOk K H σ δ → WOk K H M H1 → ∀ Q : Option Int → Hp → Prop,
  (∀ o H' M' H2, P o M' → Step H H1 M H' H2 M' → WOk K H' M' H2 → Q o H2) → to σ H1 Q
/-- an operation on two values; on a list of values -/
def dR (r : R2) (x y : SV) (M : Mem) (P : SV → Mem → Prop) : Prop := ∀ (v w : V) (H H1 : Hp), SVOk K H v x → SVOk K H w y → WOk K H M H1 → ∀ Q : VK,
  (∀ v r H' M' H2, P r M' → Step H H1 M H' H2 M' → WOk K H' M' H2 → SVOk K H' v r → Q v H2) → r v w H1 Q
def dU (r : V → Hp → VK → Prop) (x : SV) (M : Mem) (P : SV → Mem → Prop) : Prop := ∀ (v : V) (H H1 : Hp), SVOk K H v x → WOk K H M H1 → ∀ Q : VK,
  (∀ v r H' M' H2, P r M' → Step H H1 M H' H2 M' → WOk K H' M' H2 → SVOk K H' v r → Q v H2) → r v H1 Q
def dC (r : List V → Hp → VK → Prop) (xs : List SV) (M : Mem) (P : SV → Mem → Prop) : Prop := ∀ (vs : List V) (H H1 : Hp), SVsOk K H vs xs → WOk K H M H1 → ∀ Q : VK,
  (∀ v r H' M' H2, P r M' → Step H H1 M H' H2 M' → WOk K H' M' H2 → SVOk K H' v r → Q v H2) → r vs H1 Q
end
section
variable {K : PySem.W.Frag} {δ : DSt} {M : Mem} {P : SV → Mem → Prop} {PB : Bool → Mem → Prop} {PA : List SV → Mem → Prop}
theorem SVsOk.mono {H H' : Hp} (e : Ex H H') : ∀ {vs : List V} {rs : List SV}, SVsOk K H vs rs → SVsOk K H' vs rs
  | _, _, .nil => .nil
  | _, _, .cons h t => .cons (h.mono e) (SVsOk.mono e t)
theorem dE.mono {te : TE} {P' : SV → Mem → Prop} (h : dE K te δ M P) (k : ∀ r M', P r M' → P' r M') : dE K te δ M P' := fun σ H H1 e w Q q => h σ H H1 e w Q fun v r H' M' H2 p => q v r H' M' H2 (k r M' p)
theorem dT.mono {te : TT} {P' : Bool → Mem → Prop} (h : dT K te δ M PB) (k : ∀ r M', PB r M' → P' r M') : dT K te δ M P' := fun σ H H1 e w Q q => h σ H H1 e w Q fun v H' M' H2 p => q v H' M' H2 (k v M' p)

theorem dE_var {i : Nat} {r : SV} (h : δ[i]? = some (some r)) (p : P r M) : dE K (tVar i) δ M P := fun σ H H1 e w Q q => by
  obtain ⟨v, h1, h2⟩ := e.at' i r h
  exact ⟨v, h1, q v r H M H1 p Step.refl w h2⟩
theorem dE_int {i : Int} (p : P (.d (.int i)) M) : dE K (tC (.int i)) δ M P := fun σ H H1 e w Q q => q _ _ H M H1 p Step.refl w (.int i)
theorem dE_str {x : Str} (p : P (.d (.str x)) M) : dE K (tC (.str x)) δ M P := fun σ H H1 e w Q q => q _ _ H M H1 p Step.refl w (.str x)
theorem dE_bl {b : Bool} (p : P (.d (.bool b)) M) : dE K (tC (.bl b)) δ M P := fun σ H H1 e w Q q => q _ _ H M H1 p Step.refl w (.bl b)
theorem dE_non (p : P (.d .none) M) : dE K (tC .non) δ M P := fun σ H H1 e w Q q => q _ _ H M H1 p Step.refl w .non
theorem dE_op {r : R2} {ta tb : TE} (h : dE K ta δ M fun x M1 => dE K tb δ M1 fun y M2 => dR K r x y M2 P) : dE K (tOp r ta tb) δ M P := fun σ H H1 e w Q q =>
  h σ H H1 e w _ fun v x H' M' H2 hb s1 w1 vx => hb σ H' H2 (e.mono s1.pure) w1 _ fun u y H'' M'' H3 hr s2 w2 vy => hr v u H'' H3 (vx.mono s2.pure) vy w2 Q fun z r H3' M3 H4 p s3 w3 vz =>
    q z r H3' M3 H4 p ((s1.trans w w1 s2).trans w w2 s3) w3 vz
theorem dE_un {r : V → Hp → VK → Prop} {ta : TE} (h : dE K ta δ M fun x M1 => dU K r x M1 P) : dE K (tUn r ta) δ M P := fun σ H H1 e w Q q =>
  h σ H H1 e w _ fun v x H' M' H2 hb s1 w1 vx => hb v H' H2 vx w1 Q fun z r H3' M3 H4 p s3 w3 vz => q z r H3' M3 H4 p (s1.trans w w1 s3) w3 vz
theorem dA_nil (p : PA [] M) : dA K tNil δ M PA := fun σ H H1 e w Q q => q _ _ H M H1 p Step.refl w .nil
theorem dA_cons {ta : TE} {tr : TA} (h : dE K ta δ M fun x M1 => dA K tr δ M1 fun xs M2 => PA (x :: xs) M2) : dA K (tCons ta tr) δ M PA := fun σ H H1 e w Q q =>
  h σ H H1 e w _ fun v x H' M' H2 hb s1 w1 vx => hb σ H' H2 (e.mono s1.pure) w1 _ fun vs xs H'' M'' H3 p s2 w2 vxs => q _ _ H'' M'' H3 p (s1.trans w w1 s2) w2 (.cons (vx.mono s2.pure) vxs)
theorem dE_cb {r : List V → Hp → VK → Prop} {ta : TA} (h : dA K ta δ M fun xs M1 => dC K r xs M1 P) : dE K (tCB r ta) δ M P := fun σ H H1 e w Q q =>
  h σ H H1 e w _ fun vs xs H' M' H2 hc s1 w1 vxs => hc vs H' H2 vxs w1 Q fun z r H3' M3 H4 p s3 w3 vz => q z r H3' M3 H4 p (s1.trans w w1 s3) w3 vz
/-- what a new object brings -/
theorem laid_ok {H H1 : Hp} {p : Addr} {o : HO} (w : WOk K H M H1) (hp : H1 p = none) : WOk K (upd H p o) M (upd H1 p o) ∧ Step H H1 M (upd H p o) (upd H1 p o) M := by
  have hpH : H p = none := by
    cases q : H p with
    | none => rfl
    | some u => rw [w.ex p u q] at hp; cases hp
  have hpM : M p = none := by
    cases q : M p with
    | none => rfl
    | some ds => obtain ⟨_, vs, h2, _⟩ := w.cell p ds q; rw [h2] at hp; cases hp
  refine ⟨⟨fun a u h => ?_, fun a ds h => ?_⟩, ⟨Ex.new hpH, fun a u h _ => ?_, fun a h1 h2 h3 => ?_⟩⟩
  · by_cases e : a = p
    · subst e; rw [upd_same] at h ⊢; exact h
    · rw [upd_ne e] at h ⊢; exact w.ex a u h
  · obtain ⟨h1, vs, h2, h3⟩ := w.cell a ds h
    have e : a ≠ p := by rintro rfl; rw [h2] at hp; cases hp
    exact ⟨by rw [upd_ne e]; exact h1, vs, by rw [upd_ne e]; exact h2, h3.mono (Ex.new hpH)⟩
  · rw [upd_ne (ne_of_none h hp)]; exact h
  · have e : a ≠ p := by rintro rfl; exact h3 hp
    exact ⟨by rw [upd_ne e]; exact h1, h2⟩
/-- a new list that may still change -/
theorem laid_m {H H1 : Hp} {p : Addr} {vs : List V} {ds : List PyData} (w : WOk K H M H1) (hp : H1 p = none) (hd : DqAll K H vs ds) : M p = none ∧ WOk K H (mset M p ds) (upd H1 p (.lst vs)) ∧ Step H H1 M H (upd H1 p (.lst vs)) (mset M p ds) := by
  have hpH : H p = none := by
    cases q : H p with
    | none => rfl
    | some u => rw [w.ex p u q] at hp; cases hp
  have hpM : M p = none := by
    cases q : M p with
    | none => rfl
    | some ds => obtain ⟨_, vs, h2, _⟩ := w.cell p ds q; rw [h2] at hp; cases hp
  refine ⟨hpM, ⟨fun a u h => ?_, fun a es h => ?_⟩, ⟨Ex.refl _, fun a u h _ => ?_, fun a h1 h2 h3 => ?_⟩⟩
  · rw [upd_ne (ne_of_none h hpH)]; exact w.ex a u h
  · by_cases e : a = p
    · subst e; rw [mset_same] at h; cases h
      exact ⟨hpH, vs, upd_same, hd⟩
    · rw [mset_ne e] at h
      obtain ⟨h1, us, h2, h3⟩ := w.cell a es h
      exact ⟨h1, us, by rw [upd_ne e]; exact h2, h3⟩
  · rw [upd_ne (ne_of_none h hp)]; exact h
  · have e : a ≠ p := by rintro rfl; exact h3 hp
    exact ⟨h1, by rw [mset_ne e]; exact h2⟩
/-- a list that changes -/
theorem wrote_ok {H H1 : Hp} {p : Addr} {vs : List V} {ds es : List PyData} (w : WOk K H M H1) (hm : M p = some ds) (hd : DqAll K H vs es) : WOk K H (mset M p es) (upd H1 p (.lst vs)) ∧ Step H H1 M H (upd H1 p (.lst vs)) (mset M p es) := by
  obtain ⟨hpH, us0, hp0, _⟩ := w.cell p ds hm
  refine ⟨⟨fun a u h => ?_, fun a fs h => ?_⟩, ⟨Ex.refl _, fun a u h hn => ?_, fun a h1 h2 h3 => ?_⟩⟩
  · rw [upd_ne (ne_of_none h hpH)]; exact w.ex a u h
  · by_cases e : a = p
    · subst e; rw [mset_same] at h; cases h
      exact ⟨hpH, vs, upd_same, hd⟩
    · rw [mset_ne e] at h
      obtain ⟨h1, us, h2, h3⟩ := w.cell a fs h
      exact ⟨h1, us, by rw [upd_ne e]; exact h2, h3⟩
  · have e : a ≠ p := by rintro rfl; rw [hm] at hn; cases hn
    rw [upd_ne e]; exact h
  · have e : a ≠ p := by rintro rfl; rw [hm] at h2; cases h2
    exact ⟨h1, by rw [mset_ne e]; exact h2⟩
end
end Sd

namespace Sd
open PySem L2
section
variable {K : PySem.W.Frag} {δ : DSt} {M : Mem} {P : SV → Mem → Prop} {PB : Bool → Mem → Prop} {PA : List SV → Mem → Prop} {ta tb te : TE} {tt tu : TT}
/-! ### ints -/
theorem dR_I0i {f : Int → Int → Int} {i j : Int} (p : P (.d (.int (f i j))) M) : dR K (rI0 fun i j => .int (f i j)) (.d (.int i)) (.d (.int j)) M P := fun v w H H1 hv hw wk Q q => by
  cases hv; cases hw
  exact ⟨i, j, rfl, rfl, q _ _ H M H1 p Step.refl wk (.int _)⟩
theorem dR_Ii {C : Int → Int → Prop} {f : Int → Int → Int} {i j : Int} (hc : C i j) (p : P (.d (.int (f i j))) M) : dR K (rI C fun i j => .int (f i j)) (.d (.int i)) (.d (.int j)) M P := fun v w H H1 hv hw wk Q q => by
  cases hv; cases hw
  exact ⟨i, j, rfl, rfl, hc, q _ _ H M H1 p Step.refl wk (.int _)⟩
theorem dU_neg {f : Int → Int} {i : Int} (p : P (.d (.int (f i))) M) : dU K (rU fun i => .int (f i)) (.d (.int i)) M P := fun v H H1 hv wk Q q => by
  cases hv
  exact ⟨i, rfl, q _ _ H M H1 p Step.refl wk (.int _)⟩
theorem dE_cmp {p : Int → Int → Bool} (h : dE K ta δ M fun x M1 => dE K tb δ M1 fun y M2 => ∃ i j, x = .d (.int i) ∧ y = .d (.int j) ∧ P (.d (.bool (p i j))) M2) : dE K (tCmp p ta tb) δ M P := fun σ H H1 e w Q q =>
  h σ H H1 e w _ fun v x H' M' H2 hb s1 w1 vx => hb σ H' H2 (e.mono s1.pure) w1 _ fun u y H'' M'' H3 hr s2 w2 vy => by
    obtain ⟨i, j, rfl, rfl, pp⟩ := hr
    cases vx; cases vy
    exact ⟨i, j, rfl, rfl, q _ _ H'' M'' H3 pp (s1.trans w w1 s2) w2 (.bl _)⟩
/-! ### None -/
def isNon : SV → Bool
  | .d .none => true
  | _ => false
theorem isNon_ok {H : Hp} {v : V} : ∀ {x : SV}, SVOk K H v x → decide (v = .non) = isNon x
  | .d .none, h => by cases h; rfl
  | .d (.bool _), h => by cases h; rfl
  | .d (.int _), h => by cases h; rfl
  | .d (.str _), h => by cases h; rfl
  | .d (.list _), h => by cases h; rfl
  | .d (.tuple _), h => by cases h; rfl
  | .d (.dict _), h => by cases h
  | .m a, h => by cases h; rfl
  | .l ns, ⟨a, e, _⟩ => by subst e; rfl
  | .t n, h => by cases h; rfl
  | .q ps, ⟨a, vs, e, _⟩ => by subst e; rfl
theorem dE_isN (h : dE K ta δ M fun x M1 => P (.d (.bool (isNon x))) M1) : dE K (tIsN ta) δ M P := fun σ H H1 e w Q q =>
  h σ H H1 e w _ fun v x H' M' H2 hb s1 w1 vx => by
    show Q (.bl (decide (v = .non))) H2
    rw [isNon_ok vx]
    exact q _ _ H' M' H2 hb s1 w1 (.bl _)
theorem dE_notN (h : dE K ta δ M fun x M1 => P (.d (.bool (!isNon x))) M1) : dE K (tNotN ta) δ M P := fun σ H H1 e w Q q =>
  h σ H H1 e w _ fun v x H' M' H2 hb s1 w1 vx => by
    show Q (.bl (!decide (v = .non))) H2
    rw [isNon_ok vx]
    exact q _ _ H' M' H2 hb s1 w1 (.bl _)
/-! ### tests -/
theorem dT_B (h : dE K te δ M fun x M1 => ∃ b, x = .d (.bool b) ∧ PB b M1) : dT K (tB te) δ M PB := fun σ H H1 e w Q q =>
  h σ H H1 e w _ fun v x H' M' H2 hb s1 w1 vx => by
    obtain ⟨b, rfl, p⟩ := hb
    cases vx
    exact ⟨b, rfl, q b H' M' H2 p s1 w1⟩
theorem dT_test (h : dE K te δ M fun x M1 => ∃ b, x = .d (.bool b) ∧ PB b M1) : dT K (tTest te) δ M PB := fun σ H H1 e w Q q =>
  h σ H H1 e w _ fun v x H' M' H2 hb s1 w1 vx => by
    obtain ⟨b, rfl, p⟩ := hb
    cases vx
    exact ⟨b, rfl, q b H' M' H2 p s1 w1⟩
theorem dT_and (h : dT K tt δ M fun b M1 => if b = true then dT K tu δ M1 PB else PB false M1) : dT K (tAnd tt tu) δ M PB := fun σ H H1 e w Q q =>
  h σ H H1 e w _ fun b H' M' H2 hb s1 w1 => by
    cases b with
    | true => exact hb σ H' H2 (e.mono s1.pure) w1 _ fun c H'' M'' H3 p s2 w2 => q c H'' M'' H3 p (s1.trans w w1 s2) w2
    | false => exact q false H' M' H2 hb s1 w1
theorem dT_or (h : dT K tt δ M fun b M1 => if b = true then PB true M1 else dT K tu δ M1 PB) : dT K (tOr tt tu) δ M PB := fun σ H H1 e w Q q =>
  h σ H H1 e w _ fun b H' M' H2 hb s1 w1 => by
    cases b with
    | false => exact hb σ H' H2 (e.mono s1.pure) w1 _ fun c H'' M'' H3 p s2 w2 => q c H'' M'' H3 p (s1.trans w w1 s2) w2
    | true => exact q true H' M' H2 hb s1 w1
theorem dT_not (h : dT K tt δ M fun b M1 => PB (!b) M1) : dT K (tNot tt) δ M PB := fun σ H H1 e w Q q =>
  h σ H H1 e w _ fun b H' M' H2 hb s1 w1 => q _ H' M' H2 hb s1 w1
theorem dE_if (h : dT K tt δ M fun b M1 => if b = true then dE K ta δ M1 P else dE K tb δ M1 P) : dE K (tIf tt ta tb) δ M P := fun σ H H1 e w Q q =>
  h σ H H1 e w _ fun b H' M' H2 hb s1 w1 => by
    cases b with
    | true => exact hb σ H' H2 (e.mono s1.pure) w1 _ fun v r H'' M'' H3 p s2 w2 vv => q v r H'' M'' H3 p (s1.trans w w1 s2) w2 vv
    | false => exact hb σ H' H2 (e.mono s1.pure) w1 _ fun v r H'' M'' H3 p s2 w2 vv => q v r H'' M'' H3 p (s1.trans w w1 s2) w2 vv
theorem dE_and (h : dE K ta δ M fun x M1 => ∃ b, x = .d (.bool b) ∧ if b = true then dE K tb δ M1 P else P (.d (.bool false)) M1) : dE K (tAndV ta tb) δ M P := fun σ H H1 e w Q q =>
  h σ H H1 e w _ fun v x H' M' H2 hb s1 w1 vx => by
    obtain ⟨b, rfl, p⟩ := hb
    cases vx
    refine ⟨b, rfl, ?_⟩
    cases b with
    | true => exact p σ H' H2 (e.mono s1.pure) w1 _ fun v r H'' M'' H3 p s2 w2 vv => q v r H'' M'' H3 p (s1.trans w w1 s2) w2 vv
    | false => exact q _ _ H' M' H2 p s1 w1 (.bl _)
theorem dE_or (h : dE K ta δ M fun x M1 => ∃ b, x = .d (.bool b) ∧ if b = true then P (.d (.bool true)) M1 else dE K tb δ M1 P) : dE K (tOrV ta tb) δ M P := fun σ H H1 e w Q q =>
  h σ H H1 e w _ fun v x H' M' H2 hb s1 w1 vx => by
    obtain ⟨b, rfl, p⟩ := hb
    cases vx
    refine ⟨b, rfl, ?_⟩
    cases b with
    | false => exact p σ H' H2 (e.mono s1.pure) w1 _ fun v r H'' M'' H3 p s2 w2 vv => q v r H'' M'' H3 p (s1.trans w w1 s2) w2 vv
    | true => exact q _ _ H' M' H2 p s1 w1 (.bl _)
theorem dE_not (h : dE K ta δ M fun x M1 => ∃ b, x = .d (.bool b) ∧ P (.d (.bool (!b))) M1) : dE K (tNotV ta) δ M P := fun σ H H1 e w Q q =>
  h σ H H1 e w _ fun v x H' M' H2 hb s1 w1 vx => by
    obtain ⟨b, rfl, p⟩ := hb
    cases vx
    exact ⟨b, rfl, q _ _ H' M' H2 p s1 w1 (.bl _)⟩
theorem ifT {a : Bool} {X Y : Prop} (h : a = true) (x : X) : if a = true then X else Y := by rw [if_pos h]; exact x
theorem ifF {a : Bool} {X Y : Prop} (h : a = false) (y : Y) : if a = true then X else Y := by rw [if_neg (by rw [h]; decide)]; exact y
theorem ifB {a : Bool} {X Y : Prop} (x : a = true → X) (y : a = false → Y) : if a = true then X else Y := by
  cases a with
  | true => exact x rfl
  | false => exact y rfl
/-! ### data that is a list or a tuple, as it stands -/
/-- a list or tuple with these items -/
def Seq (M : Mem) (r : SV) (ds : List PyData) : Prop := r = .d (.list ds) ∨ r = .d (.tuple ds) ∨ ∃ a, r = .m a ∧ M a = some ds
theorem Seq.sq {H H1 : Hp} {v : V} {r : SV} {ds : List PyData} (s : Seq M r ds) (w : WOk K H M H1) (h : SVOk K H v r) : ∃ a vs, v = .ref a ∧ (H1 a = some (.lst vs) ∨ SqT K H1 a vs) ∧ DqAll K H vs ds := by
  rcases s with rfl | rfl | ⟨a, rfl, hm⟩
  · cases h with
    | lst h1 h2 => exact ⟨_, _, rfl, .inl (w.ex _ _ h1), h2⟩
  · cases h with
    | tup h1 h2 => exact ⟨_, _, rfl, .inr (sqTx w.ex h1), h2⟩
  · obtain ⟨_, vs, h1, h2⟩ := w.cell a ds hm
    exact ⟨a, vs, h, .inl h1, h2⟩
def SeqL (M : Mem) (r : SV) (ds : List PyData) : Prop := r = .d (.list ds) ∨ ∃ a, r = .m a ∧ M a = some ds
theorem SeqL.sq {H H1 : Hp} {v : V} {r : SV} {ds : List PyData} (s : SeqL M r ds) (w : WOk K H M H1) (h : SVOk K H v r) : ∃ a vs, v = .ref a ∧ H1 a = some (.lst vs) ∧ DqAll K H vs ds := by
  rcases s with rfl | ⟨a, rfl, hm⟩
  · cases h with
    | lst h1 h2 => exact ⟨_, _, rfl, w.ex _ _ h1, h2⟩
  · obtain ⟨_, vs, h1, h2⟩ := w.cell a ds hm
    exact ⟨a, vs, h, h1, h2⟩
theorem Seq.d_list {ds : List PyData} : Seq M (.d (.list ds)) ds := .inl rfl
theorem Seq.d_tup {ds : List PyData} : Seq M (.d (.tuple ds)) ds := .inr (.inl rfl)
theorem Seq.of_m {a : Addr} {ds : List PyData} (h : M a = some ds) : Seq M (.m a) ds := .inr (.inr ⟨a, rfl, h⟩)
theorem SeqL.d_list {ds : List PyData} : SeqL M (.d (.list ds)) ds := .inl rfl
theorem SeqL.of_m {a : Addr} {ds : List PyData} (h : M a = some ds) : SeqL M (.m a) ds := .inr ⟨a, rfl, h⟩
theorem atI_of {H : Hp} {vs : List V} {ds : List PyData} {i : Int} {d : PyData} (h : DqAll K H vs ds) (e : atI ds i = some d) : ∃ v, atI vs i = some v ∧ Dq K H v d := by
  unfold atI at e ⊢
  rw [h.length]
  cases q : ixN ds.length i with
  | none => rw [q] at e; cases e
  | some j =>
    rw [q] at e
    exact h.getR e
theorem dR_ixT {ds : List PyData} {i : Int} {d : PyData} (e : atI ds i = some d) (p : P (.d d) M) : dR K (rIxT K) (.d (.tuple ds)) (.d (.int i)) M P := fun v w H H1 hv hw wk Q q => by
  cases hw
  cases hv with
  | tup h1 h2 =>
    obtain ⟨u, e1, e2⟩ := atI_of h2 e
    exact ⟨_, _, i, u, rfl, rfl, sqTx wk.ex h1, e1, q _ _ H M H1 p Step.refl wk e2⟩
theorem dR_ixL {r : SV} {ds : List PyData} {i : Int} {d : PyData} (s : SeqL M r ds) (e : atI ds i = some d) (p : P (.d d) M) : dR K (rIxL K) r (.d (.int i)) M P := fun v w H H1 hv hw wk Q q => by
  cases hw
  obtain ⟨a, vs, rfl, h1, h2⟩ := s.sq wk hv
  obtain ⟨u, e1, e2⟩ := atI_of h2 e
  exact ⟨_, _, i, u, rfl, rfl, SqL.of h1, e1, q _ _ H M H1 p Step.refl wk e2⟩
theorem dR_ixS {ns : List Int} {i : Int} {n : Int} (e : atI ns i = some n) (p : P (.d (.int n)) M) : dR K (rIxL K) (.l ns) (.d (.int i)) M P := fun v w H H1 hv hw wk Q q => by
  cases hw
  obtain ⟨a, rfl, h1⟩ := hv
  refine ⟨a, _, i, .int n, rfl, rfl, Same.seq wk.ex h1, ?_, q _ _ H M H1 p Step.refl wk (.int _)⟩
  unfold atI at e ⊢
  rw [List.length_map]
  cases q : ixN ns.length i with
  | none => rw [q] at e; cases e
  | some j =>
    rw [q] at e
    show (ns.map V.int)[j]? = _
    have e' : ns[j]? = some n := e
    rw [List.getElem?_map, e']; rfl
/-! ### ==, != of data -/
def AsD (M : Mem) (r : SV) (d : PyData) : Prop := r = .d d ∨ ∃ a ds, r = .m a ∧ M a = some ds ∧ d = .list ds
theorem AsD.dp {H H1 : Hp} {v : V} {r : SV} {d : PyData} (s : AsD M r d) (w : WOk K H M H1) (h : SVOk K H v r) : Dp K H1 v d := by
  rcases s with rfl | ⟨a, ds, rfl, hm, rfl⟩
  · exact Dq.dp _ _ (Dq.mono w.ex _ _ h)
  · obtain ⟨_, vs, h1, h2⟩ := w.cell a ds hm
    cases h
    exact .lst (SqL.of h1) (DqAll.dp _ _ (DqAll.mono w.ex _ _ h2))
theorem AsD.of {d : PyData} : AsD M (.d d) d := .inl rfl
theorem dR_ne {x y : SV} {d e : PyData} (hx : AsD M x d) (hy : AsD M y e) (s1 : SeqAt.shaped d = true) (s2 : SeqAt.shaped e = true) (p : P (.d (.bool (!PyData.eqv d e))) M) : dR K (rNeD K) x y M P := fun v w H H1 hv hw wk Q q =>
  ⟨d, e, hx.dp wk hv, hy.dp wk hw, s1, s2, q _ _ H M H1 p Step.refl wk (.bl _)⟩
theorem dR_eq {x y : SV} {d e : PyData} (hx : AsD M x d) (hy : AsD M y e) (s1 : SeqAt.shaped d = true) (s2 : SeqAt.shaped e = true) (p : P (.d (.bool (PyData.eqv d e))) M) : dR K (rEqD K) x y M P := fun v w H H1 hv hw wk Q q =>
  ⟨d, e, hx.dp wk hv, hy.dp wk hw, s1, s2, q _ _ H M H1 p Step.refl wk (.bl _)⟩
theorem shaped_eqv {d : PyData} (s : SeqAt.shaped d = true) : PyData.eqv d d = true := SeqAt.eqv_refl d (by
  unfold SeqAt.shaped at s
  rw [Bool.and_eq_true] at s
  exact s.1)
theorem dR_ne_same {x y : SV} {d : PyData} (hx : AsD M x d) (hy : AsD M y d) (s1 : SeqAt.shaped d = true) (p : P (.d (.bool false)) M) : dR K (rNeD K) x y M P := dR_ne hx hy s1 s1 (by rw [shaped_eqv s1]; exact p)
/-! ### in -/
theorem strs_of {H : Hp} : ∀ {vs : List V} {ns : List Str}, DqAll K H vs (ns.map .str) → vs = ns.map V.str
  | _, [], h => by cases h; rfl
  | _, n :: ns, h => by
    cases h with
    | cons h1 h2 =>
      cases h1
      rw [strs_of h2]; rfl
theorem inV_strs (x : Str) : ∀ ns : List Str, inV (.str x) (ns.map V.str) = ns.contains x
  | [] => rfl
  | n :: ns => by
    have ih := inV_strs x ns
    unfold inV at ih ⊢
    rw [List.map_cons, List.any_cons, ih, List.contains_cons]
    show (n == x || _) = _
    rw [BEq.comm]
theorem flat_strs : ∀ ns : List Str, (ns.map V.str).all flatV = true
  | [] => rfl
  | n :: ns => by rw [List.map_cons, List.all_cons, flat_strs ns]; rfl
theorem dR_in {neg : Bool} {x : Str} {y : SV} {ns : List Str} (hy : Seq M y (ns.map .str)) (p : P (.d (.bool (if neg then !ns.contains x else ns.contains x))) M) : dR K (rIn K neg) (.d (.str x)) y M P := fun v w H H1 hv hw wk Q q => by
  cases hv
  obtain ⟨a, vs, rfl, h1, h2⟩ := hy.sq wk hw
  have e := strs_of h2
  subst e
  refine ⟨a, _, rfl, h1.imp SqL.of id, rfl, flat_strs ns, ?_⟩
  rw [inV_strs]
  exact q _ _ H M H1 p Step.refl wk (.bl _)
/-! ### slices -/
def cutD (xs : List PyData) (lo hi : Option Int) : List PyData := (xs.drop (HT.sIx xs.length 0 lo)).take (HT.sIx xs.length xs.length hi - HT.sIx xs.length 0 lo)
theorem cut_of {H : Hp} {vs : List V} {ds : List PyData} (h : DqAll K H vs ds) (lo hi : Option Int) : DqAll K H (cutV vs lo hi) (cutD ds lo hi) := by
  unfold cutV cutD
  rw [h.length]
  exact (h.drop _).take _
theorem dO_none {PO : Option Int → Mem → Prop} (p : PO none M) : dO K tNoPart δ M PO := fun σ H H1 e w Q q => q none H M H1 p Step.refl w
theorem dO_some {PO : Option Int → Mem → Prop} (h : dE K te δ M fun x M1 => ∃ i, x = .d (.int i) ∧ PO (some i) M1) : dO K (tPart te) δ M PO := fun σ H H1 e w Q q =>
  h σ H H1 e w _ fun v x H' M' H2 hb s1 w1 vx => by
    obtain ⟨i, rfl, p⟩ := hb
    cases vx
    exact ⟨i, rfl, q _ H' M' H2 p s1 w1⟩
theorem dE_sl {r : V → Option Int → Option Int → Hp → VK → Prop} {tl th : TO} (h : dE K te δ M fun x M1 => dO K tl δ M1 fun lo M2 => dO K th δ M2 fun hi M3 => dU K (fun v => r v lo hi) x M3 P) : dE K (tSl r te tl th) δ M P := fun σ H H1 e w Q q =>
  h σ H H1 e w _ fun v x H' M' H2 hb s1 w1 vx => hb σ H' H2 (e.mono s1.pure) w1 _ fun lo Ha Ma H3 hc s2 w2 => hc σ Ha H3 ((e.mono s1.pure).mono s2.pure) w2 _ fun hi Hb Mb H4 hd s3 w3 =>
    hd v Hb H4 ((vx.mono s2.pure).mono s3.pure) w3 Q fun z r Hz Mz H5 p s4 w4 vz => q z r Hz Mz H5 p (((s1.trans w w1 s2).trans w w2 s3).trans w w3 s4) w4 vz
/-- a slice of a list: a new list, told as data -/
theorem dU_slL {lo hi : Option Int} {x : SV} {ds : List PyData} (s : SeqL M x ds) (p : P (.d (.list (cutD ds lo hi))) M) : dU K (fun v => rSlL K v lo hi) x M P := fun v H H1 hv wk Q q => by
  obtain ⟨a, vs, rfl, h1, h2⟩ := s.sq wk hv
  refine ⟨a, vs, rfl, SqL.of h1, fun l hl => ?_⟩
  obtain ⟨w2, s2⟩ := laid_ok (o := .lst (cutV vs lo hi)) wk hl
  exact q _ _ _ M _ p s2 w2 (.lst upd_same (DqAll.mono s2.pure _ _ (cut_of h2 lo hi)))
theorem dU_slT {lo hi : Option Int} {ds : List PyData} (hn : ¬ (HT.sIx ds.length 0 lo = 0 ∧ HT.sIx ds.length ds.length hi = ds.length)) (p : P (.d (.tuple (cutD ds lo hi))) M) : dU K (fun v => rSlT K v lo hi) (.d (.tuple ds)) M P := fun v H H1 hv wk Q q => by
  cases hv with
  | tup h1 h2 =>
    refine ⟨_, _, rfl, sqTx wk.ex h1, by rw [h2.length]; exact hn, fun l hl => ?_⟩
    obtain ⟨w2, s2⟩ := laid_ok (o := .tup (cutV _ lo hi)) wk hl
    exact q _ _ _ M _ p s2 w2 (.tup (SqT.of upd_same) (DqAll.mono s2.pure _ _ (cut_of h2 lo hi)))
/-! ### +, of tuples, of lists -/
theorem dR_catT {ds es : List PyData} (h0 : ds ≠ []) (h1 : es ≠ []) (hz : ds.length + es.length ≤ 100000) (p : P (.d (.tuple (ds ++ es))) M) : dR K (rCatT K) (.d (.tuple ds)) (.d (.tuple es)) M P := fun v w H H1 hv hw wk Q q => by
  cases hv with
  | tup a1 a2 =>
    cases hw with
    | tup b1 b2 =>
      have l1 := a2.length
      have l2 := b2.length
      refine ⟨_, _, _, _, rfl, rfl, sqTx wk.ex a1, sqTx wk.ex b1, fun z => h0 (by rw [z] at l1; exact List.length_eq_zero_iff.mp l1.symm), by rw [l1, l2]; exact Nat.le_trans hz (by decide), fun z => absurd (by rw [z] at l2; exact List.length_eq_zero_iff.mp l2.symm) h1, fun _ l hl => ?_⟩
      obtain ⟨w2, s2⟩ := laid_ok (o := .tup (_ ++ _)) wk hl
      exact q _ _ _ M _ p s2 w2 (.tup (SqT.of upd_same) (DqAll.mono s2.pure _ _ (a2.append b2)))
theorem dR_cat {x y : SV} {ds es : List PyData} (hx : SeqL M x ds) (hy : SeqL M y es) (hz : ds.length + es.length ≤ 100000) (p : P (.d (.list (ds ++ es))) M) : dR K rCat x y M P := fun v w H H1 hv hw wk Q q => by
  obtain ⟨a, vs, rfl, a1, a2⟩ := hx.sq wk hv
  obtain ⟨b, us, rfl, b1, b2⟩ := hy.sq wk hw
  refine ⟨a, b, vs, us, rfl, rfl, a1, b1, by rw [a2.length, b2.length]; exact Nat.le_trans hz (by decide), fun l hl => ?_⟩
  obtain ⟨w2, s2⟩ := laid_ok (o := .lst (vs ++ us)) wk hl
  exact q _ _ _ M _ p s2 w2 (.lst upd_same (DqAll.mono s2.pure _ _ (a2.append b2)))
/-! ### displays -/
def datAll : List SV → Option (List PyData)
  | [] => some []
  | .d x :: r => (datAll r).map (x :: ·)
  | _ => none
theorem dat_ok {H : Hp} : ∀ {vs : List V} {rs : List SV} {ds : List PyData}, SVsOk K H vs rs → datAll rs = some ds → DqAll K H vs ds
  | _, _, ds, .nil, e => by cases e; exact .nil
  | _, _, ds, .cons (r := r) (rs := rs) h t, e => by
    cases r with
    | d x =>
      cases q : datAll rs with
      | none => rw [show datAll (.d x :: rs) = (datAll rs).map (x :: ·) from rfl, q] at e; cases e
      | some es =>
        rw [show datAll (.d x :: rs) = (datAll rs).map (x :: ·) from rfl, q] at e
        cases e
        exact .cons h (dat_ok t q)
    | m a => cases e
    | l ns => cases e
    | t n => cases e
    | q ps => cases e
theorem dE_tup {ts : TA} (h : dA K ts δ M fun rs M1 => ∃ ds, datAll rs = some ds ∧ ds.length ≤ 1000 ∧ P (.d (.tuple ds)) M1) : dE K (tTup ts) δ M P := fun σ H H1 e w Q q =>
  h σ H H1 e w _ fun vs rs H' M' H2 hb s1 w1 vx => by
    obtain ⟨ds, e1, e2, p⟩ := hb
    have hd := dat_ok vx e1
    refine ⟨by rw [hd.length]; exact Nat.le_trans e2 (by decide), fun l hl => ?_⟩
    obtain ⟨w2, s2⟩ := laid_ok (o := .tup vs) w1 hl
    exact q _ _ _ M' _ p (s1.trans w w1 s2) w2 (.tup (SqT.of upd_same) (DqAll.mono s2.pure _ _ hd))
theorem dE_lst {ts : TA} (h : dA K ts δ M fun rs M1 => ∃ ds, datAll rs = some ds ∧ ds.length ≤ 1000 ∧ P (.d (.list ds)) M1) : dE K (tLst ts) δ M P := fun σ H H1 e w Q q =>
  h σ H H1 e w _ fun vs rs H' M' H2 hb s1 w1 vx => by
    obtain ⟨ds, e1, e2, p⟩ := hb
    have hd := dat_ok vx e1
    refine ⟨by rw [hd.length]; exact Nat.le_trans e2 (by decide), fun l hl => ?_⟩
    obtain ⟨w2, s2⟩ := laid_ok (o := .lst vs) w1 hl
    exact q _ _ _ M' _ p (s1.trans w w1 s2) w2 (.lst upd_same (DqAll.mono s2.pure _ _ hd))
/-- a new list that will change -/
theorem dE_lstM {ts : TA} (h : dA K ts δ M fun rs M1 => ∃ ds, datAll rs = some ds ∧ ds.length ≤ 1000 ∧ ∀ a, M1 a = none → P (.m a) (mset M1 a ds)) : dE K (tLst ts) δ M P := fun σ H H1 e w Q q =>
  h σ H H1 e w _ fun vs rs H' M' H2 hb s1 w1 vx => by
    obtain ⟨ds, e1, e2, p⟩ := hb
    have hd := dat_ok vx e1
    refine ⟨by rw [hd.length]; exact Nat.le_trans e2 (by decide), fun l hl => ?_⟩
    obtain ⟨hm, w2, s2⟩ := laid_m w1 hl hd
    exact q _ _ _ _ _ (p l hm) (s1.trans w w1 s2) w2 rfl
/-! ### calls of built-ins -/
theorem dC_abs {i : Int} (p : P (.d (.int (if i < 0 then -i else i))) M) : dC K (fun xs H Q => ∃ i, xs = [.int i] ∧ Q (.int (if i < 0 then -i else i)) H) [.d (.int i)] M P := fun vs H H1 hv wk Q q => by
  cases hv with
  | cons h t => cases t; cases h; exact ⟨i, rfl, q _ _ H M H1 p Step.refl wk (.int _)⟩
theorem dC_max2 {i j : Int} (p : P (.d (.int (if j > i then j else i))) M) : dC K (fun xs H Q => ∃ i j, xs = [.int i, .int j] ∧ Q (.int (if j > i then j else i)) H) [.d (.int i), .d (.int j)] M P := fun vs H H1 hv wk Q q => by
  cases hv with
  | cons h t => cases t with
    | cons h' t => cases t; cases h; cases h'; exact ⟨i, j, rfl, q _ _ H M H1 p Step.refl wk (.int _)⟩
theorem dC_min2 {i j : Int} (p : P (.d (.int (if j < i then j else i))) M) : dC K (fun xs H Q => ∃ i j, xs = [.int i, .int j] ∧ Q (.int (if j < i then j else i)) H) [.d (.int i), .d (.int j)] M P := fun vs H H1 hv wk Q q => by
  cases hv with
  | cons h t => cases t with
    | cons h' t => cases t; cases h; cases h'; exact ⟨i, j, rfl, q _ _ H M H1 p Step.refl wk (.int _)⟩
theorem dC_len {x : SV} {ds : List PyData} (s : Seq M x ds) (p : P (.d (.int ds.length)) M) : dC K (fun xs H Q => ∃ p ys, xs = [.ref p] ∧ (SqL K H p ys ∨ SqT K H p ys) ∧ Q (.int ys.length) H) [x] M P := fun vs H H1 hv wk Q q => by
  cases hv with
  | cons h t =>
    cases t
    obtain ⟨a, vs, rfl, h1, h2⟩ := s.sq wk h
    refine ⟨a, vs, rfl, h1.imp SqL.of id, ?_⟩
    rw [h2.length]
    exact q _ _ H M H1 p Step.refl wk (.int _)
theorem dC_lenS {ns : List Int} (p : P (.d (.int ns.length)) M) : dC K (fun xs H Q => ∃ p ys, xs = [.ref p] ∧ (SqL K H p ys ∨ SqT K H p ys) ∧ Q (.int ys.length) H) [.l ns] M P := fun vs H H1 hv wk Q q => by
  cases hv with
  | cons h t =>
    cases t
    obtain ⟨a, rfl, h1⟩ := h
    refine ⟨a, _, rfl, .inl (Same.seq wk.ex h1), ?_⟩
    rw [List.length_map]
    exact q _ _ H M H1 p Step.refl wk (.int _)
theorem dC_sum {x : SV} {ns : List Int} (s : SeqL M x (ns.map .int)) (p : P (.d (.int ns.sum)) M) : dC K (rSum K) [x] M P := fun vs H H1 hv wk Q q => by
  cases hv with
  | cons h t =>
    cases t
    obtain ⟨a, vs, rfl, h1, h2⟩ := s.sq wk h
    rw [h2.ints] at h1
    exact ⟨a, ns, rfl, SqL.of h1, q _ _ H M H1 p Step.refl wk (.int _)⟩
theorem dC_tuple {x : SV} {ds : List PyData} (s : SeqL M x ds) (p : P (.d (.tuple ds)) M) :
    dC K (fun xs H Q => ∃ p ys, xs = [.ref p] ∧ ((SqL K H p ys ∧ ∀ l, H l = none → Q (.ref l) (upd H l (.tup ys))) ∨ (SqT K H p ys ∧ Q (.ref p) H))) [x] M P := fun vs H H1 hv wk Q q => by
  cases hv with
  | cons h t =>
    cases t
    obtain ⟨a, vs, rfl, h1, h2⟩ := s.sq wk h
    refine ⟨a, vs, rfl, .inl ⟨SqL.of h1, fun l hl => ?_⟩⟩
    obtain ⟨w2, s2⟩ := laid_ok (o := .tup vs) wk hl
    exact q _ _ _ M _ p s2 w2 (.tup (SqT.of upd_same) (DqAll.mono s2.pure _ _ h2))
theorem dC_list {x : SV} {ds : List PyData} (s : Seq M x ds) (p : P (.d (.list ds)) M) :
    dC K (fun xs H Q => ∃ p ys, xs = [.ref p] ∧ (SqL K H p ys ∨ SqT K H p ys) ∧ ∀ l, H l = none → Q (.ref l) (upd H l (.lst ys))) [x] M P := fun vs H H1 hv wk Q q => by
  cases hv with
  | cons h t =>
    cases t
    obtain ⟨a, vs, rfl, h1, h2⟩ := s.sq wk h
    refine ⟨a, vs, rfl, h1.imp SqL.of id, fun l hl => ?_⟩
    obtain ⟨w2, s2⟩ := laid_ok (o := .lst vs) wk hl
    exact q _ _ _ M _ p s2 w2 (.lst upd_same (DqAll.mono s2.pure _ _ h2))
theorem dC_listM {x : SV} {ds : List PyData} (s : Seq M x ds) (p : ∀ a, M a = none → P (.m a) (mset M a ds)) :
    dC K (fun xs H Q => ∃ p ys, xs = [.ref p] ∧ (SqL K H p ys ∨ SqT K H p ys) ∧ ∀ l, H l = none → Q (.ref l) (upd H l (.lst ys))) [x] M P := fun vs H H1 hv wk Q q => by
  cases hv with
  | cons h t =>
    cases t
    obtain ⟨a, vs, rfl, h1, h2⟩ := s.sq wk h
    refine ⟨a, vs, rfl, h1.imp SqL.of id, fun l hl => ?_⟩
    obtain ⟨hm, w2, s2⟩ := laid_m wk hl h2
    exact q _ _ _ _ _ (p l hm) s2 w2 rfl
end
end Sd

namespace Sd
open PySem L2
/-- a promise over data: what is asked of the arguments, and what is wanted behind -/
abbrev SpD := List SV → Mem → (SV → Mem → Prop) → Prop
def spOf (K : PySem.W.Frag) (S : SpD) : Sp := fun vs H1 Q _ => ∃ (rs : List SV) (H : Hp) (M : Mem) (P : SV → Mem → Prop), WOk K H M H1 ∧ SVsOk K H vs rs ∧ S rs M P ∧
  ∀ v r H' M' H2, P r M' → Step H H1 M H' H2 M' → WOk K H' M' H2 → SVOk K H' v r → Q v H2
structure DEnds where
  nx : DSt → Mem → Prop
  rt : SV → Mem → Prop
  bk : DSt → Mem → Prop := fun _ _ => False
  ct : DSt → Mem → Prop := fun _ _ => False
section
variable (K : PySem.W.Frag)
structure DEnds.Ok (D : DEnds) (D' : Ends) (H H1 : Hp) (M : Mem) : Prop where
  nx : ∀ δ' M' σ' H' H2, D.nx δ' M' → Step H H1 M H' H2 M' → EnvOk K H' σ' δ' → WOk K H' M' H2 → D'.nx σ' H2
  rt : ∀ r v H' M' H2, D.rt r M' → Step H H1 M H' H2 M' → WOk K H' M' H2 → SVOk K H' v r → D'.rt v H2
  bk : ∀ δ' M' σ' H' H2, D.bk δ' M' → Step H H1 M H' H2 M' → EnvOk K H' σ' δ' → WOk K H' M' H2 → D'.bk σ' H2
  ct : ∀ δ' M' σ' H' H2, D.ct δ' M' → Step H H1 M H' H2 M' → EnvOk K H' σ' δ' → WOk K H' M' H2 → D'.ct σ' H2
def dS (t : TS) (D : DEnds) (δ : DSt) (M : Mem) : Prop := ∀ (D' : Ends) (σ : St) (H H1 : Hp), EnvOk K H σ δ → WOk K H M H1 → DEnds.Ok K D D' H H1 M → t D' σ H1
def dG (g : TG) (x : SV) (δ : DSt) (M : Mem) (P : DSt → Mem → Prop) : Prop := ∀ (v : V) (σ : St) (H H1 : Hp), EnvOk K H σ δ → WOk K H M H1 → SVOk K H v x → ∀ Q : St → Hp → Prop,
  (∀ δ' M' σ' H' H2, P δ' M' → Step H H1 M H' H2 M' → EnvOk K H' σ' δ' → WOk K H' M' H2 → Q σ' H2) → g v σ H1 Q
def dGs (g : TGs) (xs : List SV) (δ : DSt) (M : Mem) (P : DSt → Mem → Prop) : Prop := ∀ (vs : List V) (σ : St) (H H1 : Hp), EnvOk K H σ δ → WOk K H M H1 → SVsOk K H vs xs → ∀ Q : St → Hp → Prop,
  (∀ δ' M' σ' H' H2, P δ' M' → Step H H1 M H' H2 M' → EnvOk K H' σ' δ' → WOk K H' M' H2 → Q σ' H2) → g vs σ H1 Q
end
section
variable {K : PySem.W.Frag} {δ : DSt} {M : Mem} {P : SV → Mem → Prop} {PB : Bool → Mem → Prop} {PD : DSt → Mem → Prop} {ta tb te : TE} {tt : TT} {t u : TS} {D : DEnds}
theorem DEnds.Ok.after {D' : Ends} {H H1 H' H2 : Hp} {M' : Mem} (o : DEnds.Ok K D D' H H1 M) (w : WOk K H M H1) (w' : WOk K H' M' H2) (s : Step H H1 M H' H2 M') : DEnds.Ok K D D' H' H2 M' :=
  ⟨fun δ' M2 σ' H3 H4 p s2 e2 w2 => o.nx δ' M2 σ' H3 H4 p (s.trans w w' s2) e2 w2, fun r v H3 M2 H4 p s2 w2 vv => o.rt r v H3 M2 H4 p (s.trans w w' s2) w2 vv,
   fun δ' M2 σ' H3 H4 p s2 e2 w2 => o.bk δ' M2 σ' H3 H4 p (s.trans w w' s2) e2 w2, fun δ' M2 σ' H3 H4 p s2 e2 w2 => o.ct δ' M2 σ' H3 H4 p (s.trans w w' s2) e2 w2⟩
theorem dE_call {S : SpD} {E : XK} {ts : TA} (h : dA K ts δ M fun rs M1 => S rs M1 P) : dE K (tCall (spOf K S) [] E ts) δ M P := fun σ H H1 e w Q q =>
  h σ H H1 e w _ fun vs rs H' M' H2 hb s1 w1 vx => ⟨rs, H', M', P, w1, by rw [List.append_nil]; exact vx, hb, fun v r H3' M3 H4 p s3 w3 vz => q v r H3' M3 H4 p (s1.trans w w1 s3) w3 vz⟩
/-! ### statements -/
theorem dS_seq (h : dS K t { D with nx := fun δ' M' => dS K u D δ' M' } δ M) : dS K (tSeq t u) D δ M := fun D' σ H H1 e w o =>
  h { D' with nx := u D' } σ H H1 e w ⟨fun δ' M' σ' H' H2 p s e' w' => p D' σ' H' H2 e' w' (o.after w w' s), o.rt, o.bk, o.ct⟩
theorem dS_next (h : D.nx δ M) : dS K tNext D δ M := fun D' σ H H1 e w o => o.nx δ M σ H H1 h Step.refl e w
theorem dS_brk (h : D.bk δ M) : dS K tBreak D δ M := fun D' σ H H1 e w o => o.bk δ M σ H H1 h Step.refl e w
theorem dS_cont (h : D.ct δ M) : dS K tCont D δ M := fun D' σ H H1 e w o => o.ct δ M σ H H1 h Step.refl e w
theorem dS_ret (h : dE K te δ M D.rt) : dS K (tRet te) D δ M := fun D' σ H H1 e w o => h σ H H1 e w _ fun v r H' M' H2 p s w' vv => o.rt r v H' M' H2 p s w' vv
theorem dS_drop (h : dE K te δ M fun _ M' => D.nx δ M') : dS K (tDrop te) D δ M := fun D' σ H H1 e w o => h σ H H1 e w _ fun v r H' M' H2 p s w' vv => o.nx δ M' σ H' H2 p s (e.mono s.pure) w'
theorem dS_if (h : dT K tt δ M fun b M' => if b = true then dS K t D δ M' else dS K u D δ M') : dS K (tIfS tt t u) D δ M := fun D' σ H H1 e w o =>
  h σ H H1 e w _ fun b H' M' H2 p s w' => by
    cases b with
    | true => exact p D' σ H' H2 (e.mono s.pure) w' (o.after w w' s)
    | false => exact p D' σ H' H2 (e.mono s.pure) w' (o.after w w' s)
theorem dS_asg {g : TG} (h : dE K te δ M fun r M' => dG K g r δ M' D.nx) : dS K (tAsg te g) D δ M := fun D' σ H H1 e w o =>
  h σ H H1 e w _ fun v r H' M' H2 p s w' vv => p v σ H' H2 (e.mono s.pure) w' vv _ fun δ' M2 σ' H3 H4 p2 s2 e2 w2 => o.nx δ' M2 σ' H3 H4 p2 (s.trans w w' s2) e2 w2
theorem dG_name {i : Nat} {r : SV} (h : PD (δ.set i (some r)) M) : dG K (gName i) r δ M PD := fun v σ H H1 e w hv Q q => q _ M _ H H1 h Step.refl (e.set i hv) w
theorem dGs_nil (h : PD δ M) : dGs K gNil [] δ M PD := fun vs σ H H1 e w hv Q q => by
  cases hv
  exact ⟨rfl, q δ M σ H H1 h Step.refl e w⟩
theorem dGs_cons {g : TG} {gs : TGs} {x : SV} {xs : List SV} (h : dG K g x δ M fun δ' M' => dGs K gs xs δ' M' PD) : dGs K (gCons g gs) (x :: xs) δ M PD := fun vs σ H H1 e w hv Q q => by
  cases hv with
  | cons h1 h2 => exact ⟨_, _, rfl, h _ σ H H1 e w h1 _ fun δ' M' σ' H' H2 p s e' w' => p _ σ' H' H2 e' w' (h2.mono s.pure) Q fun δ2 M2 σ2 H3 H4 p2 s2 e2 w2 => q δ2 M2 σ2 H3 H4 p2 (s.trans w w' s2) e2 w2⟩
theorem SVsOk.ofDq {H : Hp} : ∀ {vs : List V} {ds : List PyData}, DqAll K H vs ds → SVsOk K H vs (ds.map SV.d)
  | _, [], h => by cases h; exact .nil
  | _, d :: ds, h => by
    cases h with
    | cons h1 h2 => exact .cons h1 (SVsOk.ofDq h2)
theorem dG_tup {n : Nat} {gs : TGs} {ds : List PyData} (hn : ds.length = n) (h : dGs K gs (ds.map SV.d) δ M PD) : dG K (gTup K n gs) (.d (.tuple ds)) δ M PD := fun v σ H H1 e w hv Q q => by
  cases hv with
  | tup h1 h2 => exact ⟨_, _, rfl, sqTx w.ex h1, by rw [h2.length]; exact hn, h _ σ H H1 e w (SVsOk.ofDq h2) Q q⟩
/-- a[i] = e -/
theorem dG_sub {a : Addr} {j : Nat} {ds : List PyData} {d : PyData} (h : dE K ta δ M fun r M1 => r = .m a ∧ dE K tb δ M1 fun s M2 => s = .d (.int (j : Int)) ∧ M2 a = some ds ∧ j < ds.length ∧ PD δ (mset M2 a (ds.set j d))) : dG K (gSub ta tb rSetL) (.d d) δ M PD := fun v σ H H1 e w hv Q q =>
  h σ H H1 e w _ fun va ra H' M' H2 ⟨ea, hb⟩ s w' vva => hb σ H' H2 (e.mono s.pure) w' _ fun vb rb H'' M'' H3 ⟨eb, hm, hj, pp⟩ s2 w2 vvb => by
    subst ea; subst eb
    cases vva; cases vvb
    obtain ⟨_, vs, h1, h2⟩ := w2.cell a ds hm
    have hv' : Dq K H'' v d := Dq.mono s2.pure _ _ (Dq.mono s.pure _ _ hv)
    obtain ⟨w3, s3⟩ := wrote_ok w2 hm (DqAll.set hv' j h2)
    refine ⟨a, vs, (j : Int), j, rfl, rfl, h1, ?_, q δ _ σ _ _ pp ((s.trans w w' s2).trans w w2 s3) (((e.mono s.pure).mono s2.pure).mono s3.pure) w3⟩
    unfold ixN
    rw [if_pos (by omega), if_pos (by rw [h2.length]; omega)]
    simp
/-- a, b = e1, e2 -/
theorem dS_par {i j : Nat} {ts : TA} (h : dA K ts δ M fun rs M' => ∃ r s, rs = [r, s] ∧ D.nx ((δ.set i (some r)).set j (some s)) M') : dS K (tPar i j ts) D δ M := fun D' σ H H1 e w o =>
  h σ H H1 e w _ fun vs rs H' M' H2 p s w' vv => by
    obtain ⟨r, s', rfl, p⟩ := p
    cases vv with
    | cons h1 h2 => cases h2 with
      | cons h2 h3 => cases h3; exact ⟨_, _, rfl, o.nx _ M' _ H' H2 p s (((e.mono s.pure).set i h1).set j h2) w'⟩
theorem dS_aug {i : Nat} {f : Int → Int → Int} {a : Int} (hx : δ[i]? = some (some (.d (.int a)))) (h : dE K te δ M fun r M' => ∃ b, r = .d (.int b) ∧ D.nx (δ.set i (some (.d (.int (f a b))))) M') : dS K (tAug i te (ipI f)) D δ M := fun D' σ H H1 e w o => by
  obtain ⟨v, h1, h2⟩ := e.at' i _ hx
  cases h2
  refine ⟨_, h1, h σ H H1 e w _ fun v r H' M' H2 p s w' vv => ?_⟩
  obtain ⟨b, rfl, p⟩ := p
  cases vv
  exact ⟨a, b, rfl, rfl, o.nx _ M' _ H' H2 p s ((e.mono s.pure).set i (r := .d (.int (f a b))) (.int _)) w'⟩
/-- xs.append(e) -/
theorem dE_app (h : dE K ta δ M fun r M1 => ∃ a, r = .m a ∧ (∃ ds, M1 a = some ds) ∧ dE K te δ M1 fun s M2 => ∃ d ds, s = .d d ∧ M2 a = some ds ∧ ds.length < 100000 ∧ P (.d .none) (mset M2 a (ds ++ [d]))) :
    dE K (tBM K "list" rAppend ta (tCons te tNil)) δ M P := fun σ H H1 e w Q q =>
  h σ H H1 e w _ fun va ra H' M' H2 ⟨a, ea, ⟨ds0, hm0⟩, hb⟩ s w' vva => by
    subst ea
    cases vva
    obtain ⟨_, vs0, g1, _⟩ := w'.cell a ds0 hm0
    refine ⟨Or.inl ⟨rfl, vs0, SqL.of g1⟩, hb σ H' H2 (e.mono s.pure) w' _ fun vb rb H'' M'' H3 hp s2 w2 vvb => ?_⟩
    obtain ⟨d, ds, eb, hm, hl, pp⟩ := hp
    subst eb
    obtain ⟨_, vs, h1, h2⟩ := w2.cell a ds hm
    obtain ⟨w3, s3⟩ := wrote_ok (vs := vs ++ [vb]) w2 hm (h2.append (.cons vvb .nil))
    exact ⟨a, vs, vb, rfl, rfl, h1, by rw [h2.length]; exact Nat.lt_of_lt_of_le hl (by decide), q _ _ _ _ _ pp ((s.trans w w' s2).trans w w2 s3) w3 .non⟩
/-- xs.extend(ys) -/
theorem dE_ext (h : dE K ta δ M fun r M1 => ∃ a, r = .m a ∧ (∃ ds, M1 a = some ds) ∧ dE K te δ M1 fun s M2 => ∃ ds es, SeqL M2 s es ∧ M2 a = some ds ∧ ds.length + es.length < 100000 ∧ P (.d .none) (mset M2 a (ds ++ es))) :
    dE K (tBM K "list" rExtend ta (tCons te tNil)) δ M P := fun σ H H1 e w Q q =>
  h σ H H1 e w _ fun va ra H' M' H2 ⟨a, ea, ⟨ds0, hm0⟩, hb⟩ s w' vva => by
    subst ea
    cases vva
    obtain ⟨_, vs0, g1, _⟩ := w'.cell a ds0 hm0
    refine ⟨Or.inl ⟨rfl, vs0, SqL.of g1⟩, hb σ H' H2 (e.mono s.pure) w' _ fun vb rb H'' M'' H3 hp s2 w2 vvb => ?_⟩
    obtain ⟨ds, es, eb, hm, hl, pp⟩ := hp
    obtain ⟨_, vs, h1, h2⟩ := w2.cell a ds hm
    obtain ⟨b, us, rfl, k1, k2⟩ := eb.sq w2 vvb
    obtain ⟨w3, s3⟩ := wrote_ok (vs := vs ++ us) w2 hm (h2.append k2)
    exact ⟨a, b, vs, us, rfl, rfl, h1, k1, by rw [h2.length, k2.length]; exact Nat.le_trans (Nat.le_of_lt hl) (by decide), q _ _ _ _ _ pp ((s.trans w w' s2).trans w w2 s3) w3 .non⟩
/-! ### loops -/
/-- the heap's side of a loop's word -/
def LoopW (K : PySem.W.Frag) (H H1 : Hp) (M : Mem) (Inv : DSt → Mem → Prop) (σ : St) (H2 : Hp) : Prop := ∃ δ' M' H', Inv δ' M' ∧ Step H H1 M H' H2 M' ∧ EnvOk K H' σ δ' ∧ WOk K H' M' H2
theorem body_ok {g : TG} {x : SV} {D' : Ends} {H H1 : Hp} {I I' : DSt → Mem → Prop} {v : V} {σ' : St} {H' H2 : Hp} {δ' : DSt} {M' : Mem} (w : WOk K H M H1) (o : DEnds.Ok K D D' H H1 M)
    (s : Step H H1 M H' H2 M') (e' : EnvOk K H' σ' δ') (w' : WOk K H' M' H2) (vv : SVOk K H' v x)
    (h : dG K g x δ' M' fun δ2 M2 => dS K t { D with nx := I', ct := I', bk := D.nx } δ2 M2) :
    g v σ' H2 fun σ2 H3 => t { D' with nx := LoopW K H H1 M I', ct := LoopW K H H1 M I', bk := D'.nx } σ2 H3 :=
  h v σ' H' H2 e' w' vv _ fun δ2 M2 σ2 Ha Hb hS s2 e2 w2 => hS _ σ2 Ha Hb e2 w2
    ⟨fun δ3 M3 σ3 Hc Hd p s3 e3 w3 => ⟨δ3, M3, Hc, p, (s.trans w w' s2).trans w w2 s3, e3, w3⟩, fun r v Hc M3 Hd p s3 w3 vv => o.rt r v Hc M3 Hd p ((s.trans w w' s2).trans w w2 s3) w3 vv,
     fun δ3 M3 σ3 Hc Hd p s3 e3 w3 => o.nx δ3 M3 σ3 Hc Hd p ((s.trans w w' s2).trans w w2 s3) e3 w3, fun δ3 M3 σ3 Hc Hd p s3 e3 w3 => ⟨δ3, M3, Hc, p, (s.trans w w' s2).trans w w2 s3, e3, w3⟩⟩
theorem dS_range1 {ts : TA} {g : TG} (h : dA K ts δ M fun rs M1 => ∃ n : Int, rs = [.d (.int n)] ∧ (-100000 ≤ n ∧ n ≤ 100000) ∧ ∃ I : Nat → DSt → Mem → Prop, I 0 δ M1 ∧
      (∀ (i : Nat) δ' M', (i : Int) < n → I i δ' M' → dG K g (.d (.int (i : Int))) δ' M' fun δ2 M2 => dS K t { D with nx := I (i + 1), ct := I (i + 1), bk := D.nx } δ2 M2) ∧ ∀ δ' M', I n.toNat δ' M' → D.nx δ' M') :
    dS K (tFor (iRng1 ts) g t) D δ M := fun D' σ H H1 e w o =>
  h σ H H1 e w _ fun vs rs H' M' H2 hb s w' vv => by
    obtain ⟨n, rfl, hn, I, i0, it, ie⟩ := hb
    cases vv with
    | cons h1 h2 =>
      cases h2; cases h1
      refine ⟨n, rfl, by omega, by omega, for_range (lo := 0) (n := n.toNat) (fun i => LoopW K H H1 M (I i)) ⟨δ, M', H', i0, s, e.mono s.pure, w'⟩ (fun i σ' H3 hi p => ?_) fun σ' H3 p => ?_⟩
      · obtain ⟨δ', M2, Ha, p, s2, e2, w2⟩ := p
        rw [show (0 : Int) + (i : Int) = (i : Int) from Int.zero_add _]
        exact body_ok (I := I i) w o s2 e2 w2 (x := .d (.int (i : Int))) (.int _) (it i δ' M2 (by omega) p)
      · obtain ⟨δ', M2, Ha, p, s2, e2, w2⟩ := p
        exact o.nx δ' M2 σ' Ha H3 (ie _ _ p) s2 e2 w2
end
end Sd

namespace Sd
open PySem L2
section
variable {K : PySem.W.Frag} {δ : DSt} {M : Mem} {P : SV → Mem → Prop} {PB : Bool → Mem → Prop} {PD : DSt → Mem → Prop} {ta tb te : TE} {tt : TT} {t u : TS} {D : DEnds} {g : TG}
theorem dS_range2 {ts : TA} (h : dA K ts δ M fun rs M1 => ∃ lo n : Int, rs = [.d (.int lo), .d (.int n)] ∧ (-100000 ≤ lo ∧ lo ≤ 100000 ∧ -100000 ≤ n ∧ n ≤ 100000) ∧ ∃ I : Nat → DSt → Mem → Prop, I 0 δ M1 ∧
      (∀ (i : Nat) δ' M', lo + (i : Int) < n → I i δ' M' → dG K g (.d (.int (lo + (i : Int)))) δ' M' fun δ2 M2 => dS K t { D with nx := I (i + 1), ct := I (i + 1), bk := D.nx } δ2 M2) ∧ ∀ δ' M', I (n - lo).toNat δ' M' → D.nx δ' M') :
    dS K (tFor (iRng2 ts) g t) D δ M := fun D' σ H H1 e w o =>
  h σ H H1 e w _ fun vs rs H' M' H2 hb s w' vv => by
    obtain ⟨lo, n, rfl, hn, I, i0, it, ie⟩ := hb
    cases vv with
    | cons h1 h2 => cases h2 with
      | cons h2 h3 =>
        cases h3; cases h1; cases h2
        refine ⟨lo, n, rfl, ⟨by omega, by omega, by omega, by omega⟩, for_range (lo := lo) (n := (n - lo).toNat) (fun i => LoopW K H H1 M (I i)) ⟨δ, M', H', i0, s, e.mono s.pure, w'⟩ (fun i σ' H3 hi p => ?_) fun σ' H3 p => ?_⟩
        · obtain ⟨δ', M2, Ha, p, s2, e2, w2⟩ := p
          exact body_ok (I := I i) w o s2 e2 w2 (x := .d (.int (lo + (i : Int)))) (.int _) (it i δ' M2 (by omega) p)
        · obtain ⟨δ', M2, Ha, p, s2, e2, w2⟩ := p
          exact o.nx δ' M2 σ' Ha H3 (ie _ _ p) s2 e2 w2
theorem dS_forL {tl : TE} (h : dE K tl δ M fun r M1 => ∃ ds, r = .d (.list ds) ∧ ∃ I : Nat → DSt → Mem → Prop, I 0 δ M1 ∧
      (∀ (i : Nat) x δ' M', ds[i]? = some x → I i δ' M' → dG K g (.d x) δ' M' fun δ2 M2 => dS K t { D with nx := I (i + 1), ct := I (i + 1), bk := D.nx } δ2 M2) ∧ ∀ δ' M', I ds.length δ' M' → D.nx δ' M') :
    dS K (tFor (iList K tl) g t) D δ M := fun D' σ H H1 e w o =>
  h σ H H1 e w _ fun v r H' M' H2 hb s w' vv => by
    obtain ⟨ds, rfl, I, i0, it, ie⟩ := hb
    cases vv with
    | lst h1 h2 =>
      rename_i a xs
      refine ⟨a, rfl, ⟨xs, SqL.of (w'.ex _ _ h1)⟩, for_list (xs := xs) (fun i σ' H3 => ∃ δ' M2 Ha, I i δ' M2 ∧ Step H H1 M Ha H3 M2 ∧ EnvOk K Ha σ' δ' ∧ WOk K Ha M2 H3 ∧ Ex H' Ha) ⟨δ, M', H', i0, s, e.mono s.pure, w', Ex.refl _⟩ (fun i σ' H3 _ p => ?_) (fun i x σ' H3 hx p => ?_) fun σ' H3 p => ?_⟩
      · obtain ⟨δ', M2, Ha, p, s2, e2, w2, ex⟩ := p
        exact SqL.of (w2.ex _ _ (ex _ _ h1))
      · obtain ⟨δ', M2, Ha, p, s2, e2, w2, ex⟩ := p
        obtain ⟨d, hd, vd⟩ := h2.get hx
        refine (it i d δ' M2 hd p) x σ' Ha H3 e2 w2 (Dq.mono ex _ _ vd) _ fun δ2 M3 σ2 Hb Hc hS s3 e3 w3 => hS _ σ2 Hb Hc e3 w3
          ⟨fun δ3 M4 σ3 Hd He p s4 e4 w4 => ⟨δ3, M4, Hd, p, (s2.trans w w2 s3).trans w w3 s4, e4, w4, (ex.trans s3.pure).trans s4.pure⟩, fun r v Hd M4 He p s4 w4 vv => o.rt r v Hd M4 He p ((s2.trans w w2 s3).trans w w3 s4) w4 vv,
           fun δ3 M4 σ3 Hd He p s4 e4 w4 => o.nx δ3 M4 σ3 Hd He p ((s2.trans w w2 s3).trans w w3 s4) e4 w4, fun δ3 M4 σ3 Hd He p s4 e4 w4 => ⟨δ3, M4, Hd, p, (s2.trans w w2 s3).trans w w3 s4, e4, w4, (ex.trans s3.pure).trans s4.pure⟩⟩
      · obtain ⟨δ', M2, Ha, p, s2, e2, w2, ex⟩ := p
        rw [h2.length] at p
        exact o.nx δ' M2 σ' Ha H3 (ie _ _ p) s2 e2 w2
theorem dS_forT {tl : TE} (h : dE K tl δ M fun r M1 => ∃ ds, r = .d (.tuple ds) ∧ ∃ I : Nat → DSt → Mem → Prop, I 0 δ M1 ∧
      (∀ (i : Nat) x δ' M', ds[i]? = some x → I i δ' M' → dG K g (.d x) δ' M' fun δ2 M2 => dS K t { D with nx := I (i + 1), ct := I (i + 1), bk := D.nx } δ2 M2) ∧ ∀ δ' M', I ds.length δ' M' → D.nx δ' M') :
    dS K (tFor (iTup K tl) g t) D δ M := fun D' σ H H1 e w o =>
  h σ H H1 e w _ fun v r H' M' H2 hb s w' vv => by
    obtain ⟨ds, rfl, I, i0, it, ie⟩ := hb
    cases vv with
    | tup h1 h2 =>
      rename_i a xs
      refine ⟨a, rfl, ⟨xs, sqTx w'.ex h1⟩, for_tup (xs := xs) (fun i σ' H3 => ∃ δ' M2 Ha, I i δ' M2 ∧ Step H H1 M Ha H3 M2 ∧ EnvOk K Ha σ' δ' ∧ WOk K Ha M2 H3 ∧ Ex H' Ha) ⟨δ, M', H', i0, s, e.mono s.pure, w', Ex.refl _⟩ (fun i σ' H3 _ p => ?_) (fun i x σ' H3 hx p => ?_) fun σ' H3 p => ?_⟩
      · obtain ⟨δ', M2, Ha, p, s2, e2, w2, ex⟩ := p
        exact sqTx w2.ex (sqTx ex h1)
      · obtain ⟨δ', M2, Ha, p, s2, e2, w2, ex⟩ := p
        obtain ⟨d, hd, vd⟩ := h2.get hx
        refine (it i d δ' M2 hd p) x σ' Ha H3 e2 w2 (Dq.mono ex _ _ vd) _ fun δ2 M3 σ2 Hb Hc hS s3 e3 w3 => hS _ σ2 Hb Hc e3 w3
          ⟨fun δ3 M4 σ3 Hd He p s4 e4 w4 => ⟨δ3, M4, Hd, p, (s2.trans w w2 s3).trans w w3 s4, e4, w4, (ex.trans s3.pure).trans s4.pure⟩, fun r v Hd M4 He p s4 w4 vv => o.rt r v Hd M4 He p ((s2.trans w w2 s3).trans w w3 s4) w4 vv,
           fun δ3 M4 σ3 Hd He p s4 e4 w4 => o.nx δ3 M4 σ3 Hd He p ((s2.trans w w2 s3).trans w w3 s4) e4 w4, fun δ3 M4 σ3 Hd He p s4 e4 w4 => ⟨δ3, M4, Hd, p, (s2.trans w w2 s3).trans w w3 s4, e4, w4, (ex.trans s3.pure).trans s4.pure⟩⟩
      · obtain ⟨δ', M2, Ha, p, s2, e2, w2, ex⟩ := p
        rw [h2.length] at p
        exact o.nx δ' M2 σ' Ha H3 (ie _ _ p) s2 e2 w2
/-- over a list that may change, but does not while it is walked -/
def mdel (M : Mem) (a : Addr) : Mem := fun b => if b = a then none else M b
theorem mdel_same {a : Addr} : mdel M a a = none := by unfold mdel; rw [if_pos rfl]
theorem mdel_ne {a b : Addr} (h : b ≠ a) : mdel M a b = M b := by unfold mdel; rw [if_neg h]
theorem WOk.mdel {H H1 : Hp} {a : Addr} (w : WOk K H M H1) : WOk K H (mdel M a) H1 := ⟨w.ex, fun b ds h => by
  by_cases e : b = a
  · subst e; rw [mdel_same] at h; cases h
  · rw [mdel_ne e] at h; exact w.cell b ds h⟩
theorem dS_forM {tl : TE} (h : dE K tl δ M fun r M1 => ∃ a ds, r = .m a ∧ M1 a = some ds ∧ ∃ I : Nat → DSt → Mem → Prop, I 0 δ (mdel M1 a) ∧
      (∀ (i : Nat) x δ' M', ds[i]? = some x → I i δ' M' → dG K g (.d x) δ' M' fun δ2 M2 => dS K t { D with nx := I (i + 1), ct := I (i + 1), bk := fun _ _ => False } δ2 M2) ∧ ∀ δ' M', I ds.length δ' M' → D.nx δ' (mset M' a ds)) :
    dS K (tFor (iList K tl) g t) D δ M := fun D' σ H H1 e w o =>
  h σ H H1 e w _ fun v r H' M' H2 hb s w' vv => by
    obtain ⟨a, ds, rfl, hm, I, i0, it, ie⟩ := hb
    cases vv
    obtain ⟨hpn, xs, hp, h2⟩ := w'.cell a ds hm
    have wd : WOk K H' (mdel M' a) H2 := w'.mdel
    have back : ∀ {Ha H3 : Hp} {M2 : Mem}, Step H' H2 (mdel M' a) Ha H3 M2 → WOk K Ha M2 H3 → H3 a = some (.lst xs) ∧ Ha a = none ∧ M2 a = none ∧ Step H' H2 M' Ha H3 (mset M2 a ds) ∧ WOk K Ha (mset M2 a ds) H3 := fun {Ha H3 M2} s2 w2 => by
      have k1 := s2.keep a _ hp mdel_same
      obtain ⟨k2, k3⟩ := s2.new a hpn mdel_same (by rw [hp]; simp)
      refine ⟨k1, k2, k3, ⟨s2.pure, fun b o hb hn => s2.keep b o hb (by
        by_cases e : b = a
        · subst e; exact mdel_same
        · rw [mdel_ne e]; exact hn), fun b hb hn hh => ?_⟩, ⟨w2.ex, fun b fs hb => ?_⟩⟩
      · have e : b ≠ a := by rintro rfl; rw [hm] at hn; cases hn
        rw [mset_ne e]
        exact s2.new b hb (by rw [mdel_ne e]; exact hn) hh
      · by_cases e : b = a
        · subst e; rw [mset_same] at hb; cases hb
          exact ⟨k2, xs, k1, h2.mono s2.pure⟩
        · rw [mset_ne e] at hb; exact w2.cell b fs hb
    refine ⟨a, rfl, ⟨xs, SqL.of hp⟩, for_list (xs := xs) (fun i σ' H3 => ∃ δ' M2 Ha, I i δ' M2 ∧ Step H' H2 (mdel M' a) Ha H3 M2 ∧ EnvOk K Ha σ' δ' ∧ WOk K Ha M2 H3) ⟨δ, _, H', i0, Step.refl, e.mono s.pure, wd⟩ (fun i σ' H3 _ p => ?_) (fun i x σ' H3 hx p => ?_) fun σ' H3 p => ?_⟩
    · obtain ⟨δ', M2, Ha, p, s2, e2, w2⟩ := p
      exact SqL.of (back s2 w2).1
    · obtain ⟨δ', M2, Ha, p, s2, e2, w2⟩ := p
      obtain ⟨d, hd, vd⟩ := h2.get hx
      refine (it i d δ' M2 hd p) x σ' Ha H3 e2 w2 (Dq.mono s2.pure _ _ vd) _ fun δ2 M3 σ2 Hb Hc hS s3 e3 w3 => hS _ σ2 Hb Hc e3 w3
          ⟨fun δ3 M4 σ3 Hd He p s4 e4 w4 => ⟨δ3, M4, Hd, p, (s2.trans wd w2 s3).trans wd w3 s4, e4, w4⟩, fun r v Hd M4 He p s4 w4 vv => ?_,
           fun δ3 M4 σ3 Hd He p s4 e4 w4 => p.elim, fun δ3 M4 σ3 Hd He p s4 e4 w4 => ⟨δ3, M4, Hd, p, (s2.trans wd w2 s3).trans wd w3 s4, e4, w4⟩⟩
      have st := (s2.trans wd w2 s3).trans wd w3 s4
      obtain ⟨b1, b2, b3, b4, b5⟩ := back st w4
      refine o.rt r v Hd M4 He p (s.trans w w' ⟨b4.pure, b4.keep, fun b hb hn hh => ⟨(b4.new b hb hn hh).1, ?_⟩⟩) w4 vv
      have e : b ≠ a := by rintro rfl; rw [hm] at hn; cases hn
      have := (b4.new b hb hn hh).2
      rw [mset_ne e] at this
      exact this
    · obtain ⟨δ', M2, Ha, p, s2, e2, w2⟩ := p
      rw [h2.length] at p
      obtain ⟨b1, b2, b3, b4, b5⟩ := back s2 w2
      exact o.nx δ' _ σ' Ha H3 (ie _ _ p) (s.trans w w' b4) e2 b5
/-- while, by a word that falls -/
theorem dS_while (W : Nat → DSt → Mem → Prop) (m0 : Nat) (h0 : W m0 δ M)
    (h : ∀ m δ' M', W m δ' M' → dT K tt δ' M' fun b M2 => if b = true then dS K t { D with nx := fun δ3 M3 => ∃ m', m' < m ∧ W m' δ3 M3, ct := fun δ3 M3 => ∃ m', m' < m ∧ W m' δ3 M3, bk := D.nx } δ' M2 else D.nx δ' M2) :
    dS K (tWhile tt t) D δ M := fun D' σ H H1 e w o => by
  refine ⟨fun m σ' H2 => LoopW K H H1 M (W m) σ' H2, ⟨m0, δ, M, H, h0, Step.refl, e, w⟩, fun m σ' H2 p => ?_⟩
  obtain ⟨δ', M', H', p, s, e', w'⟩ := p
  refine h m δ' M' p σ' H' H2 e' w' _ fun b Ha M2 H3 q s2 w2 => ?_
  cases b with
  | true =>
    refine ⟨fun σ3 H4 => ∃ m', m' < m ∧ LoopW K H H1 M (W m') σ3 H4, fun σ3 H4 ⟨m', a, b⟩ => ⟨m', a, b⟩, q _ σ' Ha H3 (e'.mono s2.pure) w2
      ⟨fun δ3 M3 σ3 Hb H4 p s3 e3 w3 => ?_, fun r v Hb M3 H4 p s3 w3 vv => o.rt r v Hb M3 H4 p ((s.trans w w' s2).trans w w2 s3) w3 vv, fun δ3 M3 σ3 Hb H4 p s3 e3 w3 => o.nx δ3 M3 σ3 Hb H4 p ((s.trans w w' s2).trans w w2 s3) e3 w3, fun δ3 M3 σ3 Hb H4 p s3 e3 w3 => ?_⟩⟩
    · obtain ⟨m', hm, p⟩ := p
      exact ⟨m', hm, δ3, M3, Hb, p, (s.trans w w' s2).trans w w2 s3, e3, w3⟩
    · obtain ⟨m', hm, p⟩ := p
      exact ⟨m', hm, δ3, M3, Hb, p, (s.trans w w' s2).trans w w2 s3, e3, w3⟩
  | false => exact o.nx δ' M2 σ' Ha H3 q (s.trans w w' s2) (e'.mono s2.pure) w2
/-! ### truth of a list or tuple -/
theorem dT_tru (h : dE K ta δ M fun x M1 => ∃ ds, Seq M1 x ds ∧ PB (!ds.isEmpty) M1) : dT K (fun σ H Q => ta σ H fun x H' => ∃ k, TruV K x H' k ∧ Q k H') δ M PB := fun σ H H1 e w Q q =>
  h σ H H1 e w _ fun v x H' M' H2 hb s1 w1 vx => by
    obtain ⟨ds, sq, p⟩ := hb
    obtain ⟨a, vs, rfl, h1, h2⟩ := sq.sq w1 vx
    have el : vs.isEmpty = ds.isEmpty := by
      cases h2 <;> rfl
    refine ⟨!vs.isEmpty, ?_, by rw [el]; exact q _ H' M' H2 p s1 w1⟩
    rcases h1 with h1 | h1
    · exact .inl ⟨vs, SqL.of h1, rfl⟩
    · exact .inr (.inl ⟨vs, h1, rfl⟩)
/-! ### comprehensions -/
def GW (g : TG) (vs : List Nat) : Prop := ∀ x σ H Q, g x (wipe σ vs) H Q → g x (wipe σ vs) H fun σ2 H2 => wipe σ2 vs = wipe σ vs ∧ Q σ2 H2
theorem gw_name (j : Nat) : GW (gName j) [j] := fun x σ H Q h => ⟨by
  show (((σ.set j none).set j (some x)).set j none) = σ.set j none
  rw [List.set_set, List.set_set], h⟩
theorem gw_name2 (n i j : Nat) (hij : i ≠ j) : GW (gTup K n (gCons (gName i) (gCons (gName j) gNil))) [i, j] := fun x σ H Q h => by
  obtain ⟨a, xs, e1, e2, e3, v, r, e4, v2, r2, e5, e6, q⟩ := h
  refine ⟨a, xs, e1, e2, e3, v, r, e4, v2, r2, e5, e6, ?_, q⟩
  show (((((σ.set j none).set i none).set i (some v)).set j (some v2)).set j none).set i none = (σ.set j none).set i none
  rw [List.set_set, List.set_set]
  rw [List.set_comm _ _ hij, List.set_set, List.set_set]
def LcW (K : PySem.W.Frag) (H H1 : Hp) (M : Mem) (Dl : Addr) (I : List PyData → Mem → Prop) (n : Nat) (H2 : Hp) : Prop :=
  ∃ acc ds M' H', I ds M' ∧ ds.length ≤ n ∧ Step H H1 M H' H2 M' ∧ WOk K H' M' H2 ∧ H2 Dl = some (.lst acc) ∧ DqAll K H' acc ds ∧ H' Dl = none ∧ M' Dl = none
theorem lcw_start {H H1 : Hp} {Dl : Addr} {I : List PyData → Mem → Prop} (w : WOk K H M H1) (hD : H1 Dl = none) (i0 : I [] M) : LcW K H H1 M Dl I 0 (upd H1 Dl (.lst [])) := by
  obtain ⟨hm, w2, s2⟩ := laid_m w hD (ds := []) .nil
  have hH : H Dl = none := by
    cases q : H Dl with
    | none => rfl
    | some u => rw [w.ex Dl u q] at hD; cases hD
  refine ⟨[], [], M, H, i0, Nat.le_refl _, ⟨s2.pure, s2.keep, fun a h1 h2 h3 => ⟨h1, h2⟩⟩, ⟨w2.ex, fun a ds h => ?_⟩, upd_same, .nil, hH, hm⟩
  have e : a ≠ Dl := by rintro rfl; rw [hm] at h; cases h
  exact w2.cell a ds (by rw [mset_ne e]; exact h)
theorem lcw_turn {H H1 H2 : Hp} {Dl : Addr} {I I' : List PyData → Mem → Prop} {n : Nat} {vs : List Nat} {x : SV} {v : V} {σ : St} (hg : GW g vs) (hn : n < 50000) (w : WOk K H M H1) (e : EnvOk K H σ δ) (hD : H1 Dl = none) (p : LcW K H H1 M Dl I n H2)
    (vv : ∀ H', Ex H H' → SVOk K H' v x)
    (h : ∀ acc M', I acc M' → dG K g x (wipeD δ vs) M' fun δ2 M2 => dT K tt δ2 M2 fun b M3 => if b = true then dE K te δ2 M3 fun y M4 => ∃ d, y = .d d ∧ I' (acc ++ [d]) M4 else I' acc M3) :
    g v (wipe σ vs) H2 fun σ2 H3 => wipe σ2 vs = wipe σ vs ∧ tt σ2 H3 fun b H4 => if b = true then te σ2 H4 fun y H5 => ∃ acc, H5 Dl = some (.lst acc) ∧ acc.length < sizeLine ∧ LcW K H H1 M Dl I' (n + 1) (upd H5 Dl (.lst (acc ++ [y]))) else LcW K H H1 M Dl I' (n + 1) H4 := by
  obtain ⟨acc, ds, M', H', pi, hl, s, w', hDl, hacc, f1, f2⟩ := p
  refine hg v σ H2 _ ?_
  refine h ds M' pi v _ H' H2 ((e.mono s.pure).wipe vs) w' (vv H' s.pure) _ fun δ2 M2 σ2 Ha H3 ht s2 e2 w2 => ?_
  have k2 := s2.keep Dl _ hDl f2
  have n2 := s2.new Dl f1 f2 (by rw [hDl]; simp)
  refine ht σ2 Ha H3 e2 w2 _ fun b Hb M3 H4 hb s3 w3 => ?_
  have k3 := s3.keep Dl _ k2 n2.2
  have n3 := s3.new Dl n2.1 n2.2 (by rw [k2]; simp)
  cases b with
  | false => exact ⟨acc, ds, M3, Hb, hb, Nat.le_succ_of_le hl, (s.trans w w' s2).trans w w2 s3, w3, k3, hacc.mono (s2.pure.trans s3.pure), n3.1, n3.2⟩
  | true =>
    refine hb σ2 Hb H4 (e2.mono s3.pure) w3 _ fun y r Hc M4 H5 hy s4 w4 vy => ?_
    have k4 := s4.keep Dl _ k3 n3.2
    have n4 := s4.new Dl n3.1 n3.2 (by rw [k3]; simp)
    obtain ⟨d, rfl, hI⟩ := hy
    have ha : DqAll K Hc acc ds := hacc.mono ((s2.pure.trans s3.pure).trans s4.pure)
    have st := ((s.trans w w' s2).trans w w2 s3).trans w w3 s4
    refine ⟨acc, k4, by rw [ha.length]; exact Nat.lt_of_le_of_lt hl (Nat.lt_of_lt_of_le hn (by decide)), acc ++ [y], ds ++ [d], M4, Hc, hI, by rw [List.length_append]; show ds.length + 1 ≤ n + 1; omega, ⟨st.pure, fun a o h1 h2 => ?_, st.new⟩, ⟨fun a o h1 => ?_, fun a es h1 => ?_⟩, upd_same, ha.append (.cons vy .nil), n4.1, n4.2⟩
    · rw [upd_ne (ne_of_none h1 hD)]; exact st.keep a o h1 h2
    · rw [upd_ne (ne_of_none h1 n4.1)]; exact w4.ex a o h1
    · have e : a ≠ Dl := by rintro rfl; rw [n4.2] at h1; cases h1
      obtain ⟨q1, us, q2, q3⟩ := w4.cell a es h1
      exact ⟨q1, us, by rw [upd_ne e]; exact q2, q3⟩
/-- what a comprehension's list may be taken for -/
def Res (P : SV → Mem → Prop) (acc : List PyData) (M' : Mem) : Prop := P (.d (.list acc)) M' ∨ ∀ a, M' a = none → P (.m a) (mset M' a acc)
theorem lcw_end {H H1 H2 : Hp} {Dl : Addr} {I : List PyData → Mem → Prop} {n : Nat} {Q : VK} (w : WOk K H M H1) (hD : H1 Dl = none) (p : LcW K H H1 M Dl I n H2) (ie : ∀ acc M', I acc M' → Res P acc M')
    (q : ∀ v r H' M' H2, P r M' → Step H H1 M H' H2 M' → WOk K H' M' H2 → SVOk K H' v r → Q v H2) : Q (.ref Dl) H2 := by
  obtain ⟨acc, ds, M', H', pi, hl, s, w', hDl, hacc, f1, f2⟩ := p
  rcases ie ds M' pi with pp | pp
  · refine q _ _ (upd H' Dl (.lst acc)) M' H2 pp ⟨s.pure.trans (Ex.new f1), s.keep, fun a h1 h2 h3 => ?_⟩ ⟨fun a o h => ?_, fun a es h => ?_⟩ (.lst upd_same (hacc.mono (Ex.new f1)))
    · have e : a ≠ Dl := by rintro rfl; exact h3 hD
      rw [upd_ne e]; exact s.new a h1 h2 h3
    · by_cases e : a = Dl
      · subst e; rw [upd_same] at h; cases h; exact hDl
      · rw [upd_ne e] at h; exact w'.ex a o h
    · have e : a ≠ Dl := by rintro rfl; rw [f2] at h; cases h
      obtain ⟨q1, us, q2, q3⟩ := w'.cell a es h
      exact ⟨by rw [upd_ne e]; exact q1, us, q2, q3.mono (Ex.new f1)⟩
  · refine q _ _ H' (mset M' Dl ds) H2 (pp Dl f2) ⟨s.pure, s.keep, fun a h1 h2 h3 => ?_⟩ ⟨w'.ex, fun a es h => ?_⟩ rfl
    · have e : a ≠ Dl := by rintro rfl; exact h3 hD
      rw [mset_ne e]; exact s.new a h1 h2 h3
    · by_cases e : a = Dl
      · subst e; rw [mset_same] at h; cases h; exact ⟨f1, acc, hDl, hacc⟩
      · rw [mset_ne e] at h; exact w'.cell a es h
theorem dE_lcL {tl : TE} {vs : List Nat} (hg : GW g vs) (h : dE K tl δ M fun r M1 => ∃ ds, r = .d (.list ds) ∧ ds.length ≤ 40000 ∧ ∃ I : Nat → List PyData → Mem → Prop, I 0 [] M1 ∧
      (∀ (i : Nat) x acc M', ds[i]? = some x → I i acc M' → dG K g (.d x) (wipeD δ vs) M' fun δ2 M2 => dT K tt δ2 M2 fun b M3 => if b = true then dE K te δ2 M3 fun y M4 => ∃ d, y = .d d ∧ I (i + 1) (acc ++ [d]) M4 else I (i + 1) acc M3) ∧ ∀ acc M', I ds.length acc M' → Res P acc M') :
    dE K (tLc (iList K tl) g tt te vs) δ M P := fun σ H H1 e w Q q =>
  h σ H H1 e w _ fun v r H' M' H2 hb s w' vv => by
    obtain ⟨ds, rfl, hz, I, i0, it, ie⟩ := hb
    cases vv with
    | lst h1 h2 =>
      rename_i a xs
      refine ⟨a, rfl, ⟨xs, SqL.of (w'.ex _ _ h1)⟩, fun Dl hD => lc_list (xs := xs) (fun i => LcW K H' H2 M' Dl (I i) i) (lcw_start w' hD i0) (fun i H3 _ p => ?_) (fun i x H3 hx p => ?_) fun H3 p => ?_⟩
      · obtain ⟨_, _, _, _, _, _, s3, w3, _⟩ := p
        exact SqL.of (w3.ex _ _ (s3.pure _ _ h1))
      · obtain ⟨d, hd, vd⟩ := h2.get hx
        have hi := (List.getElem?_eq_some_iff.mp hd).1
        exact lcw_turn (x := .d d) hg (by omega) w' (e.mono s.pure) hD p (fun H' ex => Dq.mono ex _ _ vd) (fun acc M' hI => it i d acc M' hd hI)
      · rw [h2.length] at p
        exact lcw_end w' hD p ie fun v r Ha Ma Hb pp s3 w3 vr => q v r Ha Ma Hb pp (s.trans w w' s3) w3 vr
theorem dE_lcT {tl : TE} {vs : List Nat} (hg : GW g vs) (h : dE K tl δ M fun r M1 => ∃ ds, r = .d (.tuple ds) ∧ ds.length ≤ 40000 ∧ ∃ I : Nat → List PyData → Mem → Prop, I 0 [] M1 ∧
      (∀ (i : Nat) x acc M', ds[i]? = some x → I i acc M' → dG K g (.d x) (wipeD δ vs) M' fun δ2 M2 => dT K tt δ2 M2 fun b M3 => if b = true then dE K te δ2 M3 fun y M4 => ∃ d, y = .d d ∧ I (i + 1) (acc ++ [d]) M4 else I (i + 1) acc M3) ∧ ∀ acc M', I ds.length acc M' → Res P acc M') :
    dE K (tLc (iTup K tl) g tt te vs) δ M P := fun σ H H1 e w Q q =>
  h σ H H1 e w _ fun v r H' M' H2 hb s w' vv => by
    obtain ⟨ds, rfl, hz, I, i0, it, ie⟩ := hb
    cases vv with
    | tup h1 h2 =>
      rename_i a xs
      refine ⟨a, rfl, ⟨xs, sqTx w'.ex h1⟩, fun Dl hD => lc_tup (xs := xs) (fun i => LcW K H' H2 M' Dl (I i) i) (lcw_start w' hD i0) (fun i H3 _ p => ?_) (fun i x H3 hx p => ?_) fun H3 p => ?_⟩
      · obtain ⟨_, _, _, _, _, _, s3, w3, _⟩ := p
        exact sqTx w3.ex (sqTx s3.pure h1)
      · obtain ⟨d, hd, vd⟩ := h2.get hx
        have hi := (List.getElem?_eq_some_iff.mp hd).1
        exact lcw_turn (x := .d d) hg (by omega) w' (e.mono s.pure) hD p (fun H' ex => Dq.mono ex _ _ vd) (fun acc M' hI => it i d acc M' hd hI)
      · rw [h2.length] at p
        exact lcw_end w' hD p ie fun v r Ha Ma Hb pp s3 w3 vr => q v r Ha Ma Hb pp (s.trans w w' s3) w3 vr
theorem dE_lcR {ts : TA} {vs : List Nat} (hg : GW g vs) (h : dA K ts δ M fun rs M1 => ∃ n : Int, rs = [.d (.int n)] ∧ (-100000 ≤ n ∧ n ≤ 40000) ∧ ∃ I : Nat → List PyData → Mem → Prop, I 0 [] M1 ∧
      (∀ (i : Nat) acc M', (i : Int) < n → I i acc M' → dG K g (.d (.int (i : Int))) (wipeD δ vs) M' fun δ2 M2 => dT K tt δ2 M2 fun b M3 => if b = true then dE K te δ2 M3 fun y M4 => ∃ d, y = .d d ∧ I (i + 1) (acc ++ [d]) M4 else I (i + 1) acc M3) ∧ ∀ acc M', I n.toNat acc M' → Res P acc M') :
    dE K (tLc (iRng1 ts) g tt te vs) δ M P := fun σ H H1 e w Q q =>
  h σ H H1 e w _ fun vs' rs H' M' H2 hb s w' vv => by
    obtain ⟨n, rfl, hz, I, i0, it, ie⟩ := hb
    cases vv with
    | cons h1 h2 =>
      cases h2; cases h1
      refine ⟨n, rfl, by omega, by omega, fun Dl hD => lc_range (lo := 0) (n := n.toNat) (fun i => LcW K H' H2 M' Dl (I i) i) (lcw_start w' hD i0) (fun i H3 hx p => ?_) fun H3 p => ?_⟩
      · rw [show (0 : Int) + (i : Int) = (i : Int) from Int.zero_add _]
        exact lcw_turn (x := .d (.int (i : Int))) hg (by omega) w' (e.mono s.pure) hD p (fun H' ex => .int _) (fun acc M' hI => it i acc M' (by omega) hI)
      · exact lcw_end w' hD p ie fun v r Ha Ma Hb pp s3 w3 vr => q v r Ha Ma Hb pp (s.trans w w' s3) w3 vr
theorem dT_yes (h : PB true M) : dT K tYes δ M PB := fun σ H H1 e w Q q => q true H M H1 h Step.refl w
/-! ### a def -/
def startD (n : Nat) (rs : List SV) : DSt := rs.map some ++ List.replicate (n - rs.length) none
theorem SVsOk.length {H : Hp} : ∀ {vs : List V} {rs : List SV}, SVsOk K H vs rs → vs.length = rs.length
  | _, _, .nil => rfl
  | _, _, .cons _ t => by rw [List.length_cons, List.length_cons, SVsOk.length t]
theorem SVsOk.get {H : Hp} : ∀ {vs : List V} {rs : List SV} {i : Nat} {r : SV}, SVsOk K H vs rs → rs[i]? = some r → ∃ v, vs[i]? = some v ∧ SVOk K H v r
  | _, _, _, _, .nil, e => by simp at e
  | _, _, 0, _, .cons h _, e => by simp at e; subst e; exact ⟨_, rfl, h⟩
  | _, _, i + 1, r, .cons _ t, e => by
    simp at e
    obtain ⟨v, q1, q2⟩ := SVsOk.get t e
    exact ⟨v, by simpa using q1, q2⟩
theorem start_ok {H : Hp} {vs : List V} {rs : List SV} {N : List Str} (h : SVsOk K H vs rs) : EnvOk K H (L2.start N vs) (startD N.length rs) := by
  refine ⟨?_, fun i r q => ?_⟩
  · unfold L2.start startD
    rw [List.length_append, List.length_append, List.length_map, List.length_map, List.length_replicate, List.length_replicate, h.length]
  · unfold startD at q
    unfold L2.start
    by_cases hi : i < rs.length
    · rw [List.getElem?_append_left (by rw [List.length_map]; exact hi), List.getElem?_map] at q
      cases q2 : rs[i]? with
      | none => rw [q2] at q; cases q
      | some r' =>
        rw [q2] at q
        cases q
        obtain ⟨v, e1, e2⟩ := h.get q2
        refine ⟨v, ?_, e2⟩
        rw [List.getElem?_append_left (by rw [List.length_map, h.length]; exact hi), List.getElem?_map, e1]
        rfl
    · rw [List.getElem?_append_right (by rw [List.length_map]; omega)] at q
      have := List.mem_of_getElem? q
      rw [List.mem_replicate] at this
      cases this.2
def MSub (M0 M' : Mem) : Prop := ∀ a ds, M0 a = some ds → M' a = some ds
theorem MSub.refl : MSub M M := fun _ _ h => h
/-- back, the def's own lists forgotten -/
def rtOf (P : SV → Mem → Prop) (r : SV) (M' : Mem) : Prop := ∃ M0, P r M0 ∧ MSub M0 M'
theorem rtOf.of {r : SV} (h : P r M) : rtOf P r M := ⟨M, h, MSub.refl⟩
theorem msub_set {M0 : Mem} {a : Addr} {ds : List PyData} (s : MSub M0 M) (h : M0 a = none) : MSub M0 (mset M a ds) := fun b es e => by
  have n : b ≠ a := by rintro rfl; rw [h] at e; cases e
  rw [mset_ne n]
  exact s b es e
theorem ok_of {P0 : Program} {w0 : World} {mg : Str → Option Value} {base : Heap} {x qual : Str} {st : Stmt} {f : Addr} {fd : FuncData} {N ps : List Str} {k : Nat} {S : SpD} (F : Fun K x qual st f fd) (sc : FnScope N ps (defScope st)) (len : ∀ rs M P, S rs M P → rs.length = ps.length)
    (hbody : ∀ (cdv : Value) (A : Around) (outer : List Env) (s : Shared) (H : Hp) (E : XK), Room k (A.deeper (PyProof.Rows.envOfC qual (defScope st) s.heap.objs.size f cdv)) →
      ∃ t, PSs (cxOf CX0 P0 w0 K mg base N qual (defScope st) f cdv A outer s H E).nox (defBody st) t ∧ ∀ rs M P, S rs M P → dS K t { nx := fun _ M' => rtOf P (.d .none) M', rt := rtOf P } (startD N.length rs) M) :
    FnOk P0 w0 K mg base CX0 (k + 1) f fd ps (spOf K S) := by
  refine F.ok sc (fun vs H Q E h => ?_) (fun cdv A outer s H vs Q E hr h => ?_)
  · obtain ⟨rs, H', M, P, _, v, hS, _⟩ := h
    rw [v.length]
    exact len rs M P hS
  · obtain ⟨rs, H', M, P, wk, v, hS, q⟩ := h
    obtain ⟨t, h1, h2⟩ := hbody cdv A outer s H E hr
    have cut : ∀ {H2 H3 : Hp} {M0 M' : Mem}, MSub M0 M' → Step H' H M H2 H3 M' → WOk K H2 M' H3 → Step H' H M H2 H3 M0 ∧ WOk K H2 M0 H3 := fun {H2 H3 M0 M'} ms st wk => by
      refine ⟨⟨st.pure, st.keep, fun a h1 h2 h3 => ⟨(st.new a h1 h2 h3).1, ?_⟩⟩, ⟨wk.ex, fun a ds h => wk.cell a ds (ms a ds h)⟩⟩
      cases q : M0 a with
      | none => rfl
      | some ds =>
        have z := (st.new a h1 h2 h3).2
        rw [ms a ds q] at z; cases z
    refine ⟨t, h1, h2 rs M P hS _ (L2.start N vs) H' H (start_ok v) wk ⟨fun δ' M' σ' H2 H3 p st e w' => ?_, fun r v H2 M' H3 p st w' vv => ?_, fun _ _ _ _ _ p => p.elim, fun _ _ _ _ _ p => p.elim⟩⟩
    · obtain ⟨M0, p, ms⟩ := p
      obtain ⟨s1, w1⟩ := cut ms st w'
      exact q _ _ H2 M0 H3 p s1 w1 .non
    · obtain ⟨M0, p, ms⟩ := p
      obtain ⟨s1, w1⟩ := cut ms st w'
      exact q _ _ H2 M0 H3 p s1 w1 vv
/-- a promise that asks more, or wants less -/
theorem spOf.imp {S S' : SpD} (h : ∀ rs M P, S' rs M P → S rs M P) : ∀ vs H Q E, spOf K S' vs H Q E → spOf K S vs H Q E := fun vs H Q E ⟨rs, H', M, P, a, b, c, d⟩ => ⟨rs, H', M, P, a, b, h _ _ _ c, d⟩
end
end Sd

namespace Sd
open PySem L2 PyProof.Rows
/-! ### a def as others call it -/
structure Has (P : Program) (w : World) (K : PySem.W.Frag) (mg : Str → Option Value) (base : Heap) (k : Nat) (x : Str) (ps : List Str) (S : SpD) : Prop where
  ex : ∃ f fd, FnOk P w K mg base CX0 k f fd ps (spOf K S) ∧ mg x = some (.ref f) ∧ PySem.W.keepIn K (.ref f) = true ∧ Binds K fd ps []
theorem Has.imp {P : Program} {w : World} {K : PySem.W.Frag} {mg : Str → Option Value} {base : Heap} {k : Nat} {x : Str} {ps : List Str} {S S' : SpD} (h : Has P w K mg base k x ps S) (i : ∀ rs M P, S' rs M P → S rs M P) : Has P w K mg base k x ps S' := by
  obtain ⟨f, fd, a, b, c, d⟩ := h.ex
  exact ⟨f, fd, a.imp (spOf.imp i), b, c, d⟩
theorem pe_callH {X : Cx} {k : Nat} {x : Str} {ps : List Str} {S : SpD} {p pos : Pos} {e : Expr} {es : List Expr} {t : TA} (h : Has X.prog X.w X.K X.mg X.base k x ps S) (hr : Room k X.A) (hg : Gl X x) (ha : PA X (e :: es) t)
    (hdb : (x == ("__debug__" : Str)) = false := by decide) (he : starEach (e :: es) X.env = (false, eval e X.env) :: starEach es X.env := by rfl) (hpl : (backTo pos (starEach es X.env)).any (·.1) = false := by rfl) :
    PE X (.Call (.Name x p) (e :: es) [] pos) (tCall (spOf X.K S) [] E0 t) := by
  obtain ⟨f, fd, a, b, c, d⟩ := h.ex
  exact pe_call a hr hg b c d .nil pass0 ha hdb he hpl
/-! ### sorted(xs), xs a list of data -/
def rSortedD (K : PySem.W.Frag) : List V → Hp → VK → Prop := fun vs H Q => ∃ (a : Addr) (zs : List (V × PyData)), vs = [V.ref a] ∧ SqL K H a (zs.map Prod.fst) ∧ (∀ z ∈ zs, Dp K H z.1 z.2) ∧ PySem.W.AllAlike (zs.map Prod.snd) ∧ PySem.W.Sortable (zs.map Prod.snd) ∧
  (∀ z ∈ zs, z.2.depth ≤ 60) ∧ ∀ p, H p = none → Q (.ref p) (upd H p (.lst ((zs.mergeSort (PySem.W.dataLe false Prod.snd)).map Prod.fst)))
theorem each_vals : ∀ {us : List Value} {zs : List (V × PyData)}, Vals (zs.map Prod.fst) us → PySem.W.EachIs (fun v (z : V × PyData) => RelV z.1 v) us zs
  | _, [], h => by cases h; exact .nil
  | _, z :: zs, h => by
    cases h with
    | cons h1 h2 => exact .cons h1 (each_vals h2)
theorem vals_each : ∀ {us : List Value} {zs : List (V × PyData)}, PySem.W.EachIs (fun v (z : V × PyData) => RelV z.1 v) us zs → Vals (zs.map Prod.fst) us
  | _, _, .nil => .nil
  | _, _, .cons h t => .cons h (vals_each t)
theorem each_reads {X : Cx} {pins : List (Addr × Obj)} {σ : L2.St} {H : Hp} {s : Shared} (I : L2.Inv X pins σ H s) : ∀ {us : List Value} {zs : List (V × PyData)}, Vals (zs.map Prod.fst) us → (∀ z ∈ zs, Dp X.K H z.1 z.2) → PySem.W.EachIs (fun v (z : V × PyData) => ∃ as, Reads s.heap v z.2 as) us zs
  | _, [], h, _ => by cases h; exact .nil
  | _, z :: zs, h, hd => by
    cases h with
    | cons h1 h2 => exact .cons (Dp.reads I z.2 z.1 _ (hd z List.mem_cons_self) h1) (each_reads I h2 fun y hy => hd y (List.mem_cons_of_mem _ hy))
theorem cr_sortedD {X : Cx} {k : Nat} (hr : Room k X.A) : CallR X (.builtin "sorted") (rSortedD X.K) := by
  intro pins s σ H vs us Q I r h
  obtain ⟨a, zs, rfl, hs, hd, hal, hso, hdp, q⟩ := h
  obtain ⟨its, rv, hl, hz⟩ := I.list hs
  rw [Vals.ref1 r]
  have hz' : zs.length ≤ sizeLine := by rw [List.length_map] at hz; exact hz
  refine PySem.W.sorted_data (enc := Prod.snd) (R := fun v (z : V × PyData) => RelV z.1 v) (bs := zs) hl.isList (each_vals rv) (each_reads I rv hd) hal hso hz' (fun b hb => ?_) fun out h1 h2 => ?_
  · have := hr.un
    have := hdp b hb
    omega
  · obtain ⟨ep, he'⟩ := PyProof.Rows.sortedAll_at s.heap its out.toArray
    have rv2 := vals_each h2
    have hlen : ((zs.mergeSort (PySem.W.dataLe false Prod.snd)).map Prod.fst).length ≤ sizeLine := by rw [List.length_map, List.length_mergeSort]; exact hz'
    exact ⟨.ref _, upd H (s.heap.objs.size + 1) (.lst ((zs.mergeSort (PySem.W.dataLe false Prod.snd)).map Prod.fst)), I.laid (t' := s.toks) (fun _ _ => PyProof.Rows.sortedAll_old) (Nat.le_succ _) ⟨hlen, out, ep, rv2, he'⟩, rfl, q _ (I.hok.fresh (Nat.le_succ _))⟩
/-! ### sorted(xs, key=f), f a def that hands back an item of a tuple -/
/-- a call of f keeps all and gives the key -/
def KeyFn (P : Program) (w : World) (K : PySem.W.Frag) (f : Addr) (key : PyData → Option Int) : Prop := ∀ (A : Around) (s : Shared) (v : Value) (d : PyData) (as : List Addr) (n : Int), Room 1 A → K.In s.heap → s.heap.NoLimit → Reads s.heap v d as → key d = some n →
  wpAny (model P w) A (call (.ref f) [v]) (PySem.W.KeyPure (.int n) s) (fun _ _ => False) s
def rSortedF (K : PySem.W.Frag) (f : Addr) (key : PyData → Option Int) : List V → List V → Hp → VK → Prop := fun vs ks H Q => ∃ (a : Addr) (zs : List (V × PyData × Int)), vs = [V.ref a] ∧ ks = [V.ref f] ∧ SqL K H a (zs.map Prod.fst) ∧ (∀ z ∈ zs, Dp K H z.1 z.2.1 ∧ key z.2.1 = some z.2.2) ∧
  ∀ p, H p = none → Q (.ref p) (upd H p (.lst ((zs.mergeSort (PySem.W.dataLe false fun z => .int z.2.2)).map Prod.fst)))
theorem each_vals3 : ∀ {us : List Value} {zs : List (V × PyData × Int)}, Vals (zs.map Prod.fst) us → PySem.W.EachIs (fun v (z : V × PyData × Int) => RelV z.1 v) us zs
  | _, [], h => by cases h; exact .nil
  | _, z :: zs, h => by
    cases h with
    | cons h1 h2 => exact .cons h1 (each_vals3 h2)
theorem vals_each3 : ∀ {us : List Value} {zs : List (V × PyData × Int)}, PySem.W.EachIs (fun v (z : V × PyData × Int) => RelV z.1 v) us zs → Vals (zs.map Prod.fst) us
  | _, _, .nil => .nil
  | _, _, .cons h t => .cons h (vals_each3 t)
theorem cr_sortedF {X : Cx} {k : Nat} {f : Addr} {key : PyData → Option Int} (hf : KeyFn X.prog X.w X.K f key) (hr : Room k X.A) (hk : 3 ≤ k) : CallRK X (.builtin "sorted") [Str.ofString "key"] (rSortedF X.K f key) := by
  intro pins s σ H vs ks us ws Q I r rk h
  obtain ⟨a, zs, rfl, rfl, hs, hd, q⟩ := h
  obtain ⟨its, rv, hl, hz⟩ := I.list hs
  obtain ⟨u, rfl, ru⟩ := vals1 r
  obtain ⟨w1, rfl, rw1⟩ := vals1 rk
  cases ru
  cases rw1
  have hz' : zs.length ≤ sizeLine := by rw [List.length_map] at hz; exact hz
  have hr3 : Room 3 X.A := hr.mono hk
  refine PySem.W.sorted_key_data (b := false) (R := fun v (z : V × PyData × Int) => RelV z.1 v) (bs := zs) (fun z => .int z.2.2) hl.isList (each_vals3 rv) ?_ ?_ hz' (fun z hz => ?_) (PyProof.Rows.ksk_s1 _ _) (fun _ => PyProof.Rows.ksk_l1 _ _) (fun _ => PyProof.Rows.ksk_t1 _ _) (fun v z hv hzm h tk kp => ?_) fun out c h' tk kp hfr hat hlen he => ?_
  · intro d hd1 d' hd2
    obtain ⟨z1, _, rfl⟩ := List.mem_map.mp hd1
    obtain ⟨z2, _, rfl⟩ := List.mem_map.mp hd2
    rfl
  · refine .inr fun d hd1 => ?_
    obtain ⟨z1, _, rfl⟩ := List.mem_map.mp hd1
    exact ⟨fun e => PyData.noConfusion e, fun xs e => PyData.noConfusion e⟩
  · have := hr.un
    show X.A.units + 2 + 0 < cLine
    omega
  · obtain ⟨hd1, hd2⟩ := hd z hzm
    obtain ⟨as, hrd⟩ := Dp.reads I z.2.1 z.1 v hd1 hv
    exact hf X.A.in1.in1 _ v z.2.1 as z.2.2 (Room.in1 (Room.in1 hr3)) (I.kIn.keeps kp) (I.nolimit.keeps kp) (PyProof.Rows.Reads.keeps kp hrd) hd2
  · have rv2 := vals_each3 he
    have hlen2 : ((zs.mergeSort (PySem.W.dataLe false fun z => .int z.2.2)).map Prod.fst).length ≤ sizeLine := by rw [List.length_map, List.length_mergeSort]; exact hz'
    exact ⟨.ref _, upd H (s.heap.objs.size + 1) (.lst ((zs.mergeSort (PySem.W.dataLe false fun z => .int z.2.2)).map Prod.fst)), I.laid (t' := tk) kp (Nat.le_succ _) ⟨hlen2, out, c, rv2, hat⟩, rfl, q _ (I.hok.fresh (Nat.le_succ _))⟩
theorem reads_len {h : Heap} : ∀ {vs : List Value} {ds : List PyData} {as : List Addr}, ReadsAll h vs ds as → vs.length = ds.length
  | [], _, _, r => by cases r; rfl
  | v :: vs, _, _, r => by
    cases r with
    | cons _ r2 => rw [List.length_cons, List.length_cons, reads_len r2]
theorem reads_at {h : Heap} {n : Int} : ∀ {vs : List Value} {ds : List PyData} {as : List Addr} {i : Nat}, ReadsAll h vs ds as → ds[i]? = some (.int n) → ∃ u, vs[i]? = some u ∧ ∃ t, u = .int n t
  | [], _, _, _, r, e => by cases r; simp at e
  | v :: vs, _, _, i, r, e => by
    cases r with
    | cons r1 r2 =>
      cases i with
      | zero =>
        simp at e
        subst e
        cases r1
        exact ⟨_, rfl, _, rfl⟩
      | succ i =>
        simp at e
        obtain ⟨u, q1, q2⟩ := reads_at r2 e
        exact ⟨u, by simpa using q1, q2⟩
def asInt : PyData → Option Int
  | .int n => some n
  | _ => none
def itemKey (i : Nat) : PyData → Option Int
  | .tuple ds => ds[i]?.bind asInt
  | _ => none
/-- def f(x): return x[i], a tuple's item -/
theorem key_item {P : Program} {w : World} {K : PySem.W.Frag} {x qual a : Str} {st : Stmt} {f : Addr} {fd : FuncData} {i : Nat} {pn pc pb pr : Pos} {kc : Nat} (F : Fun K x qual st f fd) (S : FnScope [a] [a] (defScope st)) (hb : Binds K fd [a] [])
    (body : defBody st = [.Return (some (.Subscript (.Name a pn) (.Constant (.int (i : Int)) kc pc) pb)) pr]) (hloc : (defScope st).names.lookup a = some .local) (hi : (i : Int) < 1000) (hda : (a == ("__debug__" : Str)) = false) (hcd' : (a == ("__classdict__" : Str)) = false) :
    KeyFn P w K f (itemKey i) := by
  intro A s v d as n hr KX lim hrd hkey
  obtain ⟨oc, od, kV, doc, pm, an, cdv, ct, osl, rfl, lk, hcd⟩ := F.ex
  cases d with
  | tuple ds =>
    have hkey' : ds[i]?.bind asInt = some n := hkey
    have hn : ds[i]? = some (.int n) := by
      revert hkey'
      cases ds[i]? with
      | none => intro h; cases h
      | some e => cases e <;> intro h <;> first | (cases h; rfl) | cases h
    have hkind : ∀ y ∈ ([a] : List Str).zip [v], (defScope st).names.lookup y.1 = some .local ∨ ((defScope st).names.lookup y.1 = some .cell ∧ ((cellsFrom (s.heap.objs.size + 1) (defScope st).names []).lookup y.1).isSome = true) := fun y hy => by
      simp at hy
      subst hy
      exact .inl hloc
    refine wpAny_call (codeAny_call_function hr.depth (KX _ _ lk) rfl S.co S.gen rfl (PySem.W.codeRec_of KX hcd) (hb s [v] KX rfl _ _ _ _ ?_))
    refine wpAny_newFunctionEnv_cells S.kind hkind fun env he s1 x => ?_
    subst he
    refine ⟨lim.keeps x.toInCall.keep, codeAny_func ?_⟩
    rw [body]
    obtain ⟨h1, tk1, e1, hk1⟩ := x.done
    have hns := x.toInCall.ns
    have hm : bindL (PyProof.Rows.envOfC qual (defScope st) s.heap.objs.size f cdv).kindOf ([a].zip [v]) (fun _ => none) a = some v := bindL_get (P := [a]) (vs := [v]) (i := 0) S.nd rfl rfl hloc
    cases hrd with
    | tuple ho hc hd hra =>
      rename_i ad o vs nn
      have ht : PyProof.Rows.IsTup s1.heap ad vs := ⟨o, x.toInCall.keep _ _ ho, hc, nn, hd⟩
      obtain ⟨u, hu, t, hut⟩ := reads_at hra hn
      subst hut
      have hl : vs.size = ds.length := by rw [← Array.length_toList]; exact reads_len hra
      have hil : i < ds.length := (List.getElem?_eq_some_iff.mp hn).1
      refine wpAny_execs_cons (wpAny_Return_some (Subscript_ (wpAny_Name (wpAny_loadName_local S.kind hloc hns hm ?_) hda)))
      refine wpAny_Constant_int ?_
      refine subscriptTail_builtinR (x := .int n t) (T := "tuple") (PyProof.Rows.IsTup.typeIs (s := { s1 with toks := s1.toks + 1 }) ht) PyProof.Rows.slot_tuple_getitem.lookup (getItem_tuple (j := i) (x := .int n t) (s := { s1 with toks := s1.toks + 1 }) ht (by omega) (by omega) ?_ ?_ ⟨rfl, ?_⟩) (by rfl)
      · show seqIndex? (i : Int) vs.size = some i
        rw [hl]
        refine (ixN_seq (n := ds.length) (i := (i : Int)) (j := i) ?_).1
        unfold ixN
        rw [if_pos (by omega), if_pos (by omega)]
        simp
      · rw [← Array.getElem?_toList]; exact hu
      · subst e1
        exact ⟨h1, tk1 + 1, rfl, hk1, .int n t⟩
  | _ => cases hkey
end Sd

namespace Sd
open PySem L2
section
variable {K : PySem.W.Frag} {δ : DSt} {M : Mem} {P : SV → Mem → Prop} {ta te : TE}
theorem dE_ref {f : Addr} (p : P (.m f) M) : dE K (tC (.ref f)) δ M P := fun σ H H1 e w Q q => q _ _ H M H1 p Step.refl w rfl
theorem zip_fst {H : Hp} : ∀ {vs : List V} {ds : List PyData}, DqAll K H vs ds → (vs.zip ds).map Prod.fst = vs
  | _, [], h => by cases h; rfl
  | _, d :: ds, h => by
    cases h with
    | cons h1 h2 => rw [List.zip_cons_cons, List.map_cons, zip_fst h2]
theorem zip_snd {H : Hp} : ∀ {vs : List V} {ds : List PyData}, DqAll K H vs ds → (vs.zip ds).map Prod.snd = ds
  | _, [], h => by cases h; rfl
  | _, d :: ds, h => by
    cases h with
    | cons h1 h2 => rw [List.zip_cons_cons, List.map_cons, zip_snd h2]
theorem zip_dq {H : Hp} : ∀ {vs : List V} {ds : List PyData}, DqAll K H vs ds → ∀ z ∈ vs.zip ds, Dq K H z.1 z.2
  | _, [], h, z, hz => by cases h; simp at hz
  | _, d :: ds, h, z, hz => by
    cases h with
    | cons h1 h2 =>
      rw [List.zip_cons_cons] at hz
      rcases List.mem_cons.mp hz with rfl | hz
      · exact h1
      · exact zip_dq h2 z hz
theorem dq_of_zip {H : Hp} : ∀ {zs : List (V × PyData)}, (∀ z ∈ zs, Dq K H z.1 z.2) → DqAll K H (zs.map Prod.fst) (zs.map Prod.snd)
  | [], _ => .nil
  | z :: zs, h => .cons (h z List.mem_cons_self) (dq_of_zip fun y hy => h y (List.mem_cons_of_mem _ hy))
theorem dC_sortedD {x : SV} {ds : List PyData} (s : SeqL M x ds) (hal : PySem.W.AllAlike ds) (hso : PySem.W.Sortable ds) (hdp : ∀ d ∈ ds, d.depth ≤ 60) (p : P (.d (.list (ds.mergeSort (PySem.W.dataLe false id)))) M) : dC K (rSortedD K) [x] M P := fun vs H H1 hv wk Q q => by
  cases hv with
  | cons h t =>
    cases t
    obtain ⟨a, vs, rfl, h1, h2⟩ := s.sq wk h
    refine ⟨a, vs.zip ds, rfl, by rw [zip_fst h2]; exact SqL.of h1, fun z hz => Dq.dp _ _ (Dq.mono wk.ex _ _ (zip_dq h2 z hz)), by rw [zip_snd h2]; exact hal, by rw [zip_snd h2]; exact hso, fun z hz => hdp z.2 (by rw [← zip_snd h2]; exact List.mem_map.mpr ⟨z, hz, rfl⟩), fun l hl => ?_⟩
    obtain ⟨w2, s2⟩ := laid_ok (o := .lst (((vs.zip ds).mergeSort (PySem.W.dataLe false Prod.snd)).map Prod.fst)) wk hl
    have hd := dq_of_zip (H := H) (zs := (vs.zip ds).mergeSort (PySem.W.dataLe false Prod.snd)) fun z hz => zip_dq h2 z (List.mem_mergeSort.mp hz)
    rw [List.map_mergeSort (f := Prod.snd) (r := PySem.W.dataLe false Prod.snd) (s := PySem.W.dataLe false id) (fun a _ b _ => rfl), zip_snd h2] at hd
    exact q _ _ _ M _ p s2 w2 (.lst upd_same (DqAll.mono s2.pure _ _ hd))
def dK (K : PySem.W.Frag) (r : List V → List V → Hp → VK → Prop) (xs ks : List SV) (M : Mem) (P : SV → Mem → Prop) : Prop := ∀ (vs ws : List V) (H H1 : Hp), SVsOk K H vs xs → SVsOk K H ws ks → WOk K H M H1 → ∀ Q : VK,
  (∀ v r H' M' H2, P r M' → Step H H1 M H' H2 M' → WOk K H' M' H2 → SVOk K H' v r → Q v H2) → r vs ws H1 Q
theorem dE_kw {r : List V → List V → Hp → VK → Prop} {ts tk : TA} (h : dA K ts δ M fun xs M1 => dA K tk δ M1 fun ks M2 => dK K r xs ks M2 P) : dE K (tCKw r ts tk) δ M P := fun σ H H1 e w Q q =>
  h σ H H1 e w _ fun vs xs H' M' H2 hc s1 w1 vxs => hc σ H' H2 (e.mono s1.pure) w1 _ fun ws ks H'' M'' H3 hk s2 w2 vks => hk vs ws H'' H3 (vxs.mono s2.pure) vks w2 Q fun z r H3' M3 H4 p s3 w3 vz => q z r H3' M3 H4 p ((s1.trans w w1 s2).trans w w2 s3) w3 vz
theorem dK_sortedF {f : Addr} {key : PyData → Option Int} {kv : PyData → Int} {x : SV} {ds : List PyData} (s : SeqL M x ds) (hk : ∀ d ∈ ds, key d = some (kv d)) (p : P (.d (.list (ds.mergeSort fun a b => decide (kv a ≤ kv b)))) M) : dK K (rSortedF K f key) [x] [.m f] M P := fun vs ws H H1 hv hw wk Q q => by
  cases hv with
  | cons h t =>
    cases t
    cases hw with
    | cons h' t' =>
      cases t'
      cases h'
      obtain ⟨a, vs, rfl, h1, h2⟩ := s.sq wk h
      have hm : ((vs.zip ds).map fun z => (z.1, z.2, kv z.2)).map Prod.fst = vs := by rw [List.map_map]; exact zip_fst h2
      refine ⟨a, (vs.zip ds).map fun z => (z.1, z.2, kv z.2), rfl, rfl, by rw [hm]; exact SqL.of h1, fun z hz => ?_, fun l hl => ?_⟩
      · obtain ⟨y, hy, rfl⟩ := List.mem_map.mp hz
        exact ⟨Dq.dp _ _ (Dq.mono wk.ex _ _ (zip_dq h2 y hy)), hk y.2 (by rw [← zip_snd h2]; exact List.mem_map.mpr ⟨y, hy, rfl⟩)⟩
      · have e1 : (((vs.zip ds).map fun z => (z.1, z.2, kv z.2)).mergeSort (PySem.W.dataLe false fun z => .int z.2.2)).map Prod.fst = ((vs.zip ds).mergeSort fun a b => decide (kv a.2 ≤ kv b.2)).map Prod.fst := by
          rw [PySem.W.dataLe_int (fun z : V × PyData × Int => z.2.2), ← List.map_mergeSort (f := fun z : V × PyData => (z.1, z.2, kv z.2)) (r := fun a b => decide (kv a.2 ≤ kv b.2)) (fun a _ b _ => rfl), List.map_map]
          rfl
        rw [e1]
        obtain ⟨w2, s2⟩ := laid_ok (o := .lst (((vs.zip ds).mergeSort fun a b => decide (kv a.2 ≤ kv b.2)).map Prod.fst)) wk hl
        have hd := dq_of_zip (H := H) (zs := (vs.zip ds).mergeSort fun a b => decide (kv a.2 ≤ kv b.2)) fun z hz => zip_dq h2 z (List.mem_mergeSort.mp hz)
        rw [List.map_mergeSort (f := Prod.snd) (s := fun a b => decide (kv a ≤ kv b)) (fun a _ b _ => rfl), zip_snd h2] at hd
        exact q _ _ _ M _ p s2 w2 (.lst upd_same (DqAll.mono s2.pure _ _ hd))
end
end Sd

namespace Sd
open PySem L2
/-! the layer's rules, the written part by its own letter -/
section
variable {X : Cx} {e : Expr} {es : List Expr} {t : TA} {te : TE}
theorem kix_tup (K : PySem.W.Frag) (h : X.K = K := by rfl) : IxR X (rIxT K) := h ▸ ix_tup
theorem kix_list (K : PySem.W.Frag) (h : X.K = K := by rfl) : IxR X (rIxL K) := h ▸ ix_list
theorem ksl_list (K : PySem.W.Frag) (h : X.K = K := by rfl) : SlR X (rSlL K) := h ▸ sl_list
theorem ksl_tup (K : PySem.W.Frag) (h : X.K = K := by rfl) : SlR X (rSlT K) := h ▸ sl_tup
theorem kop_catT (K : PySem.W.Frag) (h : X.K = K := by rfl) : OpR X (binaryOp .Add) (rCatT K) := h ▸ op_catT
theorem kop_in (K : PySem.W.Frag) (h : X.K = K := by rfl) : OpR X (compareOp .In) (rIn K false) := h ▸ op_in_seq
theorem kop_notIn (K : PySem.W.Frag) (h : X.K = K := by rfl) : OpR X (compareOp .NotIn) (rIn K true) := h ▸ op_notIn_seq
theorem kop_eqD (K : PySem.W.Frag) (hu : X.A.units + 64 < cLine) (h : X.K = K := by rfl) : OpR X (compareOp .Eq) (rEqD K) := h ▸ op_eqD hu
theorem kop_neD (K : PySem.W.Frag) (hu : X.A.units + 64 < cLine) (h : X.K = K := by rfl) : OpR X (compareOp .NotEq) (rNeD K) := h ▸ op_neD hu
theorem kcall_len (K : PySem.W.Frag) (h : X.K = K := by rfl) : CallR X (.builtin "len") (fun xs H Q => ∃ p ys, xs = [.ref p] ∧ (SqL K H p ys ∨ SqT K H p ys) ∧ Q (.int ys.length) H) := by subst h; exact call_len_seq
theorem kcall_tuple (K : PySem.W.Frag) (h : X.K = K := by rfl) : CallR X (.type "tuple") (fun xs H Q => ∃ p ys, xs = [.ref p] ∧ ((SqL K H p ys ∧ ∀ l, H l = none → Q (.ref l) (upd H l (.tup ys))) ∨ (SqT K H p ys ∧ Q (.ref p) H))) := by subst h; exact call_tuple_of
theorem kcall_list (K : PySem.W.Frag) (h : X.K = K := by rfl) : CallR X (.type "list") (fun xs H Q => ∃ p ys, xs = [.ref p] ∧ (SqL K H p ys ∨ SqT K H p ys) ∧ ∀ l, H l = none → Q (.ref l) (upd H l (.lst ys))) := by subst h; exact call_list_of
theorem kcr_sum (K : PySem.W.Frag) (hc : X.calm = true := by rfl) (h : X.K = K := by rfl) : CallR X (.builtin "sum") (rSum K) := h ▸ cr_sum hc
theorem kcr_sortedD (K : PySem.W.Frag) {k : Nat} (hr : Room k X.A) (h : X.K = K := by rfl) : CallR X (.builtin "sorted") (rSortedD K) := h ▸ cr_sortedD hr
theorem kcr_sortedF (K : PySem.W.Frag) {k : Nat} {f : Addr} {key : PyData → Option Int} (hf : KeyFn X.prog X.w K f key) (hr : Room k X.A) (hk : 3 ≤ k) (h : X.K = K := by rfl) : CallRK X (.builtin "sorted") [Str.ofString "key"] (rSortedF K f key) := by subst h; exact cr_sortedF hf hr hk
theorem kpi_list (K : PySem.W.Frag) {tg iter : Expr} (he : PE X iter te) (h : X.K = K := by rfl) : PI X tg iter (iList K te) := h ▸ pi_list he
theorem kpi_tup (K : PySem.W.Frag) {tg iter : Expr} (he : PE X iter te) (h : X.K = K := by rfl) : PI X tg iter (iTup K te) := h ▸ pi_tup he
theorem kpg_tup (K : PySem.W.Frag) {k : Nat} {ts : TGs} {n : Nat} {pos : Pos} (hc : X.calm = true) (hh : PGs X es ts) (h : X.K = K := by rfl) (hn : (assignEach es X.env).length = n := by rfl) (hst : (assignEach es X.env).findIdx? (·.1) = none := by rfl) : PG X (.Tuple es k pos) (gTup K n ts) := h ▸ pg_tup hc hh hn hst
theorem kpt_truth (K : PySem.W.Frag) (he : PE X e te) (h1 : ∀ whole, isTrue e X.env whole = (do let v ← whole; standAt e.pos; holding [v] (truthy v)) := by intro _; rfl) (h : X.K = K := by rfl) : PT X e (fun σ H Q => te σ H fun x H' => ∃ k, TruV K x H' k ∧ Q k H') := by subst h; exact pt_truth he h1
theorem kpe_bm (K : PySem.W.Frag) {T : String} {r : V → List V → Hp → VK → Prop} {to : TE} (hh : PE X e (tBM X.K T r to t)) (h : X.K = K := by rfl) : PE X e (tBM K T r to t) := h ▸ hh
theorem pe_callH' {K : PySem.W.Frag} {k : Nat} {x : Str} {ps : List Str} {S : SpD} {p pos : Pos} (hh : Has X.prog X.w K X.mg X.base k x ps S) (hr : Room k X.A) (hg : Gl X x) (ha : PA X (e :: es) t) (h : X.K = K := by rfl)
    (hdb : (x == ("__debug__" : Str)) = false := by decide) (he : starEach (e :: es) X.env = (false, eval e X.env) :: starEach es X.env := by rfl) (hpl : (backTo pos (starEach es X.env)).any (·.1) = false := by rfl) :
    PE X (.Call (.Name x p) (e :: es) [] pos) (tCall (spOf K S) [] E0 t) := by subst h; exact pe_callH hh hr hg ha hdb he hpl
variable {K : PySem.W.Frag} {M : Mem} {P : SV → Mem → Prop}
theorem dR_is {x : Str} {y : SV} {ns : List Str} (hy : Seq M y (ns.map .str)) (p : P (.d (.bool (ns.contains x))) M) : dR K (rIn K false) (.d (.str x)) y M P := dR_in hy p
theorem dR_no {x : Str} {y : SV} {ns : List Str} (hy : Seq M y (ns.map .str)) (p : P (.d (.bool (!ns.contains x))) M) : dR K (rIn K true) (.d (.str x)) y M P := dR_in hy p
variable {δ : DSt} {tl : TE} {tt : TT}
theorem map_at {α β : Type} {f : α → β} {l : List α} {i : Nat} {y : β} (h : (l.map f)[i]? = some y) : ∃ x, l[i]? = some x ∧ y = f x := by
  rw [List.getElem?_map] at h
  cases q : l[i]? with
  | none => rw [q] at h; cases h
  | some x => rw [q] at h; exact ⟨x, rfl, (Option.some.inj h).symm⟩
/-- [e for x in xs if t], nothing drawn in it -/
theorem lc_turns {α : Type} {enc out : α → PyData} {pt : α → Bool} {xs : List α} {j : Nat}
    (ht : ∀ x ∈ xs, dT K tt ((wipeD δ [j]).set j (some (.d (enc x)))) M fun b M2 => b = pt x ∧ M2 = M)
    (he : ∀ x ∈ xs, pt x = true → dE K te ((wipeD δ [j]).set j (some (.d (enc x)))) M fun y M2 => y = .d (out x) ∧ M2 = M) :
    ∀ (i : Nat) (d : PyData) (acc : List PyData) (M' : Mem), (xs.map enc)[i]? = some d → (M' = M ∧ acc = ((xs.take i).filter pt).map out) →
      dG K (gName j) (.d d) (wipeD δ [j]) M' fun δ2 M2 => dT K tt δ2 M2 fun b M3 => if b = true then dE K te δ2 M3 fun y M4 => ∃ d, y = .d d ∧ (M4 = M ∧ acc ++ [d] = ((xs.take (i + 1)).filter pt).map out) else (M3 = M ∧ acc = ((xs.take (i + 1)).filter pt).map out) := by
  intro i d acc M' hx hI
  obtain ⟨rfl, rfl⟩ := hI
  obtain ⟨x, hx1, rfl⟩ := map_at hx
  have hm := List.mem_of_getElem? hx1
  have e : (xs.take (i + 1)).filter pt = (xs.take i).filter pt ++ [x].filter pt := by rw [List.take_succ, hx1, List.filter_append]; rfl
  refine dG_name ((ht x hm).mono fun b M3 hb => ?_)
  obtain ⟨rfl, rfl⟩ := hb
  refine ifB (fun h => (he x hm h).mono fun y M4 hy => ?_) (fun h => ⟨rfl, ?_⟩)
  · obtain ⟨rfl, rfl⟩ := hy
    refine ⟨_, rfl, rfl, ?_⟩
    rw [e, List.map_append, List.filter_cons, if_pos h]
    rfl
  · rw [e, List.filter_cons, if_neg (by rw [h]; decide)]
    simp
theorem dE_lcLf {α : Type} {enc out : α → PyData} {pt : α → Bool} {xs : List α} {j : Nat} (h : dE K tl δ M fun r M1 => r = .d (.list (xs.map enc)) ∧ M1 = M ∧ xs.length ≤ 40000 ∧
    (∀ x ∈ xs, dT K tt ((wipeD δ [j]).set j (some (.d (enc x)))) M fun b M2 => b = pt x ∧ M2 = M) ∧
    (∀ x ∈ xs, pt x = true → dE K te ((wipeD δ [j]).set j (some (.d (enc x)))) M fun y M2 => y = .d (out x) ∧ M2 = M) ∧ Res P ((xs.filter pt).map out) M) : dE K (tLc (iList K tl) (gName j) tt te [j]) δ M P := by
  refine dE_lcL (gw_name j) (h.mono fun r M1 hh => ?_)
  obtain ⟨rfl, rfl, hl, ht, he, hr⟩ := hh
  refine ⟨_, rfl, by rw [List.length_map]; exact hl, fun i acc M' => M' = M1 ∧ acc = ((xs.take i).filter pt).map out, ⟨rfl, rfl⟩, fun i d acc M' => lc_turns ht he i d acc M', fun acc M' hI => ?_⟩
  obtain ⟨rfl, rfl⟩ := hI
  rw [List.length_map, List.take_length]
  exact hr
theorem dE_lcTf {α : Type} {enc out : α → PyData} {pt : α → Bool} {xs : List α} {j : Nat} (h : dE K tl δ M fun r M1 => r = .d (.tuple (xs.map enc)) ∧ M1 = M ∧ xs.length ≤ 40000 ∧
    (∀ x ∈ xs, dT K tt ((wipeD δ [j]).set j (some (.d (enc x)))) M fun b M2 => b = pt x ∧ M2 = M) ∧
    (∀ x ∈ xs, pt x = true → dE K te ((wipeD δ [j]).set j (some (.d (enc x)))) M fun y M2 => y = .d (out x) ∧ M2 = M) ∧ Res P ((xs.filter pt).map out) M) : dE K (tLc (iTup K tl) (gName j) tt te [j]) δ M P := by
  refine dE_lcT (gw_name j) (h.mono fun r M1 hh => ?_)
  obtain ⟨rfl, rfl, hl, ht, he, hr⟩ := hh
  refine ⟨_, rfl, by rw [List.length_map]; exact hl, fun i acc M' => M' = M1 ∧ acc = ((xs.take i).filter pt).map out, ⟨rfl, rfl⟩, fun i d acc M' => lc_turns ht he i d acc M', fun acc M' hI => ?_⟩
  obtain ⟨rfl, rfl⟩ := hI
  rw [List.length_map, List.take_length]
  exact hr
theorem dE_lcLm {α : Type} {enc out : α → PyData} {xs : List α} {j : Nat} (h : dE K tl δ M fun r M1 => r = .d (.list (xs.map enc)) ∧ M1 = M ∧ xs.length ≤ 40000 ∧
    (∀ x ∈ xs, dE K te ((wipeD δ [j]).set j (some (.d (enc x)))) M fun y M2 => y = .d (out x) ∧ M2 = M) ∧ Res P (xs.map out) M) : dE K (tLc (iList K tl) (gName j) tYes te [j]) δ M P := by
  refine dE_lcLf (pt := fun _ => true) (enc := enc) (out := out) (xs := xs) (h.mono fun r M1 hh => ?_)
  obtain ⟨h1, h2, h3, h4, h5⟩ := hh
  exact ⟨h1, h2, h3, fun x _ => dT_yes ⟨rfl, rfl⟩, fun x hx _ => h4 x hx, by rw [List.filter_eq_self.mpr fun _ _ => rfl]; exact h5⟩
theorem dE_lcTm {α : Type} {enc out : α → PyData} {xs : List α} {j : Nat} (h : dE K tl δ M fun r M1 => r = .d (.tuple (xs.map enc)) ∧ M1 = M ∧ xs.length ≤ 40000 ∧
    (∀ x ∈ xs, dE K te ((wipeD δ [j]).set j (some (.d (enc x)))) M fun y M2 => y = .d (out x) ∧ M2 = M) ∧ Res P (xs.map out) M) : dE K (tLc (iTup K tl) (gName j) tYes te [j]) δ M P := by
  refine dE_lcTf (pt := fun _ => true) (enc := enc) (out := out) (xs := xs) (h.mono fun r M1 hh => ?_)
  obtain ⟨h1, h2, h3, h4, h5⟩ := hh
  exact ⟨h1, h2, h3, fun x _ => dT_yes ⟨rfl, rfl⟩, fun x hx _ => h4 x hx, by rw [List.filter_eq_self.mpr fun _ _ => rfl]; exact h5⟩
end
theorem ex_cmp {i j : Int} {R : Int → Int → Prop} (h : R i j) : ∃ i' j', SV.d (.int i) = SV.d (.int i') ∧ SV.d (.int j) = SV.d (.int j') ∧ R i' j' := ⟨i, j, rfl, rfl, h⟩
theorem ex_bool {b : Bool} {R : Bool → Prop} (h : R b) : ∃ b', SV.d (.bool b) = SV.d (.bool b') ∧ R b' := ⟨b, rfl, h⟩
theorem ex_int {i : Int} {R : Int → Prop} (h : R i) : ∃ i', SV.d (.int i) = SV.d (.int i') ∧ R i' := ⟨i, rfl, h⟩
theorem ex_d {d : PyData} {R : PyData → Prop} (h : R d) : ∃ d', SV.d d = SV.d d' ∧ R d' := ⟨d, rfl, h⟩
theorem ex_list {ds : List PyData} {R : List PyData → Prop} (h : R ds) : ∃ ds', SV.d (.list ds) = SV.d (.list ds') ∧ R ds' := ⟨ds, rfl, h⟩
theorem ex_tup {ds : List PyData} {R : List PyData → Prop} (h : R ds) : ∃ ds', SV.d (.tuple ds) = SV.d (.tuple ds') ∧ R ds' := ⟨ds, rfl, h⟩
theorem ex_m {a : Addr} {R : Addr → Prop} (h : R a) : ∃ a', SV.m a = SV.m a' ∧ R a' := ⟨a, rfl, h⟩
theorem ex_par {x y : SV} {R : SV → SV → Prop} (h : R x y) : ∃ r s, [x, y] = [r, s] ∧ R r s := ⟨x, y, rfl, h⟩
theorem ex_rg1 {i : Int} {R : Int → Prop} (h : R i) : ∃ i', [SV.d (.int i)] = [SV.d (.int i')] ∧ R i' := ⟨i, rfl, h⟩
theorem ex_rg2 {i j : Int} {R : Int → Int → Prop} (h : R i j) : ∃ i' j', [SV.d (.int i), SV.d (.int j)] = [SV.d (.int i'), SV.d (.int j')] ∧ R i' j' := ⟨i, j, rfl, h⟩
theorem ex_dat {rs : List SV} {ds : List PyData} {R : List PyData → Prop} (e : datAll rs = some ds) (l : ds.length ≤ 1000) (h : R ds) : ∃ ds', datAll rs = some ds' ∧ ds'.length ≤ 1000 ∧ R ds' := ⟨ds, e, l, h⟩
end Sd

namespace Sd
open PySem L2
/-- a def of the top, as the head leaves it -/
structure Df (K : PySem.W.Frag) (mg : Str → Option Value) (x : Str) (st : Stmt) (f : Addr) (ps : List Str) : Prop where
  ex : ∃ fd, Fun K x x st f fd ∧ mg x = some (.ref f) ∧ Binds K fd ps []
theorem Df.has {P : Program} {w : World} {K : PySem.W.Frag} {mg : Str → Option Value} {base : Heap} {x : Str} {st : Stmt} {f : Addr} {ps : List Str} {k : Nat} {S : SpD} (d : Df K mg x st f ps)
    (h : ∀ fd, Fun K x x st f fd → FnOk P w K mg base CX0 k f fd ps (spOf K S)) : Has P w K mg base k x ps S := by
  obtain ⟨fd, h1, h2, h3⟩ := d.ex
  exact ⟨f, fd, h fd h1, h2, h1.kp, h3⟩
theorem Df.mk' {K : PySem.W.Frag} {h : Heap} {mg : Str → Option Value} {x : Str} {st : Stmt} {f : Addr} {ps : List Str} {oc : Value} {od an : Option Addr} {osl : Array (Option Value)} {kV doc pm cdv ct : Value} (X : K.In h) (G : h.Ns mainGlobals mg)
    (a : PySem.W.nsIn K mainGlobals x = some (some (.ref f))) (l : K.lookup f = some ⟨oc, od, .func (PySem.W.fnOf x x (defArgs st) (defBody st) (defScope st) .none kV doc pm an cdv ct), osl⟩)
    (c : PySem.W.codeIn K cdv x = true) (k : PySem.W.keepIn K (.ref f) = true)
    (b : ∀ (kV doc pm : Value) (an : Option Addr) (cdv ct : Value) (us : List Value), us.length = ps.length → bindArgs (PySem.W.fnOf x x (defArgs st) (defBody st) (defScope st) .none kV doc pm an cdv ct) ⟨us, []⟩ = pure (ps.zip us)) : Df K mg x st f ps :=
  ⟨_, fun_mk l c k, PySem.W.mg_of X G a, (fun_mk (st := st) l c k).binds b⟩
/-- the module's nought -/
structure Nt (K : PySem.W.Frag) (mg : Str → Option Value) (a : Addr) : Prop where
  m : mg "NOUGHT" = some (.ref a)
  d : ∀ H, Dq K H (.ref a) (.tuple [.int 0, .int 1])
theorem Nt.mk' {K : PySem.W.Frag} {h : Heap} {mg : Str → Option Value} {a : Addr} {od : Option Addr} {t0 t1 : Tok} {n : Nat} {sl : Array (Option Value)} (X : K.In h) (G : h.Ns mainGlobals mg)
    (z : PySem.W.nsIn K mainGlobals "NOUGHT" = some (some (.ref a))) (l : K.lookup a = some ⟨.type "tuple", od, .seq #[.int 0 t0, .int 1 t1] n, sl⟩) : Nt K mg a :=
  ⟨PySem.W.mg_of X G z, fun H => .tup (xs := [.int 0, .int 1]) (.inr ⟨_, _, n, l, rfl, rfl, (by decide : 2 ≤ sizeLine), .cons ⟨_, rfl⟩ (.cons ⟨_, rfl⟩ .nil)⟩) (.cons (.int 0) (.cons (.int 1) .nil))⟩
theorem dE_nt {K : PySem.W.Frag} {δ : DSt} {M : Mem} {P : SV → Mem → Prop} {mg : Str → Option Value} {a : Addr} (n : Nt K mg a) (p : P (.d (.tuple [.int 0, .int 1])) M) : dE K (tC (.ref a)) δ M P := fun σ H H1 e w Q q => q _ _ H M H1 p Step.refl w (n.d H)
end Sd

namespace Sd
open PySem L2 PyProof.Rows
set_option maxRecDepth 8000 in
theorem extend_tup (l : Addr) (items : Array Value) (n : Nat) (b : Addr) (items2 : Array Value) (n2 : Nat) (dd : Option Addr) (sl : Array (Option Value))
    (hs0 : ¬(!items.isEmpty && Builtin.List.listTooLong (items.size + items2.size)) = true) (hs1 : items.size ≤ sizeLine) (hs2 : items.size + items2.size ≤ sizeLine + 1) :
    Meets (Builtin.«list.extend» ⟨[.ref l, .ref b], []⟩) (fun _ R s => s.heap.get? l = some { cls := .type "list", dict := none, data := .seq items n, slots := #[] } ∧ s.heap.get? b = some { cls := .type "tuple", dict := dd, data := .seq items2 n2, slots := sl } ∧
      R (.ok (.ret Value.none)) { s with heap := s.heap.update l (Obj.mapSeq fun x => x ++ items2), toks := s.toks }) :=
  .of_wp fun prog w A R s h => by
    obtain ⟨hp, g, d, tk, os⟩ := s
    obtain ⟨hl, hb, h⟩ := h
    have f1 := PySem.AutoSeq1.idx_int
    have f2 := PySem.AutoSeq1.sub_tuple_tuple
    have f3 := PySem.AutoSeq1.sub_list_list
    have f4 := PySem.AutoSeq1.sub_tuple_list
    have f5 := PySem.AutoSeq1.sub_list_tuple
    have hz' : (items ++ items2).size ≤ sizeLine + 1 := by rw [Array.size_append]; exact hs2
    wp_walk using (wpAny_updateSeq hl rfl (hz := hs1) (_hz' := hz')), (PySem.AutoSeq1.wpAny_loadPart' hl), (PySem.AutoSeq1.wpAny_loadPart' hb)
    exact ⟨_, rfl, h⟩
/-- xs.extend(t), t a tuple -/
def rExtT (K : PySem.W.Frag) : V → List V → Hp → VK → Prop := fun x vs H Q => ∃ l b xs zs, x = .ref l ∧ vs = [.ref b] ∧ H l = some (.lst xs) ∧ SqT K H b zs ∧ xs.length + zs.length ≤ sizeLine ∧ Q .non (upd H l (.lst (xs ++ zs)))
theorem mt_extT {X : Cx} (K : PySem.W.Frag) (hK : X.K = K := by rfl) : MtM X "list.extend" (rExtT K) := by
  subst hK
  intro pins s σ H x vs v us Q I rx rv h
  obtain ⟨l, b, xs, zs, rfl, rfl, hH, hB, hz, q⟩ := h
  cases rx
  obtain ⟨u, rfl, ru⟩ := rv.one
  cases ru
  obtain ⟨z, its, n, r, hl, e⟩ := I.lstM hH
  obtain ⟨its2, r2, ⟨⟨cls, dd, data, sl⟩, e2, hc, n2, hd⟩, z2⟩ := I.tuple hB
  obtain rfl : cls = .type "tuple" := hc
  obtain rfl : data = .seq its2.toArray n2 := hd
  have hl2 := r2.length
  have hsz : its.toArray.size + its2.toArray.size ≤ sizeLine := by rw [List.size_toArray, List.size_toArray]; omega
  have hlong : ¬ (!its.toArray.isEmpty && Builtin.List.listTooLong (its.toArray.size + its2.toArray.size)) = true := by
    rw [notLongL hsz, Bool.and_false]
    exact Bool.false_ne_true
  refine call_meets F.slot_list_extend ⟨_, e, rfl⟩ F.entry_list_extend (F.args_list_extend_2 _ _)
    (extend_tup l its.toArray n b its2.toArray n2 dd sl hlong (by rw [List.size_toArray]; omega) (by omega)) ⟨e, e2, ?_⟩
  refine ⟨.non, _, I.lset (its' := its ++ its2) hH e (by simp) (r.append r2) ?_, rfl, q⟩
  rw [List.length_append]
  omega
section
variable {K : PySem.W.Frag} {δ : DSt} {M : Mem} {P : SV → Mem → Prop} {ta te : TE}
theorem dE_extT (h : dE K ta δ M fun r M1 => ∃ a, r = .m a ∧ (∃ ds, M1 a = some ds) ∧ dE K te δ M1 fun s M2 => ∃ ds es, s = .d (.tuple es) ∧ M2 a = some ds ∧ ds.length + es.length < 100000 ∧ P (.d .none) (mset M2 a (ds ++ es))) :
    dE K (tBM K "list" (rExtT K) ta (tCons te tNil)) δ M P := fun σ H H1 e w Q q =>
  h σ H H1 e w _ fun va ra H' M' H2 ⟨a, ea, ⟨ds0, hm0⟩, hb⟩ s w' vva => by
    subst ea
    cases vva
    obtain ⟨_, vs0, g1, _⟩ := w'.cell a ds0 hm0
    refine ⟨Or.inl ⟨rfl, vs0, SqL.of g1⟩, hb σ H' H2 (e.mono s.pure) w' _ fun vb rb H'' M'' H3 hp s2 w2 vvb => ?_⟩
    obtain ⟨ds, es, rfl, hm, hl, pp⟩ := hp
    obtain ⟨_, vs, h1, h2⟩ := w2.cell a ds hm
    cases vvb with
    | tup k1 k2 =>
      obtain ⟨w3, s3⟩ := wrote_ok (vs := vs ++ _) w2 hm (h2.append k2)
      exact ⟨a, _, vs, _, rfl, rfl, h1, sqTx w2.ex k1, by rw [h2.length, k2.length]; exact Nat.le_trans (Nat.le_of_lt hl) (by decide), q _ _ _ _ _ pp ((s.trans w w' s2).trans w w2 s3) w3 .non⟩
/-- a list that will not change any more -/
theorem dE_varF {i : Nat} {a : Addr} {ds : List PyData} (h : δ[i]? = some (some (.m a))) (hm : M a = some ds) (p : P (.d (.list ds)) (mdel M a)) : dE K (tVar i) δ M P := fun σ H H1 e w Q q => by
  obtain ⟨v, h1, h2⟩ := e.at' i _ h
  obtain rfl : v = .ref a := h2
  obtain ⟨hn, vs, k1, k2⟩ := w.cell a ds hm
  refine ⟨_, h1, q _ _ (upd H a (.lst vs)) (mdel M a) H1 p ⟨Ex.new hn, fun b o e _ => e, fun b h1 h2 h3 => ?_⟩ ⟨fun b o e => ?_, fun b es e => ?_⟩ (.lst upd_same (k2.mono (Ex.new hn)))⟩
  · have n : b ≠ a := by rintro rfl; rw [hm] at h2; cases h2
    exact ⟨by rw [upd_ne n]; exact h1, by rw [mdel_ne n]; exact h2⟩
  · by_cases n : b = a
    · subst n; rw [upd_same] at e; cases e; exact k1
    · rw [upd_ne n] at e; exact w.ex b o e
  · by_cases n : b = a
    · subst n; rw [mdel_same] at e; cases e
    · rw [mdel_ne n] at e
      obtain ⟨g1, us, g2, g3⟩ := w.cell b es e
      exact ⟨by rw [upd_ne n]; exact g1, us, g2, g3.mono (Ex.new hn)⟩
theorem mdel_mset {a : Addr} {ds : List PyData} (h : M a = none) : mdel (mset M a ds) a = M := by
  funext c
  unfold mdel mset
  split
  · rename_i e; rw [e, h]
  · rfl
/-! ### isinstance -/
theorem dE_ty {n : String} (p : P (.t n) M) : dE K (tC (.ty n)) δ M P := fun σ H H1 e w Q q => q _ _ H M H1 p Step.refl w rfl
def tyName : PyData → String
  | .none => "NoneType"
  | .bool _ => "bool"
  | .int _ => "int"
  | .str _ => "str"
  | .list _ => "list"
  | .tuple _ => "tuple"
  | .dict _ => "dict"
theorem ty_ok {H : Hp} {v : V} : ∀ {d : PyData}, Dq K H v d → TyX K H v (.type (tyName d))
  | .none, h => by cases h; exact .base .non
  | .bool _, h => by cases h; exact .base (.bl _)
  | .int _, h => by cases h; exact .base (.int _)
  | .str _, h => by cases h; exact .base (.str _)
  | .list _, h => by
    cases h with
    | lst h1 h2 => exact .base (.lst h1)
  | .tuple _, h => by
    cases h with
    | tup h1 h2 =>
      rcases h1 with (h1 | ⟨o, h1⟩) | ⟨o, its, n, h1, h3, _⟩
      · exact .base (.tup h1)
      · exact .fTuple h1
      · exact .kTuple h1 h3
  | .dict _, h => by cases h
theorem dC_isi {d : PyData} {n : String} {b : Bool} (e : kitB (tyName d) n = some b) (p : P (.d (.bool b)) M) : dC K (rIsi K) [.d d, .t n] M P := fun vs H H1 hv wk Q q => by
  cases hv with
  | cons h t => cases t with
    | cons h' t =>
      cases t
      obtain rfl : _ = V.ty n := h'
      exact ⟨_, _, _, _, b, rfl, .ty n, ty_ok (K := K) (Dq.mono wk.ex _ _ h), kit_ty e, q _ _ H M H1 p Step.refl wk (.bl _)⟩
theorem kcall_isi {X : Cx} (K : PySem.W.Frag) (h : X.K = K := by rfl) : CallR X (.builtin "isinstance") (rIsi K) := h ▸ call_isi
/-- a promise whose new list is taken as it is -/
theorem spOf.frz {S S' : SpD} (h : ∀ rs M P, S' rs M P → ∃ ds, P (.d (.list ds)) M ∧ S rs M (fun r M' => ∃ a, M a = none ∧ r = .m a ∧ M' = mset M a ds)) : ∀ vs H Q E, spOf K S' vs H Q E → spOf K S vs H Q E := fun vs H1 Q E ⟨rs, H, M, P, w, v, hS, q⟩ => by
  obtain ⟨ds, p, hS⟩ := h rs M P hS
  refine ⟨rs, H, M, _, w, v, hS, fun u r H' M' H2 hr s w' vu => ?_⟩
  obtain ⟨a, ha, rfl, rfl⟩ := hr
  obtain rfl : u = .ref a := vu
  obtain ⟨hn, vs, k1, k2⟩ := w'.cell a ds mset_same
  refine q _ _ (upd H' a (.lst vs)) M H2 p ⟨s.pure.trans (Ex.new hn), s.keep, fun b h1 h2 h3 => ?_⟩ ⟨fun b o e => ?_, fun b es e => ?_⟩ (.lst upd_same (k2.mono (Ex.new hn)))
  · obtain ⟨g1, g2⟩ := s.new b h1 h2 h3
    have n : b ≠ a := by rintro rfl; rw [mset_same] at g2; cases g2
    exact ⟨by rw [upd_ne n]; exact g1, h2⟩
  · by_cases n : b = a
    · subst n; rw [upd_same] at e; cases e; exact k1
    · rw [upd_ne n] at e; exact w'.ex b o e
  · have n : b ≠ a := by rintro rfl; rw [ha] at e; cases e
    obtain ⟨g1, us, g2, g3⟩ := w'.cell b es (by rw [mset_ne n]; exact e)
    exact ⟨by rw [upd_ne n]; exact g1, us, g2, g3.mono (Ex.new hn)⟩
theorem Has.frz {P : Program} {w : World} {mg : Str → Option Value} {base : Heap} {k : Nat} {x : Str} {ps : List Str} {S S' : SpD} (h : Has P w K mg base k x ps S) (i : ∀ rs M P, S' rs M P → ∃ ds, P (.d (.list ds)) M ∧ S rs M (fun r M' => ∃ a, M a = none ∧ r = .m a ∧ M' = mset M a ds)) : Has P w K mg base k x ps S' := by
  obtain ⟨f, fd, a, b, c, d⟩ := h.ex
  exact ⟨f, fd, a.imp (spOf.frz i), b, c, d⟩
theorem dS_cut {t u : TS} {D : DEnds} (Mid : DSt → Mem → Prop) (h : dS K t { D with nx := Mid } δ M) (k : ∀ δ' M', Mid δ' M' → dS K u D δ' M') : dS K (tSeq t u) D δ M := fun D' σ H H1 e w o =>
  h { D' with nx := u D' } σ H H1 e w ⟨fun δ' M' σ' H' H2 p s e' w' => k δ' M' p D' σ' H' H2 e' w' (o.after w w' s), o.rt, o.bk, o.ct⟩
end
end Sd

/-! Sd: sorted(set(texts)) -/
namespace Sd
open PySem L2 PySem.Spec PyProof.Rows
def txtOf : Value → Str
  | .str x _ => x
  | _ => ⟨#[]⟩
def RowT (w : World) (r : Int × Value) : Prop := ∃ x t, r = ((hashStr w x, Value.str x t) : Int × Value)
/-- what a table of texts keeps: xs the texts that came -/
structure TabT (w : World) (rs : Array (Int × Value)) (tb : SetTable) (xs : List Str) : Prop where
  row : ∀ r ∈ rs.toList, RowT w r
  nd : (rs.toList.map fun r => txtOf r.2).Nodup
  mem : ∀ x, x ∈ (rs.toList.map fun r => txtOf r.2) ↔ x ∈ xs
  few : rs.size ≤ xs.length
  low : rs.size < scanBound
  fit : tb.fits rs.size = true
  ris : Ris tb.place.toList
  led : w.params.followText "set-order" = true ∨ tb.led = true
structure SetT (w : World) (h : Heap) (a : Addr) (xs : List Str) : Prop where
  ex : ∃ ob rs ep tb, h.get? a = some ob ∧ ob.ExactSet ∧ ob.data = .set rs ep tb ∧ TabT w rs tb xs
theorem SetT.at {w : World} {h h' : Heap} {a : Addr} {xs : List Str} (z : SetT w h a xs) (k : ∀ o, h.get? a = some o → h'.get? a = some o) : SetT w h' a xs := by
  obtain ⟨ob, rs, ep, tb, e, r⟩ := z.ex
  exact ⟨ob, rs, ep, tb, k ob e, r⟩
theorem SetT.same {w : World} {h : Heap} {a : Addr} {xs ys : List Str} (z : SetT w h a xs) (m : ∀ x, x ∈ ys ↔ x ∈ xs) (l : xs.length ≤ ys.length) : SetT w h a ys := by
  obtain ⟨ob, rs, ep, tb, e1, e2, e3, q⟩ := z.ex
  exact ⟨ob, rs, ep, tb, e1, e2, e3, { q with mem := fun x => (q.mem x).trans (m x).symm, few := Nat.le_trans q.few l }⟩
theorem TabT.perm {w : World} {rs rs' : Array (Int × Value)} {tb tb' : SetTable} {xs : List Str} (q : TabT w rs tb xs) (p : rs'.toList.Perm rs.toList) (f : tb'.fits rs'.size = true) (r : Ris tb'.place.toList) (l : tb'.led = tb.led) : TabT w rs' tb' xs := by
  have z : rs'.size = rs.size := by rw [← Array.length_toList, p.length_eq, Array.length_toList]
  exact ⟨fun e he => q.row e (p.mem_iff.mp he), (p.map _).nodup_iff.mpr q.nd, fun x => (p.map _).mem_iff.trans (q.mem x), by rw [z]; exact q.few, by rw [z]; exact q.low, f, r, by rw [l]; exact q.led⟩
theorem TabT.more {w : World} {rs rs' : Array (Int × Value)} {tb tb' : SetTable} {xs : List Str} {x : Str} {u : Tok} (q : TabT w rs tb xs) (hx : x ∉ xs) (room : xs.length + 1 < scanBound) (p : rs'.toList.Perm ((hashStr w x, Value.str x u) :: rs.toList))
    (f : tb'.fits rs'.size = true) (r : Ris tb'.place.toList) (l : tb'.led = tb.led) : TabT w rs' tb' (xs ++ [x]) := by
  have z : rs'.size = rs.size + 1 := by rw [← Array.length_toList, p.length_eq, List.length_cons, Array.length_toList]
  have pk : (rs'.toList.map fun r => txtOf r.2).Perm (x :: rs.toList.map fun r => txtOf r.2) := p.map fun r => txtOf r.2
  have lw := q.few
  refine ⟨fun e he => ?_, pk.nodup_iff.mpr (List.nodup_cons.mpr ⟨fun m => hx ((q.mem x).mp m), q.nd⟩), fun y => ?_, by rw [z, List.length_append]; exact Nat.add_le_add_right q.few 1, by omega, f, r, by rw [l]; exact q.led⟩
  · rcases List.mem_cons.mp (p.mem_iff.mp he) with e1 | e1
    · exact ⟨x, u, e1⟩
    · exact q.row e e1
  · rw [pk.mem_iff, List.mem_cons, List.mem_append, List.mem_singleton, q.mem y]
    exact Or.comm
section
variable {P : Program} {w : World} {A : Around} {E : Value → Shared → Prop}
theorem TabT.elems {rs : Array (Int × Value)} {tb : SetTable} {xs : List Str} (q : TabT w rs tb xs) : ElemsOf (PySem.strKind P w) rs.toList := fun e he => by
  obtain ⟨x, t, rfl⟩ := q.row e he
  exact ⟨⟨x, strKind_is P w x t, rfl⟩, rfl⟩
theorem TabT.is {rs : Array (Int × Value)} {tb : SetTable} {xs : List Str} (q : TabT w rs tb xs) {e : Int × Value} (he : e ∈ rs.toList) (x : Str) : (PySem.strKind P w).is x e.2 = true ↔ txtOf e.2 = x := by
  obtain ⟨y, t, rfl⟩ := q.row e he
  show (PySem.strKind P w).is x (.str y t) = true ↔ y = x
  constructor
  · intro h
    exact (PySem.strKind P w).inj _ _ _ (strKind_is P w y t) h
  · rintro rfl
    exact strKind_is P w y t
/-- the table, as it is put down, and laid anew where it is too full -/
theorem put_txt {s : Shared} {a : Addr} {ob : Obj} {rs0 rs : Array (Int × Value)} {ep : Nat} {tb0 tb : SetTable} {xs : List Str} {gv : Bool → Sem Unit} (hgv : ∀ (b : Bool) (s1 : Shared) (Q1 : Unit → Shared → Prop), Q1 () s1 → wpAny (model P w) A (gv b) Q1 E s1)
    (e1 : s.heap.get? a = some ob) (e2 : ob.ExactSet) (e3 : ob.data = .set rs0 ep tb0) (q : TabT w rs tb xs) {wd : Bool} {R : Option Bool → Shared → Prop}
    (hR : ∀ h', Heap.SameBut a s.heap h' → SetT w h' a xs → R (some true) { s with heap := h' }) :
    wpAny (model P w) A (storeSet a rs tb >>= fun _ => if (!wd && tb.tooFull) = true then gv (relayAll tb rs (SetTable.grown rs.size)).2.2 >>= fun _ =>
      storeSet a (relayAll tb rs (SetTable.grown rs.size)).1 (relayAll tb rs (SetTable.grown rs.size)).2.1 >>= fun _ => pure (some true) else pure (some true)) R E s := by
  refine wpAny_bind (wpAny_storeSet_of e1 e3 ?_ (fits_of_scanBound q.low))
  have k1 := store_at (es' := rs) (t' := tb) e1 e3
  have b1 := Heap.SameBut.update s.heap a (Obj.putSet rs tb)
  by_cases c : (!wd && tb.tooFull) = true
  · rw [if_pos c]
    have q2 := q.perm (relayAll_perm tb rs (SetTable.grown rs.size)) (relayAll_fits tb rs (SetTable.grown rs.size)) (relayAll_ris tb rs (SetTable.grown rs.size)) (relayAll_led tb rs (SetTable.grown rs.size))
    refine wpAny_bind (hgv _ _ _ (wpAny_bind (wpAny_storeSet_of k1 rfl (wpAny_pure ?_) (fits_of_scanBound q2.low))))
    exact hR _ (b1.trans (Heap.SameBut.update _ a _)) ⟨_, _, _, _, store_at k1 rfl, e2, rfl, q2⟩
  · rw [if_neg c]
    exact wpAny_pure (hR _ b1 ⟨_, _, _, _, k1, e2, rfl, q⟩)
theorem add_txt {s : Shared} {a : Addr} {xs : List Str} {x : Str} {u : Tok} {Q : Bool → Shared → Prop} (z : SetT w s.heap a xs) (room : xs.length + 1 < scanBound)
    (hQ : ∀ (b : Bool) h', Heap.SameBut a s.heap h' → SetT w h' a (xs ++ [x]) → Q b { s with heap := h' }) : wpAny (model P w) A (setAddHashed a (.str x u) (hashStr w x)) Q E s := by
  obtain ⟨ob, rs, ep, tb, e1, e2, e3, q⟩ := z.ex
  have el : ElemsOf (PySem.strKind P w) rs.toList := q.elems
  unfold setAddHashed setAddHashedIn
  refine wpAny_holding (wpAny_bind (wpAny_setState_of e1 e3 q.fit ?_))
  dsimp only
  rw [byScan_of (x := .str x u) rfl q.low el, if_pos rfl]
  unfold setAddByScan
  refine wpAny_bind (wpAny_bind (wpAny_rule (wpAny_bind (wpAny_setScan_of (strKind_is P w x u) e1 e3 q.fit el ?_))))
  cases hf : List.findIdx? (fun e => (PySem.strKind P w).is x e.2) rs.toList with
  | some j =>
    obtain ⟨hj, pj, _⟩ := List.findIdx?_eq_some_iff_getElem.mp hf
    have mx : x ∈ xs := (q.mem x).mp (List.mem_map.mpr ⟨_, List.getElem_mem hj, (q.is (List.getElem_mem hj) x).mp pj⟩)
    refine wpAny_pure (wpAny_pure (hQ false s.heap (Heap.SameBut.refl a s.heap) (z.same (fun y => ?_) (by rw [List.length_append]; exact Nat.le_add_right _ _))))
    rw [List.mem_append, List.mem_singleton]
    exact ⟨fun m => m.elim id fun e => e ▸ mx, .inl⟩
  | none =>
    have nx : x ∉ xs := fun m => by
      obtain ⟨e, he, ee⟩ := List.mem_map.mp ((q.mem x).mpr m)
      have c := List.findIdx?_eq_none_iff.mp hf e he
      rw [(q.is (P := P) he x).mpr ee] at c
      cases c
    have pm := layNew_perm tb rs (hashStr w x) (.str x u)
    rw [Array.toList_push] at pm
    have q1 := q.more nx room (pm.trans (List.perm_append_singleton _ _)) (layNew_fits tb rs (hashStr w x) (.str x u)) (layNew_ris tb rs (hashStr w x) (.str x u) q.ris) (layNew_led tb rs (hashStr w x) (.str x u))
    have hgv : ∀ (b : Bool) (s1 : Shared) (Q1 : Unit → Shared → Prop), Q1 () s1 → wpAny (model P w) A (match b with | true => rule "set.scan.the-table-gave-way" | false => pure ()) Q1 E s1 := fun b s1 Q1 h => by

      cases b <;> first | exact wpAny_pure h | exact wpAny_rule h
    dsimp only
    refine wpAny_bind (hgv _ _ _ ?_)
    have fin : ∀ h', Heap.SameBut a s.heap h' → SetT w h' a (xs ++ [x]) → wpAny (model P w) A (pure true) Q E { s with heap := h' } := fun h' sb r => wpAny_pure (hQ true h' sb r)
    have tail : ∀ bb : Bool, TabT w (layNew tb rs (hashStr w x) (.str x u)).1 (if bb = true then (layNew tb rs (hashStr w x) (.str x u)).2.1 else { (layNew tb rs (hashStr w x) (.str x u)).2.1 with plain := false }) (xs ++ [x]) := fun bb => by
      cases bb with
      | true => exact q1
      | false => exact { q1 with fit := SetTable.fits_plain_off q1.fit }
    split
    · rw [hashByValue_scannable 8 (x := .str x u) rfl]
      exact wpAny_bind (wpAny_pure (put_txt hgv e1 e2 e3 (tail _) fin))
    · exact wpAny_bind (wpAny_pure (put_txt hgv e1 e2 e3 (tail true) fin))
end
end Sd

namespace Sd
open PySem L2 PySem.Spec PyProof.Rows
/-- a new set -/
abbrev set0 (w : World) : Obj := { cls := .type "set", dict := none, data := .set #[] 0 (.fresh 0 0 (!w.params.followText "set-order")) }
theorem set0_txt {w : World} {h : Heap} {a : Addr} (e : h.get? a = some (set0 w)) : SetT w h a [] :=
  ⟨_, #[], 0, _, e, ⟨rfl, rfl, rfl⟩, rfl, { row := fun r hr => (by cases hr), nd := List.nodup_nil, mem := fun x => Iff.rfl, few := Nat.le_refl _, low := (by decide), fit := (by rfl), ris := List.Pairwise.nil, led := (by
    show _ ∨ (!w.params.followText "set-order") = true
    cases w.params.followText "set-order" <;> simp) }⟩
section
variable {P : Program} {w : World} {A : Around} {E : Value → Shared → Prop}
/-- each text that the iterator gives goes into the set at S -/
theorem fill_txt {I S : Addr} {fp wr : List Addr} {G : Array GenState → Array GenState → Prop} {n : Nat} {Pv : Nat → Value → Prop} {St : Nat → Shared → Prop} {R : Result → Shared → Prop} (W : WalksS P w A.in1 I fp wr G n Pv St) (out : S ∉ fp)
    (xs : List Str) (hn : n = xs.length) (few : xs.length + 1 < scanBound) (hv : ∀ i v, Pv i v → ∃ x t, xs[i]? = some x ∧ v = .str x t) :
    ∀ (m i : Nat) (s : Shared), m + i = n → St i s → SetT w s.heap S (xs.take i) → (∀ s', Moved (S :: wr) G s s' → SetT w s'.heap S xs → R (.ok (.ret .none)) s') →
      codeAny (model P w) A (.builtin "set.update.loop" ⟨[.ref S, .ref I], []⟩) R s := by
  have out' : S ∉ wr := fun h => out (W.sub S h)
  have wider : ∀ b ∈ wr, b ∈ S :: wr := fun b h => .tail _ h
  intro m
  induction m with
  | zero =>
    intro i s hi st z hR
    obtain rfl : i = n := by omega
    refine codeAny_builtin F.entry_set_update_loop (by
      rw [Around.under_plainId F.plain_set_update_loop _]
      exact wpAny_bind (m := pyNext (.ref I)) (W.done s _ _ st fun s' mv => wpAny_pure (a := Fin.done (Flow.ret Value.none)) (hR s' (mv.mono wider) (by
        rw [List.take_of_length_le (Nat.le_of_eq hn.symm)] at z
        exact z.at fun o e => mv.heap S o out' e))))
  | succ m ih =>
    intro i s hi st z hR
    have lt : i < n := by omega
    refine codeAny_builtin F.entry_set_update_loop ?_
    rw [Around.under_plainId F.plain_set_update_loop _]
    refine wpAny_bind (m := pyNext (.ref I)) (W.item i s _ _ lt st fun v s' hP st' mv => ?_)
    obtain ⟨x, t, hx, rfl⟩ := hv i v hP
    refine wpAny_bind (m := holding [Value.str x t] (setAdd S (.str x t))) (wpAny_holding (wpAny_holding (wpAny_bind ((PySem.strKind P w).pyHash (strKind_is P w x t) ?_))))
    have lw : (xs.take i).length + 1 < scanBound := by rw [List.length_take]; omega
    refine add_txt (s := { s' with toks := s'.toks + 1 }) (z.at fun o e => mv.heap S o out' e) lw fun b h' sb z2 => ?_
    have z3 : SetT w h' S (xs.take (i + 1)) := by rw [List.take_add_one, hx]; exact z2
    refine wpAny_pure ⟨plainId_quiet F.plain_set_update_loop _, ih (i + 1) _ (by omega) (W.frame _ s' _ _ st' (Nat.le_succ _) fun b hb o e => ?_) z3 fun s2 mv2 z4 => hR s2 ?_ z4⟩
    · rw [sb.2 b fun q => out (q ▸ hb)]
      exact e
    · refine Moved.trans W.gtrans ((mv.mono wider).then_heap (Nat.le_succ _) fun b o hb e => ?_) mv2
      rw [sb.2 b fun q => hb (q ▸ .head _)]
      exact e
/-- set.__init__ of a new set, by a list or a tuple of texts -/
theorem init_txt {s : Shared} {S l : Addr} {items : Array Value} (xs : List Str) {R : Result → Shared → Prop} (hh : A.handled = none) (hS : s.heap.get? S = some (set0 w)) (ne : l ≠ S) (hl : s.heap.IsList l items ∨ s.heap.IsTuple l items)
    (hx : ∀ (i : Nat) (v : Value), items[i]? = some v → ∃ x t, xs[i]? = some x ∧ v = Value.str x t) (hz : items.size = xs.length) (few : xs.length + 1 < scanBound)
    (h : ∀ (h' : Heap) (tk : Nat), SetT w h' S xs → (∀ b o, b ≠ S → s.heap.get? b = some o → h'.get? b = some o) → R (.ok (.ret .none)) { s with heap := h', toks := tk }) :
    wpAny (model P w) A.in1 (Builtin.«set.__init__» ⟨[.ref S, .ref l], []⟩) (fun fin s' => match fin with | .done f => R (.ok f) s' | .again c => c.quiet = true ∧ codeAny (model P w) A c R s') (fun e s' => R (.error e) s') s := by
  have hls : l < s.heap.objs.size := by rcases hl with hl | hl <;> (obtain ⟨o, e, _⟩ := hl; exact Heap.lt_size e)
  have hSs : S < s.heap.objs.size := Heap.lt_size hS
  have out : S ∉ [s.heap.objs.size, l] := by
    simp only [List.mem_cons, List.not_mem_nil, or_false, not_or]
    exact ⟨Nat.ne_of_lt hSs, Ne.symm ne⟩
  have hT : Shared.TypeIs s (.ref S) "set" := ⟨_, hS, rfl⟩
  have hne : l ≠ s.heap.objs.size := Nat.ne_of_lt hls
  have h2 : A.in1.in1.handled = none := by simp [hh]
  have fin : ∀ (s' : Shared) (ob : Obj) (G : Array GenState → Array GenState → Prop), (∀ a b, G a b → b = a) → Moved [S, s.heap.objs.size] G { s with heap := s.heap.push ob } s' → SetT w s'.heap S xs → R (.ok (.ret .none)) s' := fun s' ob G hG mv z => by
    obtain ⟨h', g2, d', tk', os'⟩ := s'
    obtain rfl : g2 = s.gens := hG _ _ mv.gens
    obtain rfl : d' = s.drawn := mv.drawn
    obtain rfl : os' = s.os := mv.os
    refine h h' tk' z fun b o hb e => mv.heap b o ?_ (Heap.get?_push_of_some _ e)
    simp only [List.mem_cons, List.not_mem_nil, or_false, not_or]
    exact ⟨hb, Nat.ne_of_lt (Heap.lt_size e)⟩
  have z0 : ∀ ob, SetT w (s.heap.push ob) S (xs.take 0) := fun ob => set0_txt (Heap.get?_push_of_some _ hS)
  rcases hl with hl | hl
  · obtain ⟨⟨oc, od, odt, osl⟩, e, hcl, nl, hdl⟩ := id hl
    simp only at hcl hdl
    subst hcl; subst hdl
    have n1 := F.sub_list_set
    have n2 := F.sub_list_frozenset
    have n3 : (Value.type "list" == Value.type "dict") = false := by decide
    unfold Builtin.«set.__init__» noKeywords Builtin.Frozenset.updateFrom
    generalize hPI : pyIter = PI
    wp_walk
    subst hPI
    refine wpAny_pyIter_list hl (wpAny_bind (wpAny_runValue ?_))
    exact fill_txt (Walks.list h2 _ l hne items).toS out xs hz few hx items.size 0 _ rfl ⟨⟨_, Heap.get?_push_size _ rfl, rfl, rfl⟩, hl.push _⟩ (z0 _) fun s' mv z => wpAny_pure (wpAny_pure (fin s' _ _ (fun _ _ e => e) mv z))
  · obtain ⟨⟨oc, od, odt, osl⟩, e, hcl, nl, hdl⟩ := id hl
    simp only at hcl hdl
    subst hcl; subst hdl
    have n1 := F.sub_tuple_set
    have n2 := F.sub_tuple_frozenset
    have n3 : (Value.type "tuple" == Value.type "dict") = false := by decide
    unfold Builtin.«set.__init__» noKeywords Builtin.Frozenset.updateFrom
    generalize hPI : pyIter = PI
    wp_walk
    subst hPI
    refine wpAny_pyIter_tuple hl (wpAny_bind (wpAny_runValue ?_))
    exact fill_txt (Walks.tuple h2 _ l hne items).toS out xs hz few hx items.size 0 _ rfl ⟨⟨_, Heap.get?_push_size _ rfl, rfl, rfl⟩, hl.push _⟩ (z0 _) fun s' mv z => wpAny_pure (wpAny_pure (fin s' _ _ (fun _ _ e => e) mv z))
end
end Sd

namespace Sd
open PySem L2 PySem.Spec PyProof.Rows
section
variable {P : Program} {w : World} {A : Around} {E : Value → Shared → Prop} {s : Shared}
/-- set(xs), xs a list or a tuple of texts -/
theorem call_set_txt {l : Addr} {items : Array Value} (xs : List Str) {Q : Value → Shared → Prop} (hh : A.handled = none) (hl : s.heap.IsList l items ∨ s.heap.IsTuple l items)
    (hx : ∀ (i : Nat) (v : Value), items[i]? = some v → ∃ x t, xs[i]? = some x ∧ v = Value.str x t) (hz : items.size = xs.length) (few : xs.length + 1 < scanBound)
    (h : ∀ (h' : Heap) (tk : Nat), SetT w h' s.heap.objs.size xs → (∀ b o, s.heap.get? b = some o → h'.get? b = some o) → Q (.ref s.heap.objs.size) { s with heap := h', toks := tk }) :
    wpAny (model P w) A (call (.type "set") [.ref l]) Q E s := by
  have hlt : l < s.heap.objs.size := by rcases hl with hl | hl <;> (obtain ⟨o, e, _⟩ := hl; exact Heap.lt_size e)
  obtain ⟨c, tl, y0⟩ := F.called_set.mro
  have y1 := F.called_set.made
  have y2 := F.called_set.sub
  have y3 := F.called_set.notType
  have y4 := F.called_set.canCreate
  have y5 := F.typeCall_set_1 (.ref l)
  refine wpAny_call (codeAny_of_tree (wpAny_pure ⟨Code.quiet_builtin _ (by decide +kernel), codeAny_builtin F.entry_type_call ?_⟩))
  rewrite [Around.under_plain (weight_type_call_type "set" [.ref l] []) rfl]
  repeat (any_goals (first | assumption | wp_step))
  refine codeAny_mono (code_set_led1 (.ref l) (E := E) (Q₁ := fun ob s1 => ob = .ref s.heap.objs.size ∧ s1 = { s with heap := s.heap.push (set0 w) }) ⟨rfl, rfl⟩) fun r s1 hr => ?_
  match r, hr with
  | .ok (.ret ob), hr =>
    obtain ⟨rfl, rfl⟩ := hr
    have hS : (s.heap.push (set0 w)).get? s.heap.objs.size = some (set0 w) := Heap.get?_push_size _ rfl
    have hT : Shared.TypeIs { s with heap := s.heap.push (set0 w) } (.ref s.heap.objs.size) "set" := ⟨_, hS, rfl⟩
    have y6 := F.called_set.init.lookup
    have y7 := F.called_set.init.bind (.ref s.heap.objs.size)
    repeat (any_goals (first | assumption | wp_step))
    refine codeAny_mono (codeAny_call_builtin (R := fun r s' => r = .ok (.ret .none) ∧ ∃ h' tk, s' = { s with heap := h', toks := tk } ∧ SetT w h' s.heap.objs.size xs ∧ ∀ b o, s.heap.get? b = some o → h'.get? b = some o) F.called_set.init.plain F.entry_set_init (check_set_init_1 hT
      (init_txt (A := A.in1) (s := { s with heap := s.heap.push (set0 w) }) (S := s.heap.objs.size) (l := l) (items := items) (R := fun r s' => r = .ok (.ret .none) ∧ ∃ h' tk, s' = { s with heap := h', toks := tk } ∧ SetT w h' s.heap.objs.size xs ∧ ∀ b o, s.heap.get? b = some o → h'.get? b = some o)
        xs (show A.in1.handled = none by simp [hh]) hS (Nat.ne_of_lt hlt) (hl.imp (fun z => z.push _) fun z => z.push _) hx hz few fun h' tk z k => ⟨rfl, h', tk, rfl, z, fun b o e => k b o (Nat.ne_of_lt (Heap.lt_size e)) (Heap.get?_push_of_some _ e)⟩))) fun r s2 hr2 => ?_
    obtain ⟨rfl, h', tk, rfl, z, k⟩ := hr2
    exact wpAny_pure (wpAny_pure (h h' tk z k))
  | .error e, hr => exact hr
end
end Sd

namespace Sd
open PySem L2 PySem.Spec PyProof.Rows
def sortX (ys : List Str) : List Str := ys.mergeSort (PySem.W.dataLe false PyData.str)
theorem vals_txt : ∀ {us : List Value}, (∀ v ∈ us, ∃ x t, v = Value.str x t) → PySem.W.EachIs (fun v (x : Str) => ∃ t, v = Value.str x t) us (us.map txtOf)
  | [], _ => .nil
  | u :: us, h => by
    obtain ⟨x, t, rfl⟩ := h _ (.head _)
    exact .cons ⟨t, rfl⟩ (vals_txt fun v hv => h v (.tail _ hv))
theorem each_vals_txt : ∀ {us : List Value} {xs : List Str}, PySem.W.EachIs (fun v (x : Str) => ∃ t, v = Value.str x t) us xs → Vals (xs.map V.str) us
  | _, _, .nil => .nil
  | _, _, .cons h r => .cons h (each_vals_txt r)
section
variable {P : Program} {w : World} {A : Around} {E : Value → Shared → Prop} {s : Shared}
theorem sorted_txt {a : Addr} {xs : List Str} {Q : Value → Shared → Prop} (z : SetT w s.heap a xs) (hh : A.handled = none) (hu : A.units + 8 < cLine)
    (hQ : ∀ s' p (out : List Value) (c : Nat) (ys : List Str), (∀ b o, s.heap.get? b = some o → s'.heap.get? b = some o) → s'.gens = s.gens → s'.os = s.os → s.heap.objs.size ≤ p → s'.heap.get? p = some (seqObj "list" out.toArray c) →
      ys.Nodup → (∀ x, x ∈ ys ↔ x ∈ xs) → Vals ((sortX ys).map V.str) out → out.length ≤ sizeLine → Q (.ref p) s') : wpAny (model P w) A (call (.builtin "sorted") [.ref a]) Q E s := by
  obtain ⟨ob, rs, ep, tb, e1, e2, e3, q⟩ := z.ex
  refine Calls.call_function_entry kind_sorted plain_sorted entry_sorted (args_sorted1 _) ?_
  unfold Builtin.«sorted»
  refine wpAny_bind (m := checkCount "sorted" 1 1 _) (wpAny_pure (wpAny_bind (collect_set (A := A.in1) hh ⟨ob, e1, e2.1, e3⟩ q.fit q.low q.ris q.led fun s1 us k1 hz g1 o1 pm => ?_)))
  have ht : ∀ v ∈ us, ∃ x t, v = Value.str x t := fun v hv => by
    obtain ⟨e, he, rfl⟩ := List.mem_map.mp (pm.mem_iff.mp hv)
    obtain ⟨x, t, rfl⟩ := q.row e he
    exact ⟨x, t, rfl⟩
  have pk : (us.map txtOf).Perm (rs.toList.map fun r => txtOf r.2) := by
    have pp := pm.map txtOf
    rw [List.map_map] at pp
    exact pp
  have hlen : us.length ≤ sizeLine := by
    rw [pm.length_eq, List.length_map, Array.length_toList]
    exact fits_of_scanBound q.low
  refine wpAny_bind (wpAny_newList ?_ hlen)
  have eL : (s1.heap.push (seqObj "list" us.toArray 0)).get? s1.heap.objs.size = some (seqObj "list" us.toArray 0) := Heap.get?_push_size _ rfl
  refine wpAny_bind (wpAny_holding (PySem.W.list_sort_data (enc := PyData.str) (bs := us.map txtOf) (R := fun v (x : Str) => ∃ t, v = Value.str x t) eL (vals_txt ht) ((vals_txt ht).mono fun v x hv => ?_) ?_ ?_ (by rw [List.length_map]; exact hlen) (fun b _ => ?_) fun out ho he => ?_))
  · obtain ⟨t, rfl⟩ := hv
    exact ⟨[], .str _ _, fun m => by cases m⟩
  · intro d hd d' hd'
    obtain ⟨x, _, rfl⟩ := List.mem_map.mp hd
    obtain ⟨y, _, rfl⟩ := List.mem_map.mp hd'
    rfl
  · refine .inr fun d hd => ?_
    obtain ⟨x, _, rfl⟩ := List.mem_map.mp hd
    exact ⟨fun e => PyData.noConfusion e, fun xs e => PyData.noConfusion e⟩
  · show A.units + 1 + 1 + 0 < cLine
    omega
  · obtain ⟨c, hc⟩ := sortedHeap_at (vs := us) (out := out.toArray) eL
    refine wpAny_pure ⟨_, rfl, hQ _ s1.heap.objs.size out c (us.map txtOf) (fun b o e => ?_) g1 o1 hz hc (pk.nodup_iff.mpr q.nd) (fun x => pk.mem_iff.trans (q.mem x)) (each_vals_txt he) (by rw [ho, List.length_map]; exact hlen)⟩
    have lt := Heap.lt_size (k1 b o e)
    exact (sortedHeap_old (Nat.ne_of_lt lt) (by rw [size_push']; exact Nat.lt_succ_of_lt lt)).trans (Heap.get?_push_of_some _ (k1 b o e))
end
/-- sorted(set(xs)), xs a list or a tuple of texts -/
def tSrtSet (K : PySem.W.Frag) (ta : TE) : TE := fun σ H Q => ta σ H fun x H1 => ∃ (l : Addr) (xs : List Str), x = .ref l ∧ (SqL K H1 l (xs.map V.str) ∨ SqT K H1 l (xs.map V.str)) ∧ xs.length ≤ 1000 ∧
  ∀ ys : List Str, ys.Nodup → (∀ x, x ∈ ys ↔ x ∈ xs) → ∀ p, H1 p = none → Q (.ref p) (upd H1 p (.lst ((sortX ys).map V.str)))
theorem strs_at {xs : List Str} {us : List Value} (r : Vals (xs.map V.str) us) : ∀ (i : Nat) (v : Value), us[i]? = some v → ∃ x t, xs[i]? = some x ∧ v = Value.str x t := by
  induction xs generalizing us with
  | nil => intro i v h; cases r; simp at h
  | cons x xs ih =>
    intro i v h
    cases r with
    | cons r1 r2 =>
      cases i with
      | zero =>
        obtain ⟨t, rfl⟩ := r1
        simp at h
        exact ⟨x, t, rfl, h.symm⟩
      | succ i =>
        obtain ⟨y, t, e1, e2⟩ := ih r2 i v (by simpa using h)
        exact ⟨y, t, by simpa using e1, e2⟩
theorem pe_srtSet {X : Cx} {a : Expr} {ta : TE} {k : Nat} {p p2 q pos : Pos} (K : PySem.W.Frag) (hc : X.calm = true) (hr : Room k X.A) (hg : Gl X "sorted") (hm : X.mg "sorted" = none) (hg2 : Gl X "set") (hm2 : X.mg "set" = none) (ha : PE X a ta) (hK : X.K = K := by rfl)
    (na : starEach [a] X.env = (false, eval a X.env) :: starEach [] X.env := by rfl) : PE X (.Call (.Name "sorted" p) [.Call (.Name "set" p2) [a] [] q] [] pos) (tSrtSet K ta) := by
  subst hK
  refine ⟨fun pins s σ H Q I h => ?_⟩
  refine Call_ (ld_blt I hg hm boot_sorted ?_)
  refine PyProof.Rows.callWith_builtin1 (PyProof.Rows.args_cons (Call_ (ld_blt I hg2 hm2 boot_set ?_)) rfl) rfl rfl
  refine PyProof.Rows.callWith_type1 (PyProof.Rows.args_cons (thn (ha.run pins s σ H _ I h) fun v s1 ⟨x, H1, I1, r1, q1⟩ => PyProof.Rows.args_nil ?_) na) na rfl
  obtain ⟨l, xs, rfl, hq, h1, q1⟩ := q1
  cases r1
  have hd := I1.ok.hd hc
  have fin : ∀ (h' : Heap) (tk : Nat), SetT X.w h' s1.heap.objs.size xs → (∀ b o, s1.heap.get? b = some o → h'.get? b = some o) →
      wpAny (model X.prog X.w) X.A (spliced (backTo pos (starEach [] X.env))) (fun vs s₂ => wpAny (model X.prog X.w) X.A (call (.builtin "sorted") (Value.ref s1.heap.objs.size :: vs)) (EP X pins σ Q) X.xe s₂) X.xe { s1 with heap := h', toks := tk } := fun h' tk z hk => by
    refine PyProof.Rows.args_nil ?_
    have I2 : Inv X pins σ H1 { s1 with heap := h', toks := tk } := I1.kept hk
    refine sorted_txt z hd (by have := hr.un; omega) fun s' pp out c ys k2 g2 o2 hp hgt nd mem rv hol => ?_
    have hn : H1 pp = none := I2.hok.fresh hp
    have hlen : ((sortX ys).map V.str).length ≤ sizeLine := by rw [rv.length]; exact hol
    have kk : ∀ b o, s1.heap.get? b = some o → s'.heap.get? b = some o := fun b o e => k2 b o (hk b o e)
    have hp1 : s1.heap.objs.size ≤ pp := by
      obtain ⟨ob, rs, ep, tb, e1, _⟩ := z.ex
      exact Nat.le_trans (Nat.le_of_lt (Heap.lt_size e1)) hp
    have J : Inv X pins σ (upd H1 pp (.lst ((sortX ys).map V.str))) { s1 with heap := s'.heap, gens := s'.gens, drawn := s'.drawn, toks := s'.toks } :=
      I1.call (ch := []) (Un.laid kk hp1 hn) (I1.hok.laid kk hp1 ⟨hlen, out, c, rv, hgt⟩) (by rw [g2]; exact I1.bare) (fun _ z => nomatch z)
    have e : s' = { s1 with heap := s'.heap, gens := s'.gens, drawn := s'.drawn, toks := s'.toks } := by
      cases s'
      cases s1
      cases o2
      rfl
    rw [e]
    exact ⟨.ref pp, _, J, rfl, q1 ys nd mem pp hn⟩
  rcases hq with hq | hq
  · obtain ⟨its, r, pl, hz⟩ := I1.list hq
    have hl : its.length = xs.length := by rw [← r.length, List.length_map]
    exact call_set_txt xs hd (.inl pl.isList) (fun i v h => strs_at r i v (by simpa using h)) (by simpa using hl) (by unfold scanBound; omega) fin
  · obtain ⟨its, r, pl, hz⟩ := I1.tuple hq
    have hl : its.length = xs.length := by rw [← r.length, List.length_map]
    exact call_set_txt xs hd (.inr pl) (fun i v h => strs_at r i v (by simpa using h)) (by simpa using hl) (by unfold scanBound; omega) fin
end Sd

namespace Sd
open PySem L2
section
variable {X : Cx} {e : Expr} {te : TE}
theorem kop_catA (K : PySem.W.Frag) (h : X.K = K := by rfl) : OpR X (binaryOp .Add) (rCatA K) := h ▸ op_catA
theorem kpe_revL (K : PySem.W.Frag) {k : Nat} {p1 p2 p3 pos : Pos} (he : PE X e te) (h : X.K = K := by rfl) : PE X (.Subscript e (.Slice none none (some (.UnaryOp .USub (.Constant (.int 1) k p1) p2)) p3) pos) (tRevL K te) := h ▸ pe_revL he
def rDict (K : PySem.W.Frag) : List V → Hp → VK → Prop := fun xs H Q => ∃ (a : Addr) (ps : List Addr) (kvs : List (Key × V)), xs = [.ref a] ∧ SqL K H a (ps.map V.ref) ∧ Paired (fun p kv => SqT K H p [kV kv.1, kv.2]) ps kvs ∧ ∀ p, H p = none → Q (.ref p) (upd H p (.dK (mergeK [] kvs)))
theorem kcall_dict (K : PySem.W.Frag) (hc : X.calm = true := by rfl) (h : X.K = K := by rfl) : CallR X (.type "dict") (rDict K) := by subst h; exact call_dictP hc
end
section
variable {K : PySem.W.Frag} {δ : DSt} {M : Mem} {P : SV → Mem → Prop} {ta tb te tl : TE} {tt : TT}
theorem strs_dq {H : Hp} : ∀ ns : List Str, DqAll K H (ns.map V.str) (ns.map .str)
  | [] => .nil
  | n :: ns => .cons (.str n) (strs_dq ns)
/-- sorted(set(xs)) -/
theorem dE_srtSet (h : dE K ta δ M fun x M1 => ∃ ns : List Str, Seq M1 x (ns.map .str) ∧ ns.length ≤ 1000 ∧ ∀ ys : List Str, ys.Nodup → (∀ x, x ∈ ys ↔ x ∈ ns) → P (.d (.list ((sortX ys).map .str))) M1) : dE K (tSrtSet K ta) δ M P := fun σ H H1 e w Q q =>
  h σ H H1 e w _ fun v x H' M' H2 hb s1 w1 vx => by
    obtain ⟨ns, sq, hl, p⟩ := hb
    obtain ⟨a, vs, rfl, h1, h2⟩ := sq.sq w1 vx
    obtain rfl := strs_of h2
    refine ⟨a, ns, rfl, h1.imp SqL.of id, hl, fun ys nd mem l hln => ?_⟩
    obtain ⟨w2, s2⟩ := laid_ok (o := .lst ((sortX ys).map V.str)) w1 hln
    exact q _ _ _ M' _ (p ys nd mem) (s1.trans w w1 s2) w2 (.lst upd_same (strs_dq _))
/-- t + u, any of them empty -/
theorem dR_catA {ds es : List PyData} (hz : ds.length + es.length ≤ 100000) (p : P (.d (.tuple (ds ++ es))) M) : dR K (rCatA K) (.d (.tuple ds)) (.d (.tuple es)) M P := fun v w H H1 hv hw wk Q q => by
  cases hv with
  | tup a1 a2 =>
    cases hw with
    | tup b1 b2 =>
      refine ⟨_, _, _, _, rfl, rfl, sqTx wk.ex a1, sqTx wk.ex b1, by rw [a2.length, b2.length]; exact Nat.le_trans hz (by decide), fun e0 => ?_, fun _ e0 => ?_, fun _ _ l hl => ?_⟩
      · subst e0
        cases a2
        exact q _ _ H M H1 p Step.refl wk (.tup b1 b2)
      · subst e0
        cases b2
        rw [List.append_nil] at p
        exact q _ _ H M H1 p Step.refl wk (.tup a1 a2)
      · obtain ⟨w2, s2⟩ := laid_ok (o := .tup (_ ++ _)) wk hl
        exact q _ _ _ M _ p s2 w2 (.tup (SqT.of upd_same) (DqAll.mono s2.pure _ _ (a2.append b2)))
theorem DqAll.reverse {H : Hp} : ∀ {vs : List V} {ds : List PyData}, DqAll K H vs ds → DqAll K H vs.reverse ds.reverse
  | _, [], h => by cases h; exact .nil
  | _, d :: ds, h => by
    cases h with
    | cons h1 h2 =>
      rw [List.reverse_cons, List.reverse_cons]
      exact (DqAll.reverse h2).append (.cons h1 .nil)
/-- xs[::-1] -/
theorem dE_revL (h : dE K te δ M fun x M1 => ∃ ds, SeqL M1 x ds ∧ P (.d (.list ds.reverse)) M1) : dE K (tRevL K te) δ M P := fun σ H H1 e w Q q =>
  h σ H H1 e w _ fun v x H' M' H2 hb s1 w1 vx => by
    obtain ⟨ds, sq, p⟩ := hb
    obtain ⟨a, vs, rfl, h1, h2⟩ := sq.sq w1 vx
    refine ⟨a, vs, rfl, SqL.of h1, fun l hl => ?_⟩
    obtain ⟨w2, s2⟩ := laid_ok (o := .lst vs.reverse) w1 hl
    exact q _ _ _ M' _ p (s1.trans w w1 s2) w2 (.lst upd_same (DqAll.mono s2.pure _ _ h2.reverse))
/-! ### a dict of texts -/
theorem put_new {kvs : List (Key × V)} {k : Key} {v : V} (h : k ∉ kvs.map Prod.fst) : putK kvs k v = kvs ++ [(k, v)] := by
  unfold putK
  rw [if_neg]
  intro c
  obtain ⟨p, hp, hk⟩ := List.any_eq_true.mp c
  exact h (List.mem_map.mpr ⟨p, hp, of_decide_eq_true hk⟩)
theorem merge_new : ∀ (more kvs : List (Key × V)), ((kvs ++ more).map Prod.fst).Nodup → mergeK kvs more = kvs ++ more
  | [], kvs, _ => (List.append_nil _).symm
  | p :: r, kvs, h => by
    show mergeK (putK kvs p.1 p.2) r = _
    have e : kvs ++ p :: r = (kvs ++ [p]) ++ r := by rw [List.append_assoc]; rfl
    rw [put_new (fun m => by
      rw [List.map_append, List.nodup_append] at h
      exact h.2.2 p.1 m p.1 (List.mem_map.mpr ⟨p, .head _, rfl⟩) rfl), merge_new r _ (by rw [← e]; exact h), ← e]
theorem pairs_dq {H H1 : Hp} (ex : Ex H H1) : ∀ {vs : List V} {ps : List (Str × PyData)}, DqAll K H vs (ps.map fun p => PyData.tuple [.str p.1, p.2]) →
    ∃ (as : List Addr) (us : List V), vs = as.map V.ref ∧ Paired (fun p (kv : Key × V) => SqT K H1 p [kV kv.1, kv.2]) as ((ps.map fun p => (Sum.inr p.1 : Key)).zip us) ∧ DqAll K H us (ps.map Prod.snd)
  | _, [], h => by
    cases h
    exact ⟨[], [], rfl, .nil, .nil⟩
  | _, p :: ps, h => by
    cases h with
    | cons h1 h2 =>
      obtain ⟨as, us, e1, e2, e3⟩ := pairs_dq ex h2
      cases h1 with
      | tup t1 t2 =>
        cases t2 with
        | cons x1 t2 =>
          cases t2 with
          | cons x2 t2 =>
            cases t2
            cases x1
            exact ⟨_ :: as, _ :: us, by rw [e1]; rfl, .cons (sqTx ex t1) e2, .cons x2 e3⟩
theorem dC_dict {x : SV} {ps : List (Str × PyData)} (s : SeqL M x (ps.map fun p => PyData.tuple [.str p.1, p.2])) (nd : (ps.map Prod.fst).Nodup) (p : P (.q ps) M) : dC K (rDict K) [x] M P := fun vs H H1 hv wk Q q => by
  cases hv with
  | cons h t =>
    cases t
    obtain ⟨a, vs, rfl, h1, h2⟩ := s.sq wk h
    obtain ⟨as, us, rfl, e2, e3⟩ := pairs_dq (K := K) wk.ex h2
    have hl := e3.length
    refine ⟨a, as, _, rfl, SqL.of h1, e2, fun l hln => ?_⟩
    rw [merge_new _ _ (by
      rw [List.nil_append, List.map_fst_zip (by rw [hl, List.length_map, List.length_map]; exact Nat.le_refl _)]
      have z : ps.map (fun p => (Sum.inr p.1 : Key)) = (ps.map Prod.fst).map Sum.inr := by rw [List.map_map]; rfl
      rw [z]
      exact List.Pairwise.map _ (fun a b hab e => hab (Sum.inr.inj e)) nd), List.nil_append]
    obtain ⟨w2, s2⟩ := laid_ok (o := .dK ((ps.map fun p => (Sum.inr p.1 : Key)).zip us)) wk hln
    exact q _ _ _ M _ p s2 w2 ⟨l, us, rfl, upd_same, DqAll.mono s2.pure _ _ e3⟩
theorem val_at {H : Hp} : ∀ {ps : List (Str × PyData)} {vs : List V} {k : Str} {d : PyData}, DqAll K H vs (ps.map Prod.snd) → ps.lookup k = some d → ∃ v, valV ((ps.map fun p => (Sum.inr p.1 : Key)).zip vs) (Sum.inr k) = some v ∧ Dq K H v d
  | [], _, _, _, _, e => by cases e
  | p :: ps, _, k, d, h, e => by
    cases h with
    | cons h1 h2 =>
      rw [List.map_cons, List.zip_cons_cons]
      by_cases c : p.1 = k
      · subst c
        rw [List.lookup_cons_self] at e
        cases e
        exact ⟨_, valV_pos rfl, h1⟩
      · have c2 : (k == p.1) = false := beq_eq_false_iff_ne.mpr (Ne.symm c)
        rw [List.lookup_cons, c2] at e
        obtain ⟨v, e1, e2⟩ := val_at h2 e
        exact ⟨v, by rw [valV_neg (fun z => c (Sum.inr.inj z))]; exact e1, e2⟩
/-- d[k] -/
theorem dE_dget (h : dE K ta δ M fun x M1 => dE K tb δ M1 fun y M2 => ∃ ps k d, x = .q ps ∧ y = .d (.str k) ∧ ps.lookup k = some d ∧ P (.d d) M2) : dE K (tDGet ta tb) δ M P := fun σ H H1 e w Q q =>
  h σ H H1 e w _ fun v x H' M' H2 hb s1 w1 vx => hb σ H' H2 (e.mono s1.pure) w1 _ fun u y H'' M'' H3 hr s2 w2 vy => by
    obtain ⟨ps, k, d, rfl, rfl, hk, pp⟩ := hr
    obtain ⟨a, vs, rfl, h1, h2⟩ := vx
    cases vy
    obtain ⟨z, e1, e2⟩ := val_at (h2.mono s2.pure) hk
    refine ⟨a, z, rfl, ?_, q _ _ H'' M'' H3 pp (s1.trans w w1 s2) w2 e2⟩
    rw [← e1]
    exact DGet.k (k := Sum.inr k) (w2.ex _ _ (s2.pure _ _ h1))
/-- [e for x, y in xs if t], nothing drawn in it -/
theorem dE_lcL2 {α : Type} {e1 e2 out : α → PyData} {pt : α → Bool} {xs : List α} {i j : Nat} (hij : i ≠ j) (h : dE K tl δ M fun r M1 => r = .d (.list (xs.map fun x => PyData.tuple [e1 x, e2 x])) ∧ M1 = M ∧ xs.length ≤ 40000 ∧
    (∀ x ∈ xs, dT K tt (((wipeD δ [i, j]).set i (some (.d (e1 x)))).set j (some (.d (e2 x)))) M fun b M2 => b = pt x ∧ M2 = M) ∧
    (∀ x ∈ xs, pt x = true → dE K te (((wipeD δ [i, j]).set i (some (.d (e1 x)))).set j (some (.d (e2 x)))) M fun y M2 => y = .d (out x) ∧ M2 = M) ∧ Res P ((xs.filter pt).map out) M) :
    dE K (tLc (iList K tl) (gTup K 2 (gCons (gName i) (gCons (gName j) gNil))) tt te [i, j]) δ M P := by
  refine dE_lcL (gw_name2 2 i j hij) (h.mono fun r M1 hh => ?_)
  obtain ⟨rfl, rfl, hl, ht, he, hr⟩ := hh
  refine ⟨_, rfl, by rw [List.length_map]; exact hl, fun n acc M' => M' = M1 ∧ acc = ((xs.take n).filter pt).map out, ⟨rfl, rfl⟩, fun n d acc M' hx hI => ?_, fun acc M' hI => ?_⟩
  · obtain ⟨rfl, rfl⟩ := hI
    obtain ⟨x, hx1, rfl⟩ := map_at hx
    have hm := List.mem_of_getElem? hx1
    have e : (xs.take (n + 1)).filter pt = (xs.take n).filter pt ++ [x].filter pt := by rw [List.take_succ, hx1, List.filter_append]; rfl
    refine dG_tup rfl (dGs_cons (dG_name (dGs_cons (dG_name (dGs_nil ((ht x hm).mono fun b M3 hb => ?_))))))
    obtain ⟨rfl, rfl⟩ := hb
    refine ifB (fun hp => (he x hm hp).mono fun y M4 hy => ?_) (fun hp => ⟨rfl, ?_⟩)
    · obtain ⟨rfl, rfl⟩ := hy
      refine ⟨_, rfl, rfl, ?_⟩
      rw [e, List.map_append, List.filter_cons, if_pos hp]
      rfl
    · rw [e, List.filter_cons, if_neg (by rw [hp]; decide)]
      simp
  · obtain ⟨rfl, rfl⟩ := hI
    rw [List.length_map, List.take_length]
    exact hr
end
end Sd

/-! Sd: texts, truths as numbers, chains of comparisons, all, zip, isinstance of several -/
namespace Sd
open PySem L2
/-- a number: an int, or a truth -/
def nuV : V → Option Int
  | .int i => some i
  | .bl b => some (if b = true then 1 else 0)
  | _ => none
section
variable {P : Program} {w : World} {A : Around} {E : Value → Shared → Prop} {s : Shared}
theorem gives_negB (b : Bool) : Gives (Builtin.«int.__neg__» ⟨[.bool b], []⟩) (.int (-(if b = true then (1 : Int) else 0))) :=
  .of_wp fun M A E s Q h => by obtain ⟨hp, g, d, tk, os⟩ := s; wp_walk; exact ⟨_, rfl, h⟩
theorem neg_bl {b : Bool} {Q : Value → Shared → Prop} (h : Q (.int (-(if b = true then (1 : Int) else 0)) s.toks) { s with toks := s.toks + 1 }) : wpAny (model P w) A (unaryOp .USub (.bool b)) Q E s :=
  unaryOp_gives (op := .USub) (T := "bool") rfl rfl F.slot_bool_neg F.entry_int_neg (F.args_int_neg_1 _) (gives_negB b) h
end
section
variable {X : Cx}
def rNum (f : Int → Int → Int) : R2 := fun x y H Q => ∃ i j, nuV x = some i ∧ y = .int j ∧ Q (.int (f i j)) H
theorem op_addN : OpR X (binaryOp .Add) (rNum fun i j => i + j) := by
  intro pins s σ H x y v u Q I rx ry h
  obtain ⟨i, j, hx, rfl, q⟩ := h
  cases x with
  | int k => cases hx; exact op_add pins s σ H _ _ v u Q I rx ry ⟨_, _, rfl, rfl, q⟩
  | bl b =>
    cases hx
    cases rx
    obtain ⟨t, rfl⟩ := ry
    exact IntBool.add_bool_int ⟨.int _, H, I.tok _, ⟨_, rfl⟩, q⟩
  | _ => cases hx
theorem op_subN : OpR X (binaryOp .Sub) (rNum fun i j => i - j) := by
  intro pins s σ H x y v u Q I rx ry h
  obtain ⟨i, j, hx, rfl, q⟩ := h
  cases x with
  | int k => cases hx; exact op_sub pins s σ H _ _ v u Q I rx ry ⟨_, _, rfl, rfl, q⟩
  | bl b =>
    cases hx
    cases rx
    obtain ⟨t, rfl⟩ := ry
    exact IntBool.sub_bool_int ⟨.int _, H, I.tok _, ⟨_, rfl⟩, q⟩
  | _ => cases hx
def rNegN : V → Hp → VK → Prop := fun x H Q => ∃ i, nuV x = some i ∧ Q (.int (-i)) H
theorem un_negN : UnR X (unaryOp .USub) rNegN := by
  intro pins s σ H x v Q I rx h
  obtain ⟨i, hx, q⟩ := h
  cases x with
  | int k => cases hx; exact un_neg pins s σ H _ v Q I rx ⟨_, rfl, q⟩
  | bl b =>
    cases hx
    cases rx
    exact neg_bl ⟨.int _, H, I.tok _, ⟨_, rfl⟩, q⟩
  | _ => cases hx
/-- str(x), x a number -/
def rStrN : List V → Hp → VK → Prop := fun xs H Q => (∃ i : Int, xs = [.int i] ∧ i.natAbs.log2 < 1920 ∧ Q (.str (toString i)) H) ∨ ∃ b : Bool, xs = [.bl b] ∧ Q (.str (if b = true then "True" else "False")) H
theorem call_strN : CallR X (.type "str") rStrN := by
  intro pins s σ H xs us Q I r h
  rcases h with h | ⟨b, rfl, q⟩
  · exact call_str_int pins s σ H xs us Q I r h
  · obtain ⟨u, rfl, hu⟩ := vals1 r
    cases hu
    exact PySem.P.str_of_bool ⟨.str _, H, I.tok _, ⟨_, rfl⟩, q⟩
/-- x not in text, x one sign -/
def rNotInS : R2 := fun x y H Q => ∃ (c : Nat) (z : Str), x = .str ⟨#[c]⟩ ∧ y = .str z ∧ Q (.bl (!decide (c ∈ z.cps.toList))) H
theorem op_notInS : OpR X (compareOp .NotIn) rNotInS := by
  intro pins s σ H x y v u Q I rx ry h
  obtain ⟨c, z, rfl, rfl, q⟩ := h
  obtain ⟨t, rfl⟩ := rx
  obtain ⟨t', rfl⟩ := ry
  refine PySem.P.notIn_str (fin_bl I q ?_)
  rw [StrLaws.found_one]
end
end Sd

namespace Sd
open PySem L2 PySem.Spec PyProof.Rows
theorem fm_congr {α β : Type} {f g : α → Option β} : ∀ {l : List α}, (∀ x ∈ l, f x = g x) → l.filterMap f = l.filterMap g
  | [], _ => rfl
  | x :: l, h => by rw [List.filterMap_cons, List.filterMap_cons, h x (.head _), fm_congr fun y hy => h y (.tail _ hy)]
theorem back_pick (xs : Array Value) : ((List.range xs.size).filterMap fun (k : Nat) => xs[(((xs.size : Int) - 1) + (k : Int) * (-1)).toNat]?).toArray = xs.toList.reverse.toArray := by
  rw [← PySem.W.krv_all xs, ← List.filterMap_reverse, ← PySem.W.krv_range, List.filterMap_map]
  congr 1
  refine fm_congr fun k hk => ?_
  have := List.mem_range.mp hk
  show xs[(((xs.size : Int) - 1) + (k : Int) * (-1)).toNat]? = xs[xs.size - 1 - k]?
  congr 1
  omega
theorem back_places (n : Nat) : Builtin.Slice.slicePlaces ((n : Int) - 1) (-1) (-1) = n := by
  unfold Builtin.Slice.slicePlaces
  rw [if_neg (by decide)]
  by_cases h : n = 0
  · subst h; rfl
  · rw [if_pos (by omega), show (-(-1) : Int) = 1 from rfl, Int.ediv_one]
    omega
section
variable {prog : Program} {w : World} {A : Around} {E : Value → Shared → Prop} {s : Shared}
theorem getItem_back {t sl : Addr} {items : Array Value} {vs : Value} {Q : Value → Shared → Prop} (ht : IsTup s.heap t items) (hs : s.heap.IsSliceOf sl .none .none vs) (ps : IsPart vs (some (-1)))
    (h : Q (.ref s.heap.objs.size) { s with heap := s.heap.push { cls := .type "tuple", data := .seq items.toList.reverse.toArray } }) (hsz : items.size ≤ sizeLine) : wpAny (model prog w) A (getItem (.ref t) (.ref sl)) Q E s := by
  have fits : sizeOk (.seq items.toList.reverse.toArray) := by
    show items.toList.reverse.toArray.size ≤ sizeLine
    rw [List.size_toArray, List.length_reverse, Array.length_toList]
    exact hsz
  obtain ⟨os, e1, e2, e3⟩ := id hs
  have tS : s.TypeIs (.ref sl) "slice" := ⟨os, e1, e2⟩
  have app : ∀ (Q' : Int × Int × Nat → Shared → Prop) (A' : Around) (E' : Value → Shared → Prop), Q' ((items.size : Int) - 1, -1, items.size) s → wpAny (model prog w) A' (Builtin.Slice.sliceApplied (.ref sl) (pure (items.size : Int))) Q' E' s := fun Q' A' E' hq => by
    unfold Builtin.Slice.sliceApplied Builtin.Slice.sliceFields
    refine wpAny_bind (wpAny_bind (wpAny_field e1 e3 (x := .none) rfl (wpAny_bind (wpAny_field e1 e3 (x := .none) rfl (wpAny_bind (wpAny_field e1 e3 (x := vs) rfl (wpAny_pure ?_)))))))
    refine wpAny_bind (HT.slicePart_ ps ?_)
    show wpAny _ _ (if ((-1 : Int) == 0) = true then _ else _) _ _ s
    rw [if_neg (by decide)]
    refine wpAny_bind (HT.slicePart_ .none (wpAny_bind (HT.slicePart_ .none (wpAny_bind (wpAny_pure ?_)))))
    have e : (match Builtin.Slice.sliceAdjust none none (-1) (items.size : Int) with | (lo, hi) => (pure (lo, (-1 : Int), Builtin.Slice.slicePlaces lo hi (-1)) : Sem (Int × Int × Nat))) = pure ((items.size : Int) - 1, -1, items.size) := by
      show (pure ((items.size : Int) - 1, (-1 : Int), Builtin.Slice.slicePlaces ((items.size : Int) - 1) (-1) (-1)) : Sem (Int × Int × Nat)) = _
      rw [back_places]
    exact wpAny_of_eq e hq
  unfold getItem
  refine wpAny_holding (wpAny_bind (wpAny_sequenceKey ht.typeIs (by decide) (wpAny_bind (wpAny_callSpecial?_slot (name := Str.ofString "__getitem__") ht.typeIs PyProof.Rows.slot_tuple_getitem
    (wpAny_call_entry PyProof.Rows.slot_tuple_getitem ht.typeIs entry_tuple_getitem ?_ (args_tuple_getitem _ _))))))
  refine wpAny_bind (m := Builtin.Tuple.tupleItemsOf (.ref t)) (tupleItemsOf_ ht (wpAny_bind (wpAny_typeOf tS ?_)))
  rw [if_pos (by decide)]
  refine wpAny_bind (app _ _ _ ?_)
  show wpAny _ _ (if (((items.size : Int) - 1) == 0 && (-1 : Int) == 1 && items.size == items.size) = true then _ else _) _ _ s
  rw [if_neg (by rw [show ((-1 : Int) == 1) = false from rfl, Bool.and_false, Bool.false_and]; exact Bool.false_ne_true), back_pick]
  first
    | exact wpAny_bind (m := Builtin.Tuple.tupleExact _) (wpAny_newObj_type (wpAny_pure ⟨_, rfl, wpAny_pure h⟩) fits)
    | exact wpAny_bind (m := Builtin.Tuple.tupleExact _) (wpAny_newObj_type (wpAny_bind (wpAny_pure (wpAny_pure ⟨_, rfl, wpAny_pure h⟩))) fits)
    | exact wpAny_bind (wpAny_bind (m := Builtin.Tuple.tupleExact _) (wpAny_newObj_type (wpAny_pure ⟨_, rfl, wpAny_pure h⟩) fits))
end
/-- t[::-1], t a tuple -/
def tRevT (K : PySem.W.Frag) (te : TE) : TE := fun σ H Q => te σ H fun x H1 => ∃ a xs, x = .ref a ∧ SqT K H1 a xs ∧ ∀ p, H1 p = none → Q (.ref p) (upd H1 p (.tup xs.reverse))
theorem pe_revT {X : Cx} {e : Expr} {te : TE} {k : Nat} {p1 p2 p3 pos : Pos} (K : PySem.W.Frag) (he : PE X e te) (hK : X.K = K := by rfl) : PE X (.Subscript e (.Slice none none (some (.UnaryOp .USub (.Constant (.int 1) k p1) p2)) p3) pos) (tRevT K te) := by
  subst hK
  refine ⟨fun pins s σ H Q I h => Subscript_ (thn (he.run pins s σ H _ I h) fun v s1 ⟨x, H1, I1, r1, a, xs, ex, hx, q⟩ => ?_)⟩
  subst ex
  cases r1
  have hst : PO X (some (.UnaryOp .USub (.Constant (.int 1) k p1) p2)) (tPart (tUn (rU fun i => .int (-i)) (tC (.int 1)))) := po_some (pe_un un_neg pe_int)
  refine wpAny_Slice (thn (po_none.run pins s1 σ H1 (fun o H2 => o = none ∧ H2 = H1) I1 ⟨rfl, rfl⟩) fun vl s2 ⟨_, _, I2, pl, rfl, rfl⟩ => ?_)
  refine thn (po_none.run pins s2 σ _ (fun o H3 => o = none ∧ H3 = _) I2 ⟨rfl, rfl⟩) fun vu s3 ⟨_, _, I3, pu, rfl, rfl⟩ => ?_
  refine thn (hst.run pins s3 σ _ (fun o H4 => o = some (-1) ∧ H4 = _) I3 ⟨1, rfl, -1, rfl, rfl, rfl⟩) fun vs s4 ⟨_, H4, I4, ps, rfl, e4⟩ => ?_
  subst e4
  cases pl
  cases pu
  have I5 : Inv X pins σ H4 { s4 with heap := s4.heap.push { cls := .type "slice", data := .fields #[.none, .none, vs] } } := I4.kept (t' := s4.toks) fun b ob q => Heap.get?_push_of_some _ q
  obtain ⟨its, r, ht, hz⟩ := I5.tuple hx
  have hlen : its.toArray.size ≤ sizeLine := by rw [List.size_toArray, ← r.length]; exact hz
  refine tail_any (ops := [.ref a, .ref s4.heap.objs.size]) ht.typeIs PyProof.Rows.slot_tuple_getitem.lookup (getItem_back ht (Heap.IsSliceOf.new _ _ _ vs) ps ⟨.ref _, _, I5.laid (t' := s4.toks) (o := .tup xs.reverse) (fun b ob q => Heap.get?_push_of_some _ q) (Nat.le_refl _) ?_, rfl, q _ (I5.hok.fresh (Nat.le_refl _))⟩ hlen) (by with_unfolding_all rfl)
  exact ⟨by rw [List.length_reverse]; exact hz, _, r.reverse, IsTup.new _ _⟩
end Sd

namespace Sd
open PySem L2
/-! ### kinds -/
def isNum : PyData → Bool
  | .int _ => true
  | .bool _ => true
  | _ => false
def isBl : PyData → Bool
  | .bool _ => true
  | _ => false
def isStr : PyData → Bool
  | .str _ => true
  | _ => false
def isTup : PyData → Bool
  | .tuple _ => true
  | _ => false
def isLst : PyData → Bool
  | .list _ => true
  | _ => false
theorem kit_int : ∀ d, kitB (tyName d) "int" = some (isNum d)
  | .none => show kitB "NoneType" "int" = some false by decide +kernel
  | .bool _ => show kitB "bool" "int" = some true by decide +kernel
  | .int _ => show kitB "int" "int" = some true by decide +kernel
  | .str _ => show kitB "str" "int" = some false by decide +kernel
  | .list _ => show kitB "list" "int" = some false by decide +kernel
  | .tuple _ => show kitB "tuple" "int" = some false by decide +kernel
  | .dict _ => show kitB "dict" "int" = some false by decide +kernel
theorem kit_bool : ∀ d, kitB (tyName d) "bool" = some (isBl d)
  | .none => show kitB "NoneType" "bool" = some false by decide +kernel
  | .bool _ => show kitB "bool" "bool" = some true by decide +kernel
  | .int _ => show kitB "int" "bool" = some false by decide +kernel
  | .str _ => show kitB "str" "bool" = some false by decide +kernel
  | .list _ => show kitB "list" "bool" = some false by decide +kernel
  | .tuple _ => show kitB "tuple" "bool" = some false by decide +kernel
  | .dict _ => show kitB "dict" "bool" = some false by decide +kernel
theorem kit_str : ∀ d, kitB (tyName d) "str" = some (isStr d)
  | .none => show kitB "NoneType" "str" = some false by decide +kernel
  | .bool _ => show kitB "bool" "str" = some false by decide +kernel
  | .int _ => show kitB "int" "str" = some false by decide +kernel
  | .str _ => show kitB "str" "str" = some true by decide +kernel
  | .list _ => show kitB "list" "str" = some false by decide +kernel
  | .tuple _ => show kitB "tuple" "str" = some false by decide +kernel
  | .dict _ => show kitB "dict" "str" = some false by decide +kernel
theorem kit_tup : ∀ d, kitB (tyName d) "tuple" = some (isTup d)
  | .none => show kitB "NoneType" "tuple" = some false by decide +kernel
  | .bool _ => show kitB "bool" "tuple" = some false by decide +kernel
  | .int _ => show kitB "int" "tuple" = some false by decide +kernel
  | .str _ => show kitB "str" "tuple" = some false by decide +kernel
  | .list _ => show kitB "list" "tuple" = some false by decide +kernel
  | .tuple _ => show kitB "tuple" "tuple" = some true by decide +kernel
  | .dict _ => show kitB "dict" "tuple" = some false by decide +kernel
theorem kit_lst : ∀ d, kitB (tyName d) "list" = some (isLst d)
  | .none => show kitB "NoneType" "list" = some false by decide +kernel
  | .bool _ => show kitB "bool" "list" = some false by decide +kernel
  | .int _ => show kitB "int" "list" = some false by decide +kernel
  | .str _ => show kitB "str" "list" = some false by decide +kernel
  | .list _ => show kitB "list" "list" = some true by decide +kernel
  | .tuple _ => show kitB "tuple" "list" = some false by decide +kernel
  | .dict _ => show kitB "dict" "list" = some false by decide +kernel
def nuD : PyData → Option Int
  | .int i => some i
  | .bool b => some (if b = true then 1 else 0)
  | _ => none
section
variable {X : Cx}
theorem kcall_isiT (K : PySem.W.Frag) (h : X.K = K := by rfl) : CallR X (.builtin "isinstance") (rIsiT K) := h ▸ call_isiT
theorem kcr_all (K : PySem.W.Frag) (hc : X.calm = true := by rfl) (h : X.K = K := by rfl) : CallR X (.builtin "all") (rAll K) := h ▸ cr_all hc
theorem ksl_tupA (K : PySem.W.Frag) (h : X.K = K := by rfl) : SlR X (rSlA K) := h ▸ sl_tupA
theorem kpi_zip {e e2 : Expr} {ta : TA} {p pos tpos : Pos} {elts : List Expr} {kk : Nat} (K : PySem.W.Frag) (hg : Gl X "zip") (hm : X.mg "zip" = none) (ha : PA X [e, e2] ta) (h : X.K = K := by rfl)
    (hs : starEach [e, e2] X.env = (false, eval e X.env) :: starEach [e2] X.env := by rfl) (hpl : (backTo pos (starEach [e2] X.env)).any (·.1) = false := by rfl) :
    PI X (.Tuple elts kk tpos) (.Call (.Name "zip" p) [e, e2] [] pos) (iZip K ta) := h ▸ pi_zip hg hm ha hs hpl
end
section
variable {K : PySem.W.Frag} {δ : DSt} {M : Mem} {P : SV → Mem → Prop} {PB : Bool → Mem → Prop} {ta tb tc te tl : TE} {tt : TT} {g : TG}
theorem nu_ok {H : Hp} {v : V} {d : PyData} {i : Int} (h : Dq K H v d) (e : nuD d = some i) : nuV v = some i := by
  cases d with
  | int k => cases h; exact e
  | bool b => cases h; exact e
  | _ => cases e
theorem dR_num {f : Int → Int → Int} {d : PyData} {i j : Int} (e : nuD d = some i) (p : P (.d (.int (f i j))) M) : dR K (rNum f) (.d d) (.d (.int j)) M P := fun v w H H1 hv hw wk Q q => by
  cases hw
  exact ⟨i, j, nu_ok hv e, rfl, q _ _ H M H1 p Step.refl wk (.int _)⟩
theorem dU_negN {d : PyData} {i : Int} (e : nuD d = some i) (p : P (.d (.int (-i))) M) : dU K rNegN (.d d) M P := fun v H H1 hv wk Q q => ⟨i, nu_ok hv e, q _ _ H M H1 p Step.refl wk (.int _)⟩
def strNu : PyData → Str
  | .int i => toString i
  | .bool b => if b = true then "True" else "False"
  | _ => ""
theorem dC_strN {d : PyData} (hn : isNum d = true) (hz : ∀ i, d = .int i → i.natAbs.log2 < 1920) (p : P (.d (.str (strNu d))) M) : dC K rStrN [.d d] M P := fun vs H H1 hv wk Q q => by
  cases hv with
  | cons h t =>
    cases t
    cases d with
    | int i => cases h; exact .inl ⟨i, rfl, hz i rfl, q _ _ H M H1 p Step.refl wk (.str _)⟩
    | bool b => cases h; exact .inr ⟨b, rfl, q _ _ H M H1 p Step.refl wk (.str _)⟩
    | _ => cases hn
theorem dR_I0b {f : Int → Int → Bool} {i j : Int} (p : P (.d (.bool (f i j))) M) : dR K (rI0 fun i j => .bl (f i j)) (.d (.int i)) (.d (.int j)) M P := fun v w H H1 hv hw wk Q q => by
  cases hv; cases hw
  exact ⟨i, j, rfl, rfl, q _ _ H M H1 p Step.refl wk (.bl _)⟩
theorem dR_ss {f : Str → Str → Bool} {x y : Str} (p : P (.d (.bool (f x y))) M) : dR K (fun x y H Q => ∃ i j, x = .str i ∧ y = .str j ∧ Q (.bl (f i j)) H) (.d (.str x)) (.d (.str y)) M P := fun v w H H1 hv hw wk Q q => by
  cases hv; cases hw
  exact ⟨x, y, rfl, rfl, q _ _ H M H1 p Step.refl wk (.bl _)⟩
theorem dR_addS {x y : Str} (hz : x.length + y.length ≤ 1000000) (p : P (.d (.str (x ++ y))) M) : dR K (fun x y H Q => ∃ i j, x = .str i ∧ y = .str j ∧ i.length + j.length ≤ sizeLine ∧ Q (.str (i ++ j)) H) (.d (.str x)) (.d (.str y)) M P := fun v w H H1 hv hw wk Q q => by
  cases hv; cases hw
  exact ⟨x, y, rfl, rfl, Nat.le_trans hz (by decide), q _ _ H M H1 p Step.refl wk (.str _)⟩
theorem dR_notInS {c : Nat} {z : Str} (p : P (.d (.bool (!decide (c ∈ z.cps.toList)))) M) : dR K rNotInS (.d (.str ⟨#[c]⟩)) (.d (.str z)) M P := fun v w H H1 hv hw wk Q q => by
  cases hv; cases hw
  exact ⟨c, z, rfl, rfl, q _ _ H M H1 p Step.refl wk (.bl _)⟩
theorem dC_lenX {z : Str} (hz : z.length ≤ 1000000) (p : P (.d (.int z.length)) M) : dC K (fun xs H Q => ∃ z, xs = [.str z] ∧ z.length ≤ sizeLine ∧ Q (.int z.length) H) [.d (.str z)] M P := fun vs H H1 hv wk Q q => by
  cases hv with
  | cons h t =>
    cases t; cases h
    exact ⟨z, rfl, Nat.le_trans hz (by decide), q _ _ H M H1 p Step.refl wk (.int _)⟩
theorem dU_slS {lo hi : Option Int} {z : Str} (hz : z.length ≤ 1000000) (p : P (.d (.str (cutS z lo hi))) M) : dU K (fun v => rSlS v lo hi) (.d (.str z)) M P := fun v H H1 hv wk Q q => by
  cases hv
  exact ⟨z, rfl, Nat.le_trans hz (by decide), q _ _ H M H1 p Step.refl wk (.str _)⟩
theorem dE_upper (h : dE K te δ M fun x M1 => ∃ z : Str, x = .d (.str z) ∧ z.length ≤ 1000000 ∧ P (.d (.str (Txt.upper z))) M1) : dE K (tM0 (fun x xs H Q => ∃ a, x = .str a ∧ xs = [] ∧ a.length ≤ 5592405 ∧ Q (.str (Txt.upper a)) H) te) δ M P := fun σ H H1 e w Q q =>
  h σ H H1 e w _ fun v x H' M' H2 hb s1 w1 vx => by
    obtain ⟨z, rfl, hz, p⟩ := hb
    cases vx
    exact ⟨⟨z, rfl⟩, z, rfl, rfl, by omega, q _ _ H' M' H2 p s1 w1 (.str _)⟩
theorem dU_slA {lo hi : Option Int} {ds : List PyData} (p : P (.d (.tuple (cutD ds lo hi))) M) : dU K (fun v => rSlA K v lo hi) (.d (.tuple ds)) M P := fun v H H1 hv wk Q q => by
  cases hv with
  | tup h1 h2 =>
    refine ⟨_, _, rfl, sqTx wk.ex h1, fun hw => ?_, fun hn l hl => ?_⟩
    · rw [h2.length] at hw
      have e : cutD ds lo hi = ds := by unfold cutD; rw [hw.1, hw.2]; simp
      rw [e] at p
      exact q _ _ H M H1 p Step.refl wk (.tup h1 h2)
    · obtain ⟨w2, s2⟩ := laid_ok (o := .tup (cutV _ lo hi)) wk hl
      exact q _ _ _ M _ p s2 w2 (.tup (SqT.of upd_same) (DqAll.mono s2.pure _ _ (cut_of h2 lo hi)))
theorem dE_revT (h : dE K te δ M fun x M1 => ∃ ds, x = .d (.tuple ds) ∧ P (.d (.tuple ds.reverse)) M1) : dE K (tRevT K te) δ M P := fun σ H H1 e w Q q =>
  h σ H H1 e w _ fun v x H' M' H2 hb s1 w1 vx => by
    obtain ⟨ds, rfl, p⟩ := hb
    cases vx with
    | tup h1 h2 =>
      refine ⟨_, _, rfl, sqTx w1.ex h1, fun l hl => ?_⟩
      obtain ⟨w2, s2⟩ := laid_ok (o := .tup (List.reverse _)) w1 hl
      exact q _ _ _ M' _ p (s1.trans w w1 s2) w2 (.tup (SqT.of upd_same) (DqAll.mono s2.pure _ _ h2.reverse))
/-- a < b < c -/
theorem dE_chain {r r' : R2} (h : dE K ta δ M fun x M1 => dE K tb δ M1 fun y M2 => dR K r x y M2 fun z M3 => ∃ k, z = .d (.bool k) ∧ if k = true then dE K tc δ M3 fun u M4 => dR K r' y u M4 P else P (.d (.bool false)) M3) : dE K (tChain r r' ta tb tc) δ M P := fun σ H H1 e w Q q =>
  h σ H H1 e w _ fun v x Ha Ma H2 hb s1 w1 vx => hb σ Ha H2 (e.mono s1.pure) w1 _ fun u y Hb Mb H3 hr s2 w2 vy => hr v u Hb H3 (vx.mono s2.pure) vy w2 _ fun z rz Hc Mc H4 hz s3 w3 vz => by
    obtain ⟨k, rfl, hk⟩ := hz
    cases vz
    have st := (s1.trans w w1 s2).trans w w2 s3
    refine ⟨k, rfl, ?_⟩
    cases k with
    | false => exact q _ _ Hc Mc H4 hk st w3 (.bl _)
    | true => exact hk σ Hc H4 (e.mono st.pure) w3 _ fun t rt Hd Md H5 hd s4 w4 vt => hd u t Hd H5 ((vy.mono s3.pure).mono s4.pure) vt w4 Q fun o ro He Me H6 p s5 w5 vo => q o ro He Me H6 p ((st.trans w w3 s4).trans w w4 s5) w5 vo
theorem bools_of {H : Hp} : ∀ {vs : List V} {bs : List Bool}, DqAll K H vs (bs.map .bool) → vs = bs.map V.bl
  | _, [], h => by cases h; rfl
  | _, b :: bs, h => by
    cases h with
    | cons h1 h2 => cases h1; rw [bools_of h2]; rfl
theorem dC_all {x : SV} {bs : List Bool} (s : SeqL M x (bs.map .bool)) (p : P (.d (.bool (bs.all id))) M) : dC K (rAll K) [x] M P := fun vs H H1 hv wk Q q => by
  cases hv with
  | cons h t =>
    cases t
    obtain ⟨a, vs, rfl, h1, h2⟩ := s.sq wk h
    rw [bools_of h2] at h1
    exact ⟨a, bs, rfl, SqL.of h1, q _ _ H M H1 p Step.refl wk (.bl _)⟩
/-- isinstance(x, (tuple, list)) -/
theorem dE_isiTL (h : dE K te δ M fun x M1 => ∃ d, x = .d d ∧ P (.d (.bool (isTup d || isLst d))) M1) : dE K (tCB (rIsiT K) (tCons te (tCons (tTup (tCons (tC (.ty "tuple")) (tCons (tC (.ty "list")) tNil))) tNil))) δ M P := fun σ H H1 e w Q q =>
  h σ H H1 e w _ fun v x H' M' H2 hb s1 w1 vx => by
    obtain ⟨d, rfl, p⟩ := hb
    refine ⟨by decide, fun l hl => ?_⟩
    obtain ⟨w2, s2⟩ := laid_ok (o := .tup [.ty "tuple", .ty "list"]) w1 hl
    have vx2 : Dq K (upd H2 l (.tup [.ty "tuple", .ty "list"])) v d := Dq.mono w2.ex _ _ (Dq.mono s2.pure _ _ vx)
    refine ⟨v, l, _, _, [.type "tuple", .type "list"], isTup d || isLst d, rfl, upd_same, .cons (.ty _) (.cons (.ty _) .nil), ty_ok (K := K) vx2, ?_, q _ _ _ M' _ p (s1.trans w w1 s2) w2 (.bl _)⟩
    refine kitAny_cons (kit_ty (kit_tup d)) (fun hf => ?_) (fun ht => by rw [ht]; rfl)
    refine kitAny_cons (kit_ty (kit_lst d)) (fun hf2 => ?_) (fun ht => by rw [ht, Bool.or_true])
    rw [hf, hf2]
    rfl
/-! ### comprehensions over a text, over two lists -/
theorem dE_lcS {vs : List Nat} (hg : GW g vs) (h : dE K tl δ M fun r M1 => ∃ z : Str, r = .d (.str z) ∧ z.cps.size ≤ 40000 ∧ ∃ I : Nat → List PyData → Mem → Prop, I 0 [] M1 ∧
      (∀ (i c : Nat) acc M', z.cps[i]? = some c → I i acc M' → dG K g (.d (.str ⟨#[c]⟩)) (wipeD δ vs) M' fun δ2 M2 => dT K tt δ2 M2 fun b M3 => if b = true then dE K te δ2 M3 fun y M4 => ∃ d, y = .d d ∧ I (i + 1) (acc ++ [d]) M4 else I (i + 1) acc M3) ∧ ∀ acc M', I z.cps.size acc M' → Res P acc M') :
    dE K (tLc (iStr tl) g tt te vs) δ M P := fun σ H H1 e w Q q =>
  h σ H H1 e w _ fun v r H' M' H2 hb s w' vv => by
    obtain ⟨z, rfl, hz, I, i0, it, ie⟩ := hb
    cases vv
    refine ⟨z, rfl, fun Dl hD => ⟨fun i m H => m = z.cps.size - i ∧ i ≤ z.cps.size ∧ LcW K H' H2 M' Dl (I i) i H, ⟨_, rfl, Nat.zero_le _, lcw_start w' hD i0⟩, ?_⟩⟩
    rintro i m H3 ⟨rfl, hi, p⟩
    by_cases hlt : i < z.cps.size
    · refine .inr ⟨hlt, LcW K H' H2 M' Dl (I (i + 1)) (i + 1), fun H4 p' => ⟨_, by omega, rfl, hlt, p'⟩, fun x H4 y => ?_⟩
      obtain ⟨rfl, c, hc, rfl⟩ := y
      exact lcw_turn (x := .d (.str ⟨#[c]⟩)) hg (by omega) w' (e.mono s.pure) hD p (fun H' ex => .str _) (fun acc M' hI => it i c acc M' hc hI)
    · have e0 : i = z.cps.size := by omega
      subst e0
      exact .inl ⟨Nat.le_refl _, lcw_end w' hD p ie fun v r Ha Ma Hb pp s3 w3 vr => q v r Ha Ma Hb pp (s.trans w w' s3) w3 vr⟩
end
end Sd

namespace Sd
open PySem L2
section
variable {K : PySem.W.Frag} {δ : DSt} {M : Mem} {P : SV → Mem → Prop} {ta tb tc te tl : TE} {tt : TT} {g : TG}
/-- as it stands, with a new pair at T -/
theorem lcw_pair {H H1 H2 : Hp} {Dl T : Addr} {I I' : List PyData → Mem → Prop} {n : Nat} {vs : List Nat} {u1 u2 : V} {d1 d2 : PyData} {σ : St} (hg : GW g vs) (hn : n < 50000) (w : WOk K H M H1) (e : EnvOk K H σ δ) (hD : H1 Dl = none) (p : LcW K H H1 M Dl I n H2) (hT : H2 T = none)
    (v1 : Dq K H u1 d1) (v2 : Dq K H u2 d2)
    (h : ∀ acc M', I acc M' → dG K g (.d (.tuple [d1, d2])) (wipeD δ vs) M' fun δ2 M2 => dT K tt δ2 M2 fun b M3 => if b = true then dE K te δ2 M3 fun y M4 => ∃ d, y = .d d ∧ I' (acc ++ [d]) M4 else I' acc M3) :
    g (.ref T) (wipe σ vs) (upd H2 T (.tup [u1, u2])) fun σ2 H3 => wipe σ2 vs = wipe σ vs ∧ tt σ2 H3 fun b H4 => if b = true then te σ2 H4 fun y H5 => ∃ acc, H5 Dl = some (.lst acc) ∧ acc.length < sizeLine ∧ LcW K H H1 M Dl I' (n + 1) (upd H5 Dl (.lst (acc ++ [y]))) else LcW K H H1 M Dl I' (n + 1) H4 := by
  obtain ⟨acc, ds, M', H', pi, hl, s0, w0, hDl0, hacc0, f01, f02⟩ := p
  obtain ⟨w', sT⟩ := laid_ok (o := .tup [u1, u2]) w0 hT
  have s := s0.trans w w0 sT
  have hne : Dl ≠ T := by rintro rfl; rw [hDl0] at hT; cases hT
  have hDl : upd H2 T (.tup [u1, u2]) Dl = some (.lst acc) := by rw [upd_ne hne]; exact hDl0
  have hacc := hacc0.mono sT.pure
  have f1 : upd H' T (.tup [u1, u2]) Dl = none := by rw [upd_ne hne]; exact f01
  refine hg (.ref T) σ _ _ ?_
  have vT : Dq K (upd H' T (.tup [u1, u2])) (.ref T) (.tuple [d1, d2]) := .tup (SqT.of upd_same) (.cons (Dq.mono s.pure _ _ v1) (.cons (Dq.mono s.pure _ _ v2) .nil))
  refine h ds M' pi (.ref T) _ _ _ ((e.mono s.pure).wipe vs) w' vT _ fun δ2 M2 σ2 Ha H3 ht s2 e2 w2 => ?_
  have k2 := s2.keep Dl _ hDl f02
  have n2 := s2.new Dl f1 f02 (by rw [hDl]; simp)
  refine ht σ2 Ha H3 e2 w2 _ fun b Hb M3 H4 hb s3 w3 => ?_
  have k3 := s3.keep Dl _ k2 n2.2
  have n3 := s3.new Dl n2.1 n2.2 (by rw [k2]; simp)
  cases b with
  | false => exact ⟨acc, ds, M3, Hb, hb, Nat.le_succ_of_le hl, (s.trans w w' s2).trans w w2 s3, w3, k3, hacc.mono (s2.pure.trans s3.pure), n3.1, n3.2⟩
  | true =>
    refine hb σ2 Hb H4 (e2.mono s3.pure) w3 _ fun y r Hc M4 H5 hy s4 w4 vy => ?_
    have k4 := s4.keep Dl _ k3 n3.2
    have n4 := s4.new Dl n3.1 n3.2 (by rw [k3]; simp)
    obtain ⟨d, rfl, hI⟩ := hy
    have ha : DqAll K Hc acc ds := hacc.mono ((s2.pure.trans s3.pure).trans s4.pure)
    have st := ((s.trans w w' s2).trans w w2 s3).trans w w3 s4
    refine ⟨acc, k4, by rw [ha.length]; exact Nat.lt_of_le_of_lt hl (Nat.lt_of_lt_of_le hn (by decide)), acc ++ [y], ds ++ [d], M4, Hc, hI, by rw [List.length_append]; show ds.length + 1 ≤ n + 1; omega, ⟨st.pure, fun a o h1 h2 => ?_, st.new⟩, ⟨fun a o h1 => ?_, fun a es h1 => ?_⟩, upd_same, ha.append (.cons vy .nil), n4.1, n4.2⟩
    · rw [upd_ne (ne_of_none h1 hD)]; exact st.keep a o h1 h2
    · rw [upd_ne (ne_of_none h1 n4.1)]; exact w4.ex a o h1
    · have e : a ≠ Dl := by rintro rfl; rw [n4.2] at h1; cases h1
      obtain ⟨q1, us, q2, q3⟩ := w4.cell a es h1
      exact ⟨q1, us, by rw [upd_ne e]; exact q2, q3⟩
theorem dE_lcZ {ts : TA} {vs : List Nat} (hg : GW g vs) (h : dA K ts δ M fun rs M1 => ∃ xs ys : List PyData, rs = [.d (.list xs), .d (.list ys)] ∧ xs.length ≤ 40000 ∧ ∃ I : Nat → List PyData → Mem → Prop, I 0 [] M1 ∧
      (∀ (i : Nat) x y acc M', xs[i]? = some x → ys[i]? = some y → I i acc M' → dG K g (.d (.tuple [x, y])) (wipeD δ vs) M' fun δ2 M2 => dT K tt δ2 M2 fun b M3 => if b = true then dE K te δ2 M3 fun y M4 => ∃ d, y = .d d ∧ I (i + 1) (acc ++ [d]) M4 else I (i + 1) acc M3) ∧ ∀ acc M', I (min xs.length ys.length) acc M' → Res P acc M') :
    dE K (tLc (iZip K ts) g tt te vs) δ M P := fun σ H H1 e w Q q =>
  h σ H H1 e w _ fun us rs H' M' H2 hb s w' vv => by
    obtain ⟨xs, ys, rfl, hz, I, i0, it, ie⟩ := hb
    cases vv with
    | cons h1 h2 =>
      cases h2 with
      | cons h2 h3 =>
        cases h3
        cases h1 with
        | lst a1 a2 =>
          cases h2 with
          | lst b1 b2 =>
            rename_i a us b ws
            have l1 := a2.length
            have l2 := b2.length
            have sa : ∀ {Dl : Addr} {i : Nat} {H3 : Hp}, LcW K H' H2 M' Dl (I i) i H3 → SqL K H3 a us ∧ SqL K H3 b ws := fun {Dl i H3} p => by
              obtain ⟨_, _, _, _, _, _, s3, w3, _⟩ := p
              exact ⟨SqL.of (w3.ex _ _ (s3.pure _ _ a1)), SqL.of (w3.ex _ _ (s3.pure _ _ b1))⟩
            refine ⟨a, b, us, ws, rfl, SqL.of (w'.ex _ _ a1), SqL.of (w'.ex _ _ b1), fun Dl hD => ⟨fun i m H3 => m = min xs.length ys.length - i ∧ i ≤ min xs.length ys.length ∧ LcW K H' H2 M' Dl (I i) i H3, ⟨_, rfl, Nat.zero_le _, lcw_start w' hD i0⟩, ?_⟩⟩
            rintro i m H3 ⟨rfl, hi, p⟩
            obtain ⟨q1, q2⟩ := sa p
            by_cases hlt : i < min xs.length ys.length
            · have x1 : i < us.length := by omega
              have x2 : i < ws.length := by omega
              refine .inr ⟨⟨us, ws, us[i], ws[i], q1, q2, List.getElem?_eq_getElem x1, List.getElem?_eq_getElem x2⟩, LcW K H' H2 M' Dl (I (i + 1)) (i + 1), fun H4 p' => ⟨_, by omega, rfl, hlt, p'⟩, fun x H4 y => ?_⟩
              obtain ⟨T, u1, u2, rfl, hT, rfl, e1, e2⟩ := y
              obtain ⟨d1, g1, k1⟩ := a2.get (e1 us q1)
              obtain ⟨d2, g2, k2⟩ := b2.get (e2 ws q2)
              exact lcw_pair hg (by omega) w' (e.mono s.pure) hD p hT k1 k2 (fun acc M' hI => it i d1 d2 acc M' g1 g2 hI)
            · have e0 : i = min xs.length ys.length := by omega
              subst e0
              exact .inl ⟨⟨us, ws, q1, q2, by omega⟩, lcw_end w' hD p ie fun v r Ha Ma Hb pp s3 w3 vr => q v r Ha Ma Hb pp (s.trans w w' s3) w3 vr⟩
end
end Sd

/-! mathematics: fractions in lowest terms, ropes -/
namespace Ma
open PySem
abbrev Q := Int × Int
/-- in lowest terms, from nought on -/
structure Red (q : Q) : Prop where
  p0 : 0 ≤ q.1
  q0 : 0 < q.2
  co : Int.gcd q.1 q.2 = 1
def low (t b : Int) : Q := (t / (Int.gcd t b : Int), b / (Int.gcd t b : Int))
theorem gcd_pos {t b : Int} (hb : 0 < b) : 0 < (Int.gcd t b : Int) := by
  have : Int.gcd t b ≠ 0 := fun h => by
    have := (Int.gcd_eq_zero_iff.mp h).2
    omega
  omega
theorem low_red {t b : Int} (ht : 0 ≤ t) (hb : 0 < b) : Red (low t b) := by
  have hg := gcd_pos (t := t) hb
  refine ⟨Int.ediv_nonneg ht (by omega), ?_, ?_⟩
  · have h1 : (Int.gcd t b : Int) * (b / (Int.gcd t b : Int)) = b := Int.mul_ediv_cancel' (Int.gcd_dvd_right t b)
    show 0 < b / (Int.gcd t b : Int)
    rcases Int.lt_or_le 0 (b / (Int.gcd t b : Int)) with h | h
    · exact h
    · exfalso
      have := Int.mul_nonneg (show 0 ≤ (Int.gcd t b : Int) by omega) (show 0 ≤ -(b / (Int.gcd t b : Int)) by omega)
      rw [Int.mul_neg, h1] at this
      omega
  · exact Int.gcd_ediv_gcd_ediv_gcd (by omega)
theorem low_eq {t b : Int} (hb : 0 < b) : t * (low t b).2 = (low t b).1 * b := by
  have h1 : (Int.gcd t b : Int) * (b / (Int.gcd t b : Int)) = b := Int.mul_ediv_cancel' (Int.gcd_dvd_right t b)
  have h2 : (Int.gcd t b : Int) * (t / (Int.gcd t b : Int)) = t := Int.mul_ediv_cancel' (Int.gcd_dvd_left t b)
  show t * (b / (Int.gcd t b : Int)) = (t / (Int.gcd t b : Int)) * b
  generalize (Int.gcd t b : Int) = g at *
  generalize t / g = t' at *
  generalize b / g = b' at *
  rw [← h1, ← h2]
  rw [Int.mul_assoc, Int.mul_left_comm]
theorem co_dvd {a b c : Int} (h : a ∣ b * c) (g : Int.gcd b a = 1) : a ∣ c := by
  have h1 : a.natAbs ∣ b.natAbs * c.natAbs := by
    rw [← Int.natAbs_mul]
    exact Int.natAbs_dvd_natAbs.mpr h
  have h2 : Nat.Coprime a.natAbs b.natAbs := by
    show Nat.gcd a.natAbs b.natAbs = 1
    rw [Nat.gcd_comm]
    exact g
  exact Int.natAbs_dvd_natAbs.mp (h2.dvd_of_dvd_mul_left h1)
theorem red_unique {x y : Q} (hx : Red x) (hy : Red y) (h : x.1 * y.2 = y.1 * x.2) : x = y := by
  have d1 : x.2 ∣ y.2 := by
    have : x.2 ∣ x.1 * y.2 := ⟨y.1, by rw [h, Int.mul_comm]⟩
    exact co_dvd this hx.co
  have d2 : y.2 ∣ x.2 := by
    have : y.2 ∣ y.1 * x.2 := ⟨x.1, by rw [← h, Int.mul_comm]⟩
    exact co_dvd this hy.co
  have e2 : x.2 = y.2 := Int.dvd_antisymm (Int.le_of_lt hx.q0) (Int.le_of_lt hy.q0) d1 d2
  have e1 : x.1 = y.1 := by
    rw [e2] at h
    exact Int.eq_of_mul_eq_mul_right (Int.ne_of_gt hy.q0) h
  exact Prod.ext e1 e2
theorem low_unique {t b : Int} {y : Q} (ht : 0 ≤ t) (hb : 0 < b) (hy : Red y) (h : t * y.2 = y.1 * b) : low t b = y := by
  refine red_unique (low_red ht hb) hy ?_
  have h1 := low_eq (t := t) hb
  have hb' : b ≠ 0 := by omega
  refine Int.eq_of_mul_eq_mul_right hb' ?_
  calc (low t b).1 * y.2 * b = (low t b).1 * b * y.2 := by rw [Int.mul_assoc, Int.mul_comm y.2 b, ← Int.mul_assoc]
    _ = t * (low t b).2 * y.2 := by rw [h1]
    _ = t * y.2 * (low t b).2 := by rw [Int.mul_assoc, Int.mul_comm (low t b).2 y.2, ← Int.mul_assoc]
    _ = y.1 * b * (low t b).2 := by rw [h]
    _ = y.1 * (low t b).2 * b := by rw [Int.mul_assoc, Int.mul_comm b, ← Int.mul_assoc]
theorem low_zero {b : Int} (hb : 0 < b) : low 0 b = (0, 1) := low_unique (Int.le_refl 0) hb ⟨Int.le_refl _, by decide, by decide⟩ (by simp)
theorem low_le {t b : Int} (ht : 0 ≤ t) (hb : 0 < b) : (low t b).1 ≤ t ∧ (low t b).2 ≤ b := by
  have hg := gcd_pos (t := t) hb
  exact ⟨Int.ediv_le_self _ ht, Int.ediv_le_self _ (by omega)⟩
theorem gcd_le {t b : Int} (hb : 0 < b) : (Int.gcd t b : Int) ≤ b := Int.le_of_dvd hb (Int.gcd_dvd_right t b)
theorem gcd_step {a b : Int} (ha : 0 ≤ a) (hb : 0 < b) : Int.gcd b (a % b) = Int.gcd a b := by
  obtain ⟨m, rfl⟩ := Int.eq_ofNat_of_zero_le ha
  obtain ⟨n, rfl⟩ := Int.eq_ofNat_of_zero_le (Int.le_of_lt hb)
  show Nat.gcd n (((m : Int) % (n : Int)).natAbs) = Nat.gcd m n
  rw [← Int.natCast_emod, Int.natAbs_natCast, Nat.gcd_comm m n, Nat.gcd_rec n m, Nat.gcd_comm]
/-! ropes -/
structure Rope where
  n : Str
  a : Int
  b : Int
  c : Int
/-- the ropes drawn one behind the other, as the program goes -/
def goS (t b : Int) : List Rope → Option Q → Int → Int → Option Q
  | [], s, _, _ => s
  | r :: rs, none, k, l => goS t b rs (some (low (t + (l + r.b * r.a) * b) ((k + r.b) * b))) (k + r.b) (l + r.b * r.a)
  | r :: rs, some q, k, l => if r.a * q.2 < q.1 then goS t b rs (some (low (t + (l + r.b * r.a) * b) ((k + r.b) * b))) (k + r.b) (l + r.b * r.a) else some q
def bySlack (rs : List Rope) : List Rope := rs.mergeSort fun x y => decide (x.a ≤ y.a)
def sunkOf (rs : List Rope) (t b : Int) : Option Q := if t = 0 then some (0, 1) else goS t b (bySlack rs) none 0 0
end Ma

namespace Ma
open PySem
abbrev Pr := Int × Int
/-- how hard a rope of slack p.1 and stiffness p.2 pulls at q, times q.2 -/
def f1 (q : Q) (p : Pr) : Int := p.2 * max 0 (q.1 - p.1 * q.2)
def F (q : Q) (ps : List Pr) : Int := (ps.map (f1 q)).sum
theorem F_nil {q : Q} : F q [] = 0 := rfl
theorem F_cons {q : Q} {p : Pr} {ps : List Pr} : F q (p :: ps) = f1 q p + F q ps := by
  unfold F; rw [List.map_cons, List.sum_cons]
theorem F_append {q : Q} {ps qs : List Pr} : F q (ps ++ qs) = F q ps + F q qs := by
  unfold F; rw [List.map_append, List.sum_append]
theorem F_perm {q : Q} {ps qs : List Pr} (h : ps.Perm qs) : F q ps = F q qs := by
  induction h with
  | nil => rfl
  | cons x _ ih => rw [F_cons, F_cons, ih]
  | swap x y l => rw [F_cons, F_cons, F_cons, F_cons]; omega
  | trans _ _ h1 h2 => rw [h1, h2]
def PosB (ps : List Pr) : Prop := ∀ p ∈ ps, 0 < p.2
theorem f1_nn {q : Q} {p : Pr} (h : 0 < p.2) : 0 ≤ f1 q p := Int.mul_nonneg (Int.le_of_lt h) (by omega)
theorem F_nn {q : Q} : ∀ {ps : List Pr}, PosB ps → 0 ≤ F q ps
  | [], _ => Int.le_refl _
  | p :: ps, h => by
    rw [F_cons]
    have := f1_nn (q := q) (h p List.mem_cons_self)
    have := F_nn (q := q) (ps := ps) fun x hx => h x (List.mem_cons_of_mem _ hx)
    omega
theorem max_lt {x y : Q} {a : Int} (hx : 0 < x.2) (hy : 0 < y.2) (h : x.1 * y.2 < y.1 * x.2) :
    max 0 (x.1 - a * x.2) * y.2 ≤ max 0 (y.1 - a * y.2) * x.2 ∧ (0 < max 0 (y.1 - a * y.2) → max 0 (x.1 - a * x.2) * y.2 < max 0 (y.1 - a * y.2) * x.2) := by
  have e : (x.1 - a * x.2) * y.2 < (y.1 - a * y.2) * x.2 := by grind
  generalize x.1 - a * x.2 = u at *
  generalize y.1 - a * y.2 = v at *
  by_cases hu : 0 < u
  · have h1 : max 0 u = u := by omega
    rw [h1]
    have hv : 0 < v := by
      rcases Int.lt_or_le 0 v with h | h
      · exact h
      · exfalso
        have a1 := Int.mul_pos hu hy
        have a2 := Int.mul_nonneg (show 0 ≤ -v by omega) (Int.le_of_lt hx)
        rw [Int.neg_mul] at a2
        omega
    have h2 : max 0 v = v := by omega
    rw [h2]
    exact ⟨Int.le_of_lt e, fun _ => e⟩
  · have h1 : max 0 u = 0 := by omega
    rw [h1, Int.zero_mul]
    exact ⟨Int.mul_nonneg (by omega) (Int.le_of_lt hx), fun h => Int.mul_pos h hx⟩
theorem f1_lt {x y : Q} {p : Pr} (hp : 0 < p.2) (hx : 0 < x.2) (hy : 0 < y.2) (h : x.1 * y.2 < y.1 * x.2) :
    f1 x p * y.2 ≤ f1 y p * x.2 ∧ (0 < f1 y p → f1 x p * y.2 < f1 y p * x.2) := by
  obtain ⟨h1, h2⟩ := max_lt (a := p.1) hx hy h
  unfold f1
  generalize max 0 (x.1 - p.1 * x.2) = u at *
  generalize hv : max 0 (y.1 - p.1 * y.2) = v at *
  rw [Int.mul_assoc, Int.mul_assoc]
  refine ⟨Int.mul_le_mul_of_nonneg_left h1 (Int.le_of_lt hp), fun h3 => Int.mul_lt_mul_of_pos_left (h2 ?_) hp⟩
  rcases Int.lt_or_le 0 v with h | h
  · exact h
  · exfalso
    have := Int.mul_nonneg (Int.le_of_lt hp) (show 0 ≤ -v by omega)
    rw [Int.mul_neg] at this
    omega
theorem F_lt {x y : Q} (hx : 0 < x.2) (hy : 0 < y.2) (h : x.1 * y.2 < y.1 * x.2) : ∀ {ps : List Pr}, PosB ps → F x ps * y.2 ≤ F y ps * x.2 ∧ (0 < F y ps → F x ps * y.2 < F y ps * x.2)
  | [], _ => by rw [F_nil, F_nil]; exact ⟨by omega, fun h => by omega⟩
  | p :: ps, hp => by
    obtain ⟨h1, h2⟩ := F_lt hx hy h (ps := ps) fun z hz => hp z (List.mem_cons_of_mem _ hz)
    obtain ⟨h3, h4⟩ := f1_lt (hp p List.mem_cons_self) hx hy h
    have n1 := f1_nn (q := y) (hp p List.mem_cons_self)
    have n2 := F_nn (q := y) (ps := ps) fun z hz => hp z (List.mem_cons_of_mem _ hz)
    rw [F_cons, F_cons, Int.add_mul, Int.add_mul]
    refine ⟨by omega, fun h5 => ?_⟩
    rcases Int.lt_or_le 0 (f1 y p) with h6 | h6
    · have := h4 h6; omega
    · have := h2 (by omega); omega
/-- at q the ropes pull together t / b -/
structure Sol (ps : List Pr) (t b : Int) (q : Q) : Prop extends Red q where
  eq : F q ps * b = t * q.2
theorem sol_unique {ps : List Pr} {t b : Int} {x y : Q} (hp : PosB ps) (ht : 0 < t) (hb : 0 < b) (hx : Sol ps t b x) (hy : Sol ps t b y) : x = y := by
  have half : ∀ {x y : Q}, Sol ps t b x → Sol ps t b y → ¬ x.1 * y.2 < y.1 * x.2 := fun {x y} hx hy h => by
    obtain ⟨_, h2⟩ := F_lt hx.q0 hy.q0 h hp
    have hF : 0 < F y ps := by
      rcases Int.lt_or_le 0 (F y ps) with h | h
      · exact h
      · exfalso
        have a1 := Int.mul_pos ht hy.q0
        have a2 := Int.mul_nonneg (show 0 ≤ -F y ps by omega) (Int.le_of_lt hb)
        rw [Int.neg_mul, hy.eq] at a2
        omega
    have h3 := Int.mul_lt_mul_of_pos_right (h2 hF) hb
    have e1 : F x ps * y.2 * b = t * x.2 * y.2 := by rw [← hx.eq]; grind
    have e2 : F y ps * x.2 * b = t * y.2 * x.2 := by rw [← hy.eq]; grind
    rw [e1, e2] at h3
    have e3 : t * x.2 * y.2 = t * y.2 * x.2 := by grind
    omega
  have h1 := half hx hy
  have h2 := half hy hx
  exact red_unique hx.toRed hy.toRed (by omega)
/-! ### drawn one behind the other -/
def goP (t b : Int) : List Pr → Option Q → Int → Int → Option Q
  | [], s, _, _ => s
  | p :: ps, none, k, l => goP t b ps (some (low (t + (l + p.2 * p.1) * b) ((k + p.2) * b))) (k + p.2) (l + p.2 * p.1)
  | p :: ps, some q, k, l => if p.1 * q.2 < q.1 then goP t b ps (some (low (t + (l + p.2 * p.1) * b) ((k + p.2) * b))) (k + p.2) (l + p.2 * p.1) else some q
def pr (r : Rope) : Pr := (r.a, r.b)
theorem goS_P {t b : Int} : ∀ (rs : List Rope) (s : Option Q) (k l : Int), goS t b rs s k l = goP t b (rs.map pr) s k l
  | [], s, k, l => rfl
  | r :: rs, none, k, l => goS_P rs _ _ _
  | r :: rs, some q, k, l => by
    show (if r.a * q.2 < q.1 then goS t b rs _ _ _ else some q) = (if r.a * q.2 < q.1 then goP t b (rs.map pr) _ _ _ else some q)
    rw [goS_P rs]
    rfl
/-- what stands drawn: a prefix, its stiffness k, its l, and the sinking q -/
structure Dr (t b : Int) (ps : List Pr) (k l : Int) (q : Q) : Prop extends Red q where
  kp : 0 < k
  eq : q.1 * (k * b) = (t + l * b) * q.2
  fk : ∀ x : Q, (∀ p ∈ ps, p.1 * x.2 ≤ x.1) → F x ps = k * x.1 - l * x.2
  dr : ∀ p ∈ ps, p.1 * q.2 < q.1
theorem dr_step {t b k l : Int} {ps : List Pr} {p : Pr} (hb : 0 < b) (hp : 0 < p.2) (k0 : 0 ≤ k) (hfk : ∀ x : Q, (∀ p ∈ ps, p.1 * x.2 ≤ x.1) → F x ps = k * x.1 - l * x.2)
    (ht : 0 ≤ t + (l + p.2 * p.1) * b) (hs : ∀ z ∈ ps, z.1 ≤ p.1) (hlt : p.1 * ((k + p.2) * b) < t + (l + p.2 * p.1) * b) :
    Dr t b (ps ++ [p]) (k + p.2) (l + p.2 * p.1) (low (t + (l + p.2 * p.1) * b) ((k + p.2) * b)) := by
  have hkb : 0 < (k + p.2) * b := Int.mul_pos (by omega) hb
  have hr := low_red ht hkb
  have he := low_eq (t := t + (l + p.2 * p.1) * b) hkb
  generalize low (t + (l + p.2 * p.1) * b) ((k + p.2) * b) = q at *
  have hlast : p.1 * q.2 < q.1 := by
    have h1 := Int.mul_lt_mul_of_pos_right hlt hr.q0
    rw [he] at h1
    have h2 : p.1 * ((k + p.2) * b) * q.2 = p.1 * q.2 * ((k + p.2) * b) := by grind
    rw [h2] at h1
    exact Int.lt_of_mul_lt_mul_right h1 (Int.le_of_lt hkb)
  refine ⟨hr, by omega, he.symm, fun x hx => ?_, fun z hz => ?_⟩
  · rw [F_append, hfk x fun z hz => hx z (List.mem_append_left _ hz), F_cons, F_nil]
    have := hx p (List.mem_append_right _ (List.mem_singleton.mpr rfl))
    unfold f1
    rw [show max 0 (x.1 - p.1 * x.2) = x.1 - p.1 * x.2 by omega]
    grind
  · rcases List.mem_append.mp hz with h | h
    · have := Int.mul_le_mul_of_nonneg_right (hs z h) (Int.le_of_lt hr.q0)
      omega
    · rw [List.mem_singleton.mp h]; exact hlast
theorem F_zero {q : Q} : ∀ {ps : List Pr}, (∀ p ∈ ps, q.1 ≤ p.1 * q.2) → F q ps = 0
  | [], _ => rfl
  | p :: ps, h => by
    rw [F_cons, F_zero fun z hz => h z (List.mem_cons_of_mem _ hz)]
    have := h p List.mem_cons_self
    unfold f1
    rw [show max 0 (q.1 - p.1 * q.2) = 0 by omega]
    omega
theorem dr_sol {t b k l : Int} {ps rs : List Pr} {q : Q} (hb : 0 < b) (d : Dr t b ps k l q) (hr : ∀ p ∈ rs, q.1 ≤ p.1 * q.2) : Sol (ps ++ rs) t b q := by
  refine ⟨d.toRed, ?_⟩
  rw [F_append, F_zero hr, d.fk q fun p hp => Int.le_of_lt (d.dr p hp)]
  have := d.eq
  grind
theorem goP_sol {t b : Int} (hb : 0 < b) : ∀ (rs ps : List Pr) (q : Q) (k l : Int), PosB rs → (ps ++ rs).Pairwise (fun x y => x.1 ≤ y.1) → 0 ≤ t → 0 ≤ l → (∀ p ∈ rs, 0 ≤ p.1) → Dr t b ps k l q → ∃ q', goP t b rs (some q) k l = some q' ∧ Sol (ps ++ rs) t b q'
  | [], ps, q, k, l, _, _, _, _, _, d => ⟨q, rfl, dr_sol hb d fun p hp => by cases hp⟩
  | r :: rs, ps, q, k, l, hp, hs, ht, hl, ha, d => by
    have hs' := List.pairwise_append.mp hs
    have hcons := List.pairwise_cons.mp hs'.2.1
    by_cases hc : r.1 * q.2 < q.1
    · have hra : 0 ≤ r.2 * r.1 := Int.mul_nonneg (Int.le_of_lt (hp r List.mem_cons_self)) (ha r List.mem_cons_self)
      have htt : 0 ≤ t + (l + r.2 * r.1) * b := by have := Int.mul_nonneg (show 0 ≤ l + r.2 * r.1 by omega) (Int.le_of_lt hb); omega
      have hlt : r.1 * ((k + r.2) * b) < t + (l + r.2 * r.1) * b := by
        have h1 := Int.mul_lt_mul_of_pos_right hc (Int.mul_pos d.kp hb)
        rw [d.eq] at h1
        have h2 : r.1 * q.2 * (k * b) = r.1 * (k * b) * q.2 := by grind
        rw [h2] at h1
        have h3 := Int.lt_of_mul_lt_mul_right h1 (Int.le_of_lt d.q0)
        grind
      have d' := dr_step hb (hp r List.mem_cons_self) (Int.le_of_lt d.kp) d.fk htt (fun z hz => hs'.2.2 z hz r List.mem_cons_self) hlt
      obtain ⟨q', h1, h2⟩ := goP_sol hb rs (ps ++ [r]) _ _ _ (fun z hz => hp z (List.mem_cons_of_mem _ hz)) (by rw [List.append_assoc]; exact hs) ht (by omega) (fun z hz => ha z (List.mem_cons_of_mem _ hz)) d'
      refine ⟨q', ?_, by rw [List.append_assoc] at h2; exact h2⟩
      show (if r.1 * q.2 < q.1 then _ else _) = _
      rw [if_pos hc]
      exact h1
    · refine ⟨q, ?_, dr_sol hb d fun p hpp => ?_⟩
      · show (if r.1 * q.2 < q.1 then _ else _) = _
        rw [if_neg hc]
      · rcases List.mem_cons.mp hpp with rfl | h
        · omega
        · have := Int.mul_le_mul_of_nonneg_right (hcons.1 p h) (Int.le_of_lt d.q0)
          omega
theorem goP_first {t b : Int} (hb : 0 < b) {rs : List Pr} (h0 : rs ≠ []) (hp : PosB rs) (hs : rs.Pairwise fun x y => x.1 ≤ y.1) (ht : 0 < t) (ha : ∀ p ∈ rs, 0 ≤ p.1) : ∃ q', goP t b rs none 0 0 = some q' ∧ Sol rs t b q' := by
  cases rs with
  | nil => exact absurd rfl h0
  | cons r rs =>
    have hra : 0 ≤ r.2 * r.1 := Int.mul_nonneg (Int.le_of_lt (hp r List.mem_cons_self)) (ha r List.mem_cons_self)
    have htt : 0 ≤ t + (0 + r.2 * r.1) * b := by have := Int.mul_nonneg (show 0 ≤ 0 + r.2 * r.1 by omega) (Int.le_of_lt hb); omega
    have d := dr_step (t := t) (b := b) (k := 0) (l := 0) (ps := []) hb (hp r List.mem_cons_self) (Int.le_refl 0) (fun x _ => by rw [F_nil]; omega) htt (fun z hz => by cases hz) (by grind)
    exact goP_sol hb rs [r] _ _ _ (fun z hz => hp z (List.mem_cons_of_mem _ hz)) hs (Int.le_of_lt ht) (by omega) (fun z hz => ha z (List.mem_cons_of_mem _ hz)) d
/-- the law's way: it goes on to the end -/
def goL (t b : Int) : List Pr → Option Q → Int → Int → Option Q
  | [], s, _, _ => s
  | p :: ps, none, k, l => goL t b ps (some (low (t + b * (l + p.1 * p.2)) ((k + p.2) * b))) (k + p.2) (l + p.1 * p.2)
  | p :: ps, some q, k, l => goL t b ps (if p.1 * q.2 < q.1 then some (low (t + b * (l + p.1 * p.2)) ((k + p.2) * b)) else some q) (k + p.2) (l + p.1 * p.2)
theorem goL_stop {t b : Int} : ∀ (ps : List Pr) (q : Q) (k l : Int), (∀ p ∈ ps, ¬ p.1 * q.2 < q.1) → goL t b ps (some q) k l = some q
  | [], q, k, l, _ => rfl
  | p :: ps, q, k, l, h => by
    show goL t b ps (if p.1 * q.2 < q.1 then _ else some q) _ _ = _
    rw [if_neg (h p List.mem_cons_self)]
    exact goL_stop ps q _ _ fun z hz => h z (List.mem_cons_of_mem _ hz)
theorem goL_P {t b : Int} : ∀ (ps : List Pr) (s : Option Q) (k l : Int), (∀ q, s = some q → 0 < q.2) → (0 < b) → (0 ≤ t) → (0 ≤ k) → (0 ≤ l) → PosB ps → (∀ p ∈ ps, 0 ≤ p.1) → ps.Pairwise (fun x y => x.1 ≤ y.1) → goL t b ps s k l = goP t b ps s k l
  | [], s, k, l, _, _, _, _, _, _, _, _ => rfl
  | p :: ps, s, k, l, hq, hb, ht, hk, hl, hp, ha, hs => by
    have hc := List.pairwise_cons.mp hs
    have hpa : 0 ≤ p.1 * p.2 := Int.mul_nonneg (ha p List.mem_cons_self) (Int.le_of_lt (hp p List.mem_cons_self))
    have hp2 := hp p List.mem_cons_self
    have e1 : p.2 * p.1 = p.1 * p.2 := Int.mul_comm _ _
    have e2 : b * (l + p.1 * p.2) = (l + p.2 * p.1) * b := by rw [e1, Int.mul_comm]
    have hkb : 0 < (k + p.2) * b := Int.mul_pos (by omega) hb
    have htt : 0 ≤ t + (l + p.2 * p.1) * b := by have := Int.mul_nonneg (show 0 ≤ l + p.2 * p.1 by omega) (Int.le_of_lt hb); omega
    have go : goL t b ps (some (low (t + b * (l + p.1 * p.2)) ((k + p.2) * b))) (k + p.2) (l + p.1 * p.2) = goP t b ps (some (low (t + (l + p.2 * p.1) * b) ((k + p.2) * b))) (k + p.2) (l + p.2 * p.1) := by
      rw [e2, goL_P ps _ _ _ (fun q e => by cases e; exact (low_red htt hkb).q0) hb ht (by omega) (by omega) (fun z hz => hp z (List.mem_cons_of_mem _ hz)) (fun z hz => ha z (List.mem_cons_of_mem _ hz)) hc.2, e1]
    cases s with
    | none => exact go
    | some q =>
      show goL t b ps (if p.1 * q.2 < q.1 then some _ else some q) _ _ = (if p.1 * q.2 < q.1 then goP t b ps _ _ _ else some q)
      by_cases h : p.1 * q.2 < q.1
      · rw [if_pos h, if_pos h]; exact go
      · rw [if_neg h, if_neg h]
        refine goL_stop ps q _ _ fun z hz h2 => h ?_
        have := Int.mul_le_mul_of_nonneg_right (hc.1 z hz) (Int.le_of_lt (hq q rfl))
        omega
theorem bySlack_sorted (rs : List Rope) : ((bySlack rs).map pr).Pairwise fun x y => x.1 ≤ y.1 := by
  rw [List.pairwise_map]
  unfold bySlack
  have h := List.pairwise_mergeSort (le := fun x y : Rope => decide (x.a ≤ y.a)) (fun a b c h1 h2 => decide_eq_true (by have := of_decide_eq_true h1; have := of_decide_eq_true h2; omega)) (fun a b => by
    simp only [Bool.or_eq_true, decide_eq_true_eq]; omega) rs
  exact h.imp fun h => of_decide_eq_true h
theorem bySlack_perm (rs : List Rope) : ((bySlack rs).map pr).Perm (rs.map pr) := (List.mergeSort_perm _ _).map _
/-- what the ropes ask -/
structure Pos (rs : List Rope) : Prop where
  a : ∀ r ∈ rs, 0 ≤ r.a
  b : ∀ r ∈ rs, 0 < r.b
theorem Pos.pb {rs : List Rope} (h : Pos rs) : PosB (rs.map pr) := fun p hp => by
  obtain ⟨r, hr, rfl⟩ := List.mem_map.mp hp
  exact h.b r hr
theorem Pos.pa {rs : List Rope} (h : Pos rs) : ∀ p ∈ rs.map pr, 0 ≤ p.1 := fun p hp => by
  obtain ⟨r, hr, rfl⟩ := List.mem_map.mp hp
  exact h.a r hr
theorem sunk_sol {rs : List Rope} {t b : Int} (h0 : rs ≠ []) (hp : Pos rs) (ht : 0 < t) (hb : 0 < b) : ∃ q, sunkOf rs t b = some q ∧ Sol (rs.map pr) t b q := by
  have pm := bySlack_perm rs
  have hne : (bySlack rs).map pr ≠ [] := fun e => h0 (by
    have := pm.length_eq
    rw [e, List.length_map] at this
    exact List.length_eq_zero_iff.mp this.symm)
  obtain ⟨q, h1, h2⟩ := goP_first (t := t) (b := b) hb hne (fun p hpp => hp.pb p (pm.mem_iff.mp hpp)) (bySlack_sorted rs) ht (fun p hpp => hp.pa p (pm.mem_iff.mp hpp))
  refine ⟨q, ?_, ⟨h2.toRed, by rw [← F_perm pm]; exact h2.eq⟩⟩
  unfold sunkOf
  rw [if_neg (by omega), goS_P]
  exact h1
/-- any order by the slacks comes to the same -/
theorem goL_sunk {rs : List Rope} {ps : List Pr} {t b : Int} (hp : Pos rs) (ht : 0 < t) (hb : 0 < b) (pm : ps.Perm (rs.map pr)) (hs : ps.Pairwise fun x y => x.1 ≤ y.1) : goL t b ps none 0 0 = sunkOf rs t b := by
  have pb : PosB ps := fun p hpp => hp.pb p (pm.mem_iff.mp hpp)
  have pa : ∀ p ∈ ps, 0 ≤ p.1 := fun p hpp => hp.pa p (pm.mem_iff.mp hpp)
  rw [goL_P ps none 0 0 (fun q e => by cases e) hb (Int.le_of_lt ht) (Int.le_refl 0) (Int.le_refl 0) pb pa hs]
  cases rs with
  | nil =>
    have : ps = [] := List.length_eq_zero_iff.mp pm.length_eq
    subst this
    unfold sunkOf
    rw [if_neg (by omega)]
    unfold bySlack
    rw [List.mergeSort_nil]
    rfl
  | cons r rs =>
    have h0 : ps ≠ [] := fun e => by
      have := pm.length_eq
      rw [e] at this
      simp at this
    obtain ⟨q1, h1, h2⟩ := goP_first (t := t) (b := b) hb h0 pb hs ht pa
    obtain ⟨q2, h3, h4⟩ := sunk_sol (t := t) (b := b) (List.cons_ne_nil r rs) hp ht hb
    rw [h1, h3]
    have h5 : Sol (((r :: rs)).map pr) t b q1 := ⟨h2.toRed, by rw [← F_perm pm]; exact h2.eq⟩
    rw [sol_unique hp.pb ht hb h5 h4]
end Ma

namespace K2
open PySem L2 Sd Ma
def topS (i : Nat) : Stmt := PySem.Challenge.pw_strandpull_k01_bundles_and_loads_told.main.body.getD i (.Pass ⟨0, 0, 0, 0⟩)
local macro_rules | `(tactic| walk_at "d1") => `(tactic| first
  | ((with_reducible refine' dE_var ?dv ?_); (case dv => rfl))
  | with_reducible refine' dE_int ?_
  | with_reducible refine' dE_str ?_
  | with_reducible refine' dE_bl ?_
  | with_reducible refine' dE_non ?_
  | ((with_reducible refine' dE_nt ?dv ?_); (case dv => assumption))
  | with_reducible refine' dE_ref ?_
  | with_reducible refine' dE_op ?_
  | with_reducible refine' dE_un ?_
  | with_reducible refine' dE_cmp ?_
  | with_reducible refine' dE_isN ?_
  | with_reducible refine' dE_notN ?_
  | with_reducible refine' dE_call ?_
  | with_reducible refine' dE_cb ?_
  | with_reducible refine' dE_kw ?_
  | with_reducible refine' dE_tup ?_
  | with_reducible refine' dE_if ?_
  | with_reducible refine' dE_and ?_
  | with_reducible refine' dE_or ?_
  | with_reducible refine' dE_not ?_
  | with_reducible refine' dE_sl ?_
  | with_reducible refine' dO_none ?_
  | with_reducible refine' dO_some ?_
  | with_reducible refine' dA_cons ?_
  | with_reducible refine' dA_nil ?_
  | with_reducible refine' dT_B ?_
  | with_reducible refine' dT_test ?_
  | with_reducible refine' dT_and ?_
  | with_reducible refine' dT_or ?_
  | with_reducible refine' dT_not ?_
  | with_reducible refine' dT_yes ?_
  | with_reducible refine' dR_I0i ?_
  | with_reducible refine' dU_neg ?_
  | ((with_reducible refine' dR_ixT ?dv ?_); (case dv => rfl))
  | with_reducible refine' dS_seq ?_
  | with_reducible refine' dS_next ?_
  | with_reducible refine' dS_ret ?_
  | with_reducible refine' dS_drop ?_
  | with_reducible refine' dS_if ?_
  | with_reducible refine' dS_asg ?_
  | with_reducible refine' dS_par ?_
  | with_reducible refine' dG_name ?_
  | ((with_reducible refine' dG_tup ?dv ?_); (case dv => rfl); (dsimp only [List.map]))
  | with_reducible refine' dGs_cons ?_
  | with_reducible refine' dGs_nil ?_
  | with_reducible refine' dC_abs ?_
  | with_reducible refine' dC_max2 ?_
  | with_reducible refine' dC_min2 ?_
  | with_reducible refine' rtOf.of ?_
  | with_reducible refine' ex_cmp ?_
  | with_reducible refine' ex_bool ?_
  | with_reducible refine' ex_int ?_
  | with_reducible refine' ex_list ?_
  | with_reducible refine' ex_tup ?_
  | with_reducible refine' ex_d ?_
  | with_reducible refine' ex_m ?_
  | with_reducible refine' ex_par ?_
  | with_reducible refine' ex_rg1 ?_
  | with_reducible refine' ex_rg2 ?_
  | ((with_reducible refine' ex_dat ?dv ?dw ?_); (case dv => rfl); (case dw => exact Nat.le_of_ble_eq_true rfl))
  | ((fail_if_success (with_reducible show ∃ _, _)); (fail_if_success (with_reducible show _ ∧ _)); refine ⟨_, _, rfl, ?_⟩)
  | ((fail_if_success (with_reducible show ∃ _, _)); (fail_if_success (with_reducible show _ ∧ _)); refine ⟨_, rfl, ?_⟩)
  | fail)
local macro_rules | `(tactic| walk_at "d") => `(tactic| repeat' walk_at "d1")
local macro_rules | `(tactic| walk_at "e1") => `(tactic| first
  | ((with_reducible refine' dE_var ?dv ?_); (case dv => rfl))
  | with_reducible refine' dE_int ?_
  | with_reducible refine' dE_str ?_
  | with_reducible refine' dE_bl ?_
  | with_reducible refine' dE_non ?_
  | ((with_reducible refine' dE_nt ?dv ?_); (case dv => assumption))
  | with_reducible refine' dE_ref ?_
  | with_reducible refine' dE_op ?_
  | with_reducible refine' dE_un ?_
  | with_reducible refine' dE_cmp ?_
  | with_reducible refine' dE_isN ?_
  | with_reducible refine' dE_notN ?_
  | with_reducible refine' dE_call ?_
  | with_reducible refine' dE_cb ?_
  | with_reducible refine' dE_kw ?_
  | with_reducible refine' dE_tup ?_
  | with_reducible refine' dE_if ?_
  | with_reducible refine' dE_and ?_
  | with_reducible refine' dE_or ?_
  | with_reducible refine' dE_not ?_
  | with_reducible refine' dE_sl ?_
  | with_reducible refine' dO_none ?_
  | with_reducible refine' dO_some ?_
  | with_reducible refine' dA_cons ?_
  | with_reducible refine' dA_nil ?_
  | with_reducible refine' dT_B ?_
  | with_reducible refine' dT_test ?_
  | with_reducible refine' dT_and ?_
  | with_reducible refine' dT_or ?_
  | with_reducible refine' dT_not ?_
  | with_reducible refine' dT_yes ?_
  | with_reducible refine' dR_I0i ?_
  | with_reducible refine' dU_neg ?_
  | ((with_reducible refine' dR_ixT ?dv ?_); (case dv => rfl))
  | with_reducible refine' dS_next ?_
  | with_reducible refine' dS_ret ?_
  | with_reducible refine' dS_drop ?_
  | with_reducible refine' dS_if ?_
  | with_reducible refine' dS_asg ?_
  | with_reducible refine' dS_par ?_
  | with_reducible refine' dG_name ?_
  | ((with_reducible refine' dG_tup ?dv ?_); (case dv => rfl); (dsimp only [List.map]))
  | with_reducible refine' dGs_cons ?_
  | with_reducible refine' dGs_nil ?_
  | with_reducible refine' dC_abs ?_
  | with_reducible refine' dC_max2 ?_
  | with_reducible refine' dC_min2 ?_
  | with_reducible refine' rtOf.of ?_
  | with_reducible refine' ex_cmp ?_
  | with_reducible refine' ex_bool ?_
  | with_reducible refine' ex_int ?_
  | with_reducible refine' ex_list ?_
  | with_reducible refine' ex_tup ?_
  | with_reducible refine' ex_d ?_
  | with_reducible refine' ex_m ?_
  | with_reducible refine' ex_par ?_
  | with_reducible refine' ex_rg1 ?_
  | with_reducible refine' ex_rg2 ?_
  | ((with_reducible refine' ex_dat ?dv ?dw ?_); (case dv => rfl); (case dw => exact Nat.le_of_ble_eq_true rfl))
  | ((fail_if_success (with_reducible show ∃ _, _)); (fail_if_success (with_reducible show _ ∧ _)); refine ⟨_, _, rfl, ?_⟩)
  | ((fail_if_success (with_reducible show ∃ _, _)); (fail_if_success (with_reducible show _ ∧ _)); refine ⟨_, rfl, ?_⟩)
  | fail)
local macro_rules | `(tactic| walk_at "e") => `(tactic| repeat' walk_at "e1")

/-- a size -/
def Sz (n : Nat) (x : Int) : Prop := x.natAbs < 2 ^ n
abbrev fr (q : Q) : PyData := .tuple [.int q.1, .int q.2]
structure Txt (mg : Str → Option Value) : Prop where
  len : mg "len" = none
  abs : mg "abs" = none
  max : mg "max" = none
  min : mg "min" = none
  sum : mg "sum" = none
  sorted : mg "sorted" = none
  tuple : mg "tuple" = none
  range : mg "range" = none
  list : mg "list" = none
  isinstance : mg "isinstance" = none
  bool : mg "bool" = none
  set : mg "set" = none
  dict : mg "dict" = none
  int : mg "int" = none
  str : mg "str" = none
  all : mg "all" = none
  zip : mg "zip" = none
  any : mg "any" = none
  enumerate : mg "enumerate" = none
def S_cd : SpD := fun rs M P => ∃ a b : Int, rs = [.d (.int a), .d (.int b)] ∧ 0 ≤ a ∧ 0 ≤ b ∧ P (.d (.int (Int.gcd a b : Int))) M
def S_fraction : SpD := fun rs M P => ∃ t b : Int, rs = [.d (.int t), .d (.int b)] ∧ 0 ≤ t ∧ 0 < b ∧ Sz 8000 b ∧ P (.d (fr (low t b))) M
theorem getElem?_map_some {α β : Type} {f : α → β} {l : List α} {i : Nat} {y : β} (h : (l.map f)[i]? = some y) : ∃ x, l[i]? = some x ∧ y = f x := by
  rw [List.getElem?_map] at h
  cases q : l[i]? with
  | none => rw [q] at h; cases h
  | some x => rw [q] at h; exact ⟨x, rfl, (Option.some.inj h).symm⟩
section
variable {P : Program} {w : World} {K : PySem.W.Frag} {mg : Str → Option Value} {base : Heap} {f : Addr} {fd : FuncData}
abbrev s_common_divisor : Stmt := topS 5
theorem sc_common_divisor : FnScope ["one", "other"] ["one", "other"] (defScope s_common_divisor) := ⟨rfl, rfl, rfl, by decide +kernel, rfl, by decide +kernel, by decide +kernel⟩
theorem ok_common_divisor (F : Fun K "common_divisor" "common_divisor" s_common_divisor f fd) : FnOk P w K mg base CX0 1 f fd ["one", "other"] (spOf K S_cd) := by
  refine ok_of F sc_common_divisor (fun rs M P h => by obtain ⟨a, b, rfl, _⟩ := h; rfl) fun cdv A outer s H E hr => ⟨_, (pss_cons (ps_while PassesOwn.never (pt_cmp (pc_gt (pv 1) pe_int)) (pss_one (ps_par (i := 0) (j := 1) (by rfl) sc_common_divisor.nd rfl rfl (by decide) rfl rfl (pa_cons (pv 1) (pa_cons (pe_op op_mod (pv 0) (pv 1)) pa_nil)) (by rfl))))
      (pss_one (ps_ret (pv 0)))), fun rs M P h => ?_⟩
  obtain ⟨a, b, rfl, ha, hb, p⟩ := h
  refine dS_seq (dS_while (fun m δ M' => ∃ a' b' : Int, δ = [some (.d (.int a')), some (.d (.int b'))] ∧ M' = M ∧ 0 ≤ a' ∧ 0 ≤ b' ∧ Int.gcd a' b' = Int.gcd a b ∧ m = b'.toNat) b.toNat ⟨a, b, rfl, rfl, ha, hb, rfl, rfl⟩ ?_)
  rintro m δ M' ⟨a', b', rfl, rfl, ha', hb', hg, rfl⟩
  walk_at "d"
  refine ifB (fun h => ?_) (fun h => ?_)
  · have h0 : 0 < b' := of_decide_eq_true h
    walk_at "d"
    refine dR_Ii h0 ?_
    walk_at "d"
    exact ⟨(a' % b').toNat, by have := Int.emod_lt_of_pos a' h0; have := Int.emod_nonneg a' (Int.ne_of_gt h0); omega, b', a' % b', rfl, rfl, hb', Int.emod_nonneg _ (Int.ne_of_gt h0), by rw [gcd_step ha' h0, hg], rfl⟩
  · have h0 : b' = 0 := by have := of_decide_eq_false h; omega
    subst h0
    walk_at "d"
    rw [← hg, Int.gcd_zero_right] at p
    rw [show ((a'.natAbs : Nat) : Int) = a' by omega] at p
    exact p
/-! ropes -/
abbrev _root_.Ma.Rope.d (r : Rope) : PyData := .tuple [.str r.n, .int r.a, .int r.b, .int r.c]
structure _root_.Ma.Rope.Ok (r : Rope) : Prop where
  a0 : 0 ≤ r.a
  aS : Sz 40 r.a
  b0 : 0 < r.b
  bS : Sz 40 r.b
  c0 : 0 < r.c
  cS : Sz 40 r.c
/-- the names of those that are broken -/
abbrev nm (ns : List Str) : PyData := .tuple (ns.map .str)
def leftOf (rs : List Rope) (ns : List Str) : List Rope := rs.filter fun r => !ns.contains r.n
def S_left : SpD := fun rs M P => ∃ (ro : List Rope) (ns : List Str), rs = [.d (.tuple (ro.map Rope.d)), .d (nm ns)] ∧ ro.length ≤ 100 ∧ P (.d (.list ((leftOf ro ns).map Rope.d))) M
def S_drawn : SpD := fun rs M P => ∃ (a : Int) (q : Q), rs = [.d (.int a), .d (fr q)] ∧ Sz 100 a ∧ Sz 2000 q.2 ∧ P (.d (.bool (decide (a * q.2 < q.1)))) M
def pullOf (r : Rope) (q : Q) : Q := if r.a * q.2 < q.1 then low (r.b * (q.1 - r.a * q.2)) q.2 else (0, 1)
def S_pull : SpD := fun rs M P => ∃ (r : Rope) (q : Q), rs = [.d r.d, .d (fr q)] ∧ r.Ok ∧ 0 < q.2 ∧ Sz 2000 q.1 ∧ Sz 2000 q.2 ∧ P (.d (fr (pullOf r q))) M
theorem Sz.mul {m n : Nat} {x y : Int} (h : Sz m x) (k : Sz n y) : Sz (m + n) (x * y) := wide_lt h k
theorem Sz.mulOk {m n : Nat} {x y : Int} (h : Sz m x) (k : Sz n y) (h0 : 0 < m) (h1 : 0 < n) (hs : m + n ≤ 1000000) : CMulW x y := wide_mul h k h0 h1 hs
theorem Sz.up {m n : Nat} {x : Int} (h : Sz m x) (k : m ≤ n) : Sz n x := Nat.lt_of_lt_of_le h (Nat.pow_le_pow_right (by decide) k)
theorem Sz.add {m : Nat} {x y : Int} (h : Sz m x) (k : Sz m y) : Sz (m + 1) (x + y) := by
  have h' : x.natAbs < 2 ^ m := h
  have k' : y.natAbs < 2 ^ m := k
  show (x + y).natAbs < 2 ^ (m + 1)
  rw [Nat.pow_succ]
  omega
theorem Sz.sub {m : Nat} {x y : Int} (h : Sz m x) (k : Sz m y) : Sz (m + 1) (x - y) := by
  have h' : x.natAbs < 2 ^ m := h
  have k' : y.natAbs < 2 ^ m := k
  show (x - y).natAbs < 2 ^ (m + 1)
  rw [Nat.pow_succ]
  omega
theorem Sz.le {m : Nat} {x y : Int} (h : Sz m y) (h0 : 0 ≤ x) (h1 : x ≤ y) : Sz m x := wide_le h0 h1 h
end
end K2

namespace K2
open PySem L2 Sd Ma
local macro_rules | `(tactic| walk_at "d1") => `(tactic| first
  | ((with_reducible refine' dE_var ?dv ?_); (case dv => rfl))
  | with_reducible refine' dE_int ?_
  | with_reducible refine' dE_str ?_
  | with_reducible refine' dE_bl ?_
  | with_reducible refine' dE_non ?_
  | ((with_reducible refine' dE_nt ?dv ?_); (case dv => assumption))
  | with_reducible refine' dE_ref ?_
  | with_reducible refine' dE_op ?_
  | with_reducible refine' dE_un ?_
  | with_reducible refine' dE_cmp ?_
  | with_reducible refine' dE_isN ?_
  | with_reducible refine' dE_notN ?_
  | with_reducible refine' dE_call ?_
  | with_reducible refine' dE_cb ?_
  | with_reducible refine' dE_kw ?_
  | with_reducible refine' dE_tup ?_
  | with_reducible refine' dE_if ?_
  | with_reducible refine' dE_and ?_
  | with_reducible refine' dE_or ?_
  | with_reducible refine' dE_not ?_
  | with_reducible refine' dE_sl ?_
  | with_reducible refine' dO_none ?_
  | with_reducible refine' dO_some ?_
  | with_reducible refine' dA_cons ?_
  | with_reducible refine' dA_nil ?_
  | with_reducible refine' dT_B ?_
  | with_reducible refine' dT_test ?_
  | with_reducible refine' dT_and ?_
  | with_reducible refine' dT_or ?_
  | with_reducible refine' dT_not ?_
  | with_reducible refine' dT_yes ?_
  | with_reducible refine' dR_I0i ?_
  | with_reducible refine' dU_neg ?_
  | ((with_reducible refine' dR_ixT ?dv ?_); (case dv => rfl))
  | with_reducible refine' dS_seq ?_
  | with_reducible refine' dS_next ?_
  | with_reducible refine' dS_ret ?_
  | with_reducible refine' dS_drop ?_
  | with_reducible refine' dS_if ?_
  | with_reducible refine' dS_asg ?_
  | with_reducible refine' dS_par ?_
  | with_reducible refine' dG_name ?_
  | ((with_reducible refine' dG_tup ?dv ?_); (case dv => rfl); (dsimp only [List.map]))
  | with_reducible refine' dGs_cons ?_
  | with_reducible refine' dGs_nil ?_
  | with_reducible refine' dC_abs ?_
  | with_reducible refine' dC_max2 ?_
  | with_reducible refine' dC_min2 ?_
  | with_reducible refine' rtOf.of ?_
  | with_reducible refine' ex_cmp ?_
  | with_reducible refine' ex_bool ?_
  | with_reducible refine' ex_int ?_
  | with_reducible refine' ex_list ?_
  | with_reducible refine' ex_tup ?_
  | with_reducible refine' ex_d ?_
  | with_reducible refine' ex_m ?_
  | with_reducible refine' ex_par ?_
  | with_reducible refine' ex_rg1 ?_
  | with_reducible refine' ex_rg2 ?_
  | ((with_reducible refine' ex_dat ?dv ?dw ?_); (case dv => rfl); (case dw => exact Nat.le_of_ble_eq_true rfl))
  | ((fail_if_success (with_reducible show ∃ _, _)); (fail_if_success (with_reducible show _ ∧ _)); refine ⟨_, _, rfl, ?_⟩)
  | ((fail_if_success (with_reducible show ∃ _, _)); (fail_if_success (with_reducible show _ ∧ _)); refine ⟨_, rfl, ?_⟩)
  | fail)
local macro_rules | `(tactic| walk_at "d") => `(tactic| repeat' walk_at "d1")
local macro_rules | `(tactic| walk_at "e1") => `(tactic| first
  | ((with_reducible refine' dE_var ?dv ?_); (case dv => rfl))
  | with_reducible refine' dE_int ?_
  | with_reducible refine' dE_str ?_
  | with_reducible refine' dE_bl ?_
  | with_reducible refine' dE_non ?_
  | ((with_reducible refine' dE_nt ?dv ?_); (case dv => assumption))
  | with_reducible refine' dE_ref ?_
  | with_reducible refine' dE_op ?_
  | with_reducible refine' dE_un ?_
  | with_reducible refine' dE_cmp ?_
  | with_reducible refine' dE_isN ?_
  | with_reducible refine' dE_notN ?_
  | with_reducible refine' dE_call ?_
  | with_reducible refine' dE_cb ?_
  | with_reducible refine' dE_kw ?_
  | with_reducible refine' dE_tup ?_
  | with_reducible refine' dE_if ?_
  | with_reducible refine' dE_and ?_
  | with_reducible refine' dE_or ?_
  | with_reducible refine' dE_not ?_
  | with_reducible refine' dE_sl ?_
  | with_reducible refine' dO_none ?_
  | with_reducible refine' dO_some ?_
  | with_reducible refine' dA_cons ?_
  | with_reducible refine' dA_nil ?_
  | with_reducible refine' dT_B ?_
  | with_reducible refine' dT_test ?_
  | with_reducible refine' dT_and ?_
  | with_reducible refine' dT_or ?_
  | with_reducible refine' dT_not ?_
  | with_reducible refine' dT_yes ?_
  | with_reducible refine' dR_I0i ?_
  | with_reducible refine' dU_neg ?_
  | ((with_reducible refine' dR_ixT ?dv ?_); (case dv => rfl))
  | with_reducible refine' dS_next ?_
  | with_reducible refine' dS_ret ?_
  | with_reducible refine' dS_drop ?_
  | with_reducible refine' dS_if ?_
  | with_reducible refine' dS_asg ?_
  | with_reducible refine' dS_par ?_
  | with_reducible refine' dG_name ?_
  | ((with_reducible refine' dG_tup ?dv ?_); (case dv => rfl); (dsimp only [List.map]))
  | with_reducible refine' dGs_cons ?_
  | with_reducible refine' dGs_nil ?_
  | with_reducible refine' dC_abs ?_
  | with_reducible refine' dC_max2 ?_
  | with_reducible refine' dC_min2 ?_
  | with_reducible refine' rtOf.of ?_
  | with_reducible refine' ex_cmp ?_
  | with_reducible refine' ex_bool ?_
  | with_reducible refine' ex_int ?_
  | with_reducible refine' ex_list ?_
  | with_reducible refine' ex_tup ?_
  | with_reducible refine' ex_d ?_
  | with_reducible refine' ex_m ?_
  | with_reducible refine' ex_par ?_
  | with_reducible refine' ex_rg1 ?_
  | with_reducible refine' ex_rg2 ?_
  | ((with_reducible refine' ex_dat ?dv ?dw ?_); (case dv => rfl); (case dw => exact Nat.le_of_ble_eq_true rfl))
  | ((fail_if_success (with_reducible show ∃ _, _)); (fail_if_success (with_reducible show _ ∧ _)); refine ⟨_, _, rfl, ?_⟩)
  | ((fail_if_success (with_reducible show ∃ _, _)); (fail_if_success (with_reducible show _ ∧ _)); refine ⟨_, rfl, ?_⟩)
  | fail)
local macro_rules | `(tactic| walk_at "e") => `(tactic| repeat' walk_at "e1")

section
variable {P : Program} {w : World} {K : PySem.W.Frag} {mg : Str → Option Value} {base : Heap} {f : Addr} {fd : FuncData}
abbrev keyS : PyData → Option Int := itemKey 1
def kvS (d : PyData) : Int := (itemKey 1 d).getD 0
abbrev opt : Option Q → PyData
  | none => .none
  | some q => fr q
def S_sunk : SpD := fun rs M P => ∃ (ro : List Rope) (t b : Int), rs = [.d (.list (ro.map Rope.d)), .d (fr (t, b))] ∧ ro.length ≤ 100 ∧ (∀ r ∈ ro, r.Ok) ∧ 0 ≤ t ∧ 0 < b ∧ Sz 300 t ∧ Sz 300 b ∧ P (.d (opt (sunkOf ro t b))) M
end
end K2

namespace K2
open PySem L2 Sd Ma
local macro_rules | `(tactic| walk_at "d1") => `(tactic| first
  | ((with_reducible refine' dE_var ?dv ?_); (case dv => rfl))
  | with_reducible refine' dE_int ?_
  | with_reducible refine' dE_str ?_
  | with_reducible refine' dE_bl ?_
  | with_reducible refine' dE_non ?_
  | ((with_reducible refine' dE_nt ?dv ?_); (case dv => assumption))
  | with_reducible refine' dE_ref ?_
  | with_reducible refine' dE_op ?_
  | with_reducible refine' dE_un ?_
  | with_reducible refine' dE_cmp ?_
  | with_reducible refine' dE_isN ?_
  | with_reducible refine' dE_notN ?_
  | with_reducible refine' dE_call ?_
  | with_reducible refine' dE_cb ?_
  | with_reducible refine' dE_kw ?_
  | with_reducible refine' dE_tup ?_
  | with_reducible refine' dE_if ?_
  | with_reducible refine' dE_and ?_
  | with_reducible refine' dE_or ?_
  | with_reducible refine' dE_not ?_
  | with_reducible refine' dE_sl ?_
  | with_reducible refine' dO_none ?_
  | with_reducible refine' dO_some ?_
  | with_reducible refine' dA_cons ?_
  | with_reducible refine' dA_nil ?_
  | with_reducible refine' dT_B ?_
  | with_reducible refine' dT_test ?_
  | with_reducible refine' dT_and ?_
  | with_reducible refine' dT_or ?_
  | with_reducible refine' dT_not ?_
  | with_reducible refine' dT_yes ?_
  | with_reducible refine' dR_I0i ?_
  | with_reducible refine' dU_neg ?_
  | ((with_reducible refine' dR_ixT ?dv ?_); (case dv => rfl))
  | with_reducible refine' dS_seq ?_
  | with_reducible refine' dS_next ?_
  | with_reducible refine' dS_ret ?_
  | with_reducible refine' dS_drop ?_
  | with_reducible refine' dS_if ?_
  | with_reducible refine' dS_asg ?_
  | with_reducible refine' dS_par ?_
  | with_reducible refine' dG_name ?_
  | ((with_reducible refine' dG_tup ?dv ?_); (case dv => rfl); (dsimp only [List.map]))
  | with_reducible refine' dGs_cons ?_
  | with_reducible refine' dGs_nil ?_
  | with_reducible refine' dC_abs ?_
  | with_reducible refine' dC_max2 ?_
  | with_reducible refine' dC_min2 ?_
  | with_reducible refine' rtOf.of ?_
  | with_reducible refine' ex_cmp ?_
  | with_reducible refine' ex_bool ?_
  | with_reducible refine' ex_int ?_
  | with_reducible refine' ex_list ?_
  | with_reducible refine' ex_tup ?_
  | with_reducible refine' ex_d ?_
  | with_reducible refine' ex_m ?_
  | with_reducible refine' ex_par ?_
  | with_reducible refine' ex_rg1 ?_
  | with_reducible refine' ex_rg2 ?_
  | ((with_reducible refine' ex_dat ?dv ?dw ?_); (case dv => rfl); (case dw => exact Nat.le_of_ble_eq_true rfl))
  | ((fail_if_success (with_reducible show ∃ _, _)); (fail_if_success (with_reducible show _ ∧ _)); refine ⟨_, _, rfl, ?_⟩)
  | ((fail_if_success (with_reducible show ∃ _, _)); (fail_if_success (with_reducible show _ ∧ _)); refine ⟨_, rfl, ?_⟩)
  | fail)
local macro_rules | `(tactic| walk_at "d") => `(tactic| repeat' walk_at "d1")
local macro_rules | `(tactic| walk_at "e1") => `(tactic| first
  | ((with_reducible refine' dE_var ?dv ?_); (case dv => rfl))
  | with_reducible refine' dE_int ?_
  | with_reducible refine' dE_str ?_
  | with_reducible refine' dE_bl ?_
  | with_reducible refine' dE_non ?_
  | ((with_reducible refine' dE_nt ?dv ?_); (case dv => assumption))
  | with_reducible refine' dE_ref ?_
  | with_reducible refine' dE_op ?_
  | with_reducible refine' dE_un ?_
  | with_reducible refine' dE_cmp ?_
  | with_reducible refine' dE_isN ?_
  | with_reducible refine' dE_notN ?_
  | with_reducible refine' dE_call ?_
  | with_reducible refine' dE_cb ?_
  | with_reducible refine' dE_kw ?_
  | with_reducible refine' dE_tup ?_
  | with_reducible refine' dE_if ?_
  | with_reducible refine' dE_and ?_
  | with_reducible refine' dE_or ?_
  | with_reducible refine' dE_not ?_
  | with_reducible refine' dE_sl ?_
  | with_reducible refine' dO_none ?_
  | with_reducible refine' dO_some ?_
  | with_reducible refine' dA_cons ?_
  | with_reducible refine' dA_nil ?_
  | with_reducible refine' dT_B ?_
  | with_reducible refine' dT_test ?_
  | with_reducible refine' dT_and ?_
  | with_reducible refine' dT_or ?_
  | with_reducible refine' dT_not ?_
  | with_reducible refine' dT_yes ?_
  | with_reducible refine' dR_I0i ?_
  | with_reducible refine' dU_neg ?_
  | ((with_reducible refine' dR_ixT ?dv ?_); (case dv => rfl))
  | with_reducible refine' dS_next ?_
  | with_reducible refine' dS_ret ?_
  | with_reducible refine' dS_drop ?_
  | with_reducible refine' dS_if ?_
  | with_reducible refine' dS_asg ?_
  | with_reducible refine' dS_par ?_
  | with_reducible refine' dG_name ?_
  | ((with_reducible refine' dG_tup ?dv ?_); (case dv => rfl); (dsimp only [List.map]))
  | with_reducible refine' dGs_cons ?_
  | with_reducible refine' dGs_nil ?_
  | with_reducible refine' dC_abs ?_
  | with_reducible refine' dC_max2 ?_
  | with_reducible refine' dC_min2 ?_
  | with_reducible refine' rtOf.of ?_
  | with_reducible refine' ex_cmp ?_
  | with_reducible refine' ex_bool ?_
  | with_reducible refine' ex_int ?_
  | with_reducible refine' ex_list ?_
  | with_reducible refine' ex_tup ?_
  | with_reducible refine' ex_d ?_
  | with_reducible refine' ex_m ?_
  | with_reducible refine' ex_par ?_
  | with_reducible refine' ex_rg1 ?_
  | with_reducible refine' ex_rg2 ?_
  | ((with_reducible refine' ex_dat ?dv ?dw ?_); (case dv => rfl); (case dw => exact Nat.le_of_ble_eq_true rfl))
  | ((fail_if_success (with_reducible show ∃ _, _)); (fail_if_success (with_reducible show _ ∧ _)); refine ⟨_, _, rfl, ?_⟩)
  | ((fail_if_success (with_reducible show ∃ _, _)); (fail_if_success (with_reducible show _ ∧ _)); refine ⟨_, rfl, ?_⟩)
  | fail)
local macro_rules | `(tactic| walk_at "e") => `(tactic| repeat' walk_at "e1")

structure QOk (q : Q) : Prop extends Red q where
  s1 : Sz 600 q.1
  s2 : Sz 600 q.2
theorem goS_ok {t b : Int} (ht : 0 ≤ t) (hb : 0 < b) (st : Sz 300 t) (sb : Sz 300 b) : ∀ (rs : List Rope) (s : Option Q) (k l : Int) (m : Nat), m + rs.length ≤ 100 → (∀ r ∈ rs, r.Ok) → Sz (41 + m) k → Sz (81 + m) l → 0 ≤ k → 0 ≤ l → (∀ q, s = some q → QOk q) → ∀ q, goS t b rs s k l = some q → QOk q
  | [], s, k, l, m, _, _, _, _, _, _, hs, q, e => hs q e
  | r :: rs, s, k, l, m, hm, hro, zk, zl, k0, l0, hs, q, e => by
    rw [List.length_cons] at hm
    have rok := hro r List.mem_cons_self
    have hba : 0 ≤ r.b * r.a := Int.mul_nonneg (Int.le_of_lt rok.b0) rok.a0
    have hkb : 0 < (k + r.b) * b := Int.mul_pos (by have := rok.b0; omega) hb
    have zk' : Sz (41 + (m + 1)) (k + r.b) := (zk.add (rok.bS.up (by omega))).up (by omega)
    have zl' : Sz (81 + (m + 1)) (l + r.b * r.a) := (zl.add ((rok.bS.mul rok.aS).up (by omega))).up (by omega)
    have ht' : 0 ≤ t + (l + r.b * r.a) * b := by
      have := Int.mul_nonneg (show 0 ≤ l + r.b * r.a by omega) (Int.le_of_lt hb)
      omega
    have hz : Sz 600 ((k + r.b) * b) := (zk'.mul sb).up (by omega)
    have hz1 : Sz 600 (t + (l + r.b * r.a) * b) := (Sz.add (st.up (show 300 ≤ 500 by decide)) ((zl'.mul sb).up (by omega))).up (by decide)
    have new : QOk (low (t + (l + r.b * r.a) * b) ((k + r.b) * b)) := ⟨low_red ht' hkb, hz1.le (low_red ht' hkb).p0 (low_le ht' hkb).1, hz.le (Int.le_of_lt (low_red ht' hkb).q0) (low_le ht' hkb).2⟩
    have go : goS t b rs (some (low (t + (l + r.b * r.a) * b) ((k + r.b) * b))) (k + r.b) (l + r.b * r.a) = some q → QOk q := fun e => goS_ok ht hb st sb rs _ _ _ (m + 1) (by omega) (fun x hx => hro x (List.mem_cons_of_mem _ hx)) zk' zl' (by have := rok.b0; omega) (by omega) (fun q' e' => by cases e'; exact new) q e
    cases s with
    | none => exact go e
    | some q0 =>
      have e' : (if r.a * q0.2 < q0.1 then goS t b rs (some (low (t + (l + r.b * r.a) * b) ((k + r.b) * b))) (k + r.b) (l + r.b * r.a) else some q0) = some q := e
      by_cases hc : r.a * q0.2 < q0.1
      · rw [if_pos hc] at e'; exact go e'
      · rw [if_neg hc] at e'; exact hs q e'
theorem sunk_ok {ro : List Rope} {t b : Int} (hl : ro.length ≤ 100) (hro : ∀ r ∈ ro, r.Ok) (ht : 0 ≤ t) (hb : 0 < b) (st : Sz 300 t) (sb : Sz 300 b) {q : Q} (e : sunkOf ro t b = some q) : QOk q := by
  unfold sunkOf at e
  by_cases h : t = 0
  · rw [if_pos h] at e; cases e
    exact ⟨⟨by decide, by decide, by decide⟩, Nat.pow_pos (by decide), Nat.lt_of_lt_of_le (by decide) (Nat.pow_le_pow_right (by decide) (show 1 ≤ 600 by decide))⟩
  · rw [if_neg h] at e
    exact goS_ok ht hb st sb (bySlack ro) none 0 0 0 (by unfold bySlack; rw [List.length_mergeSort]; omega) (fun r hr => hro r (List.mem_mergeSort.mp hr)) (Nat.pow_pos (by decide)) (Nat.pow_pos (by decide)) (by decide) (by decide) (fun q e => by cases e) q e
theorem goS_some {t b : Int} : ∀ (rs : List Rope) (q : Q) (k l : Int), ∃ q', goS t b rs (some q) k l = some q'
  | [], q, k, l => ⟨q, rfl⟩
  | r :: rs, q, k, l => by
    show ∃ q', (if r.a * q.2 < q.1 then goS t b rs (some (low (t + (l + r.b * r.a) * b) ((k + r.b) * b))) (k + r.b) (l + r.b * r.a) else some q) = some q'
    by_cases hc : r.a * q.2 < q.1
    · rw [if_pos hc]; exact goS_some rs _ _ _
    · rw [if_neg hc]; exact ⟨q, rfl⟩
/-- the ropes of a bundle -/
structure BOk (ro : List Rope) : Prop where
  len : ro.length ≤ 100
  ok : ∀ r ∈ ro, r.Ok
structure LOk (q : Q) : Prop extends Red q where
  s1 : Sz 300 q.1
  s2 : Sz 300 q.2
abbrev bd (ro : List Rope) : PyData := .tuple (ro.map Rope.d)
abbrev ld (ro : List Rope) : PyData := .list (ro.map Rope.d)
theorem left_ok {ro : List Rope} (h : BOk ro) (ns : List Str) : BOk (leftOf ro ns) := ⟨Nat.le_trans (List.length_filter_le _ _) h.len, fun r hr => h.ok r (List.mem_filter.mp hr).1⟩
theorem sunk_some {ro : List Rope} {t b : Int} (h : ro ≠ []) : ∃ q, sunkOf ro t b = some q := by
  unfold sunkOf
  by_cases h0 : t = 0
  · rw [if_pos h0]; exact ⟨_, rfl⟩
  · rw [if_neg h0]
    cases e : bySlack ro with
    | nil =>
      exfalso
      have := congrArg List.length e
      unfold bySlack at this
      rw [List.length_mergeSort] at this
      exact h (List.length_eq_zero_iff.mp this)
    | cons r rs => exact goS_some rs _ _ _
theorem sunk_none {t b : Int} : sunkOf [] t b = if t = 0 then some (0, 1) else none := by
  unfold sunkOf bySlack
  rw [List.mergeSort_nil]
  rfl
abbrev pullD (sk : Option Q) (r : Rope) : PyData := .tuple [.str r.n, fr (pullOf r (sk.getD (0, 1)))]
section
variable {P : Program} {w : World} {K : PySem.W.Frag} {mg : Str → Option Value} {base : Heap} {f : Addr} {fd : FuncData}
def S_sinking : SpD := fun rs M P => ∃ (ro : List Rope) (ns : List Str) (q : Q), rs = [.d (bd ro), .d (nm ns), .d (fr q)] ∧ BOk ro ∧ LOk q ∧ P (.d (opt (sunkOf (leftOf ro ns) q.1 q.2))) M
def S_pulls : SpD := fun rs M P => ∃ (ro : List Rope) (ns : List Str) (q : Q), rs = [.d (bd ro), .d (nm ns), .d (fr q)] ∧ BOk ro ∧ LOk q ∧ ∀ a, M a = none → P (.m a) (mset M a ((leftOf ro ns).map (pullD (sunkOf (leftOf ro ns) q.1 q.2))))
end
end K2

namespace K2
open PySem L2 Sd Ma
local macro_rules | `(tactic| walk_at "d1") => `(tactic| first
  | ((with_reducible refine' dE_var ?dv ?_); (case dv => rfl))
  | with_reducible refine' dE_int ?_
  | with_reducible refine' dE_str ?_
  | with_reducible refine' dE_bl ?_
  | with_reducible refine' dE_non ?_
  | ((with_reducible refine' dE_nt ?dv ?_); (case dv => assumption))
  | with_reducible refine' dE_ref ?_
  | with_reducible refine' dE_op ?_
  | with_reducible refine' dE_un ?_
  | with_reducible refine' dE_cmp ?_
  | with_reducible refine' dE_isN ?_
  | with_reducible refine' dE_notN ?_
  | with_reducible refine' dE_call ?_
  | with_reducible refine' dE_cb ?_
  | with_reducible refine' dE_kw ?_
  | with_reducible refine' dE_tup ?_
  | with_reducible refine' dE_if ?_
  | with_reducible refine' dE_and ?_
  | with_reducible refine' dE_or ?_
  | with_reducible refine' dE_not ?_
  | with_reducible refine' dE_sl ?_
  | with_reducible refine' dO_none ?_
  | with_reducible refine' dO_some ?_
  | with_reducible refine' dA_cons ?_
  | with_reducible refine' dA_nil ?_
  | with_reducible refine' dT_B ?_
  | with_reducible refine' dT_test ?_
  | with_reducible refine' dT_and ?_
  | with_reducible refine' dT_or ?_
  | with_reducible refine' dT_not ?_
  | with_reducible refine' dT_yes ?_
  | with_reducible refine' dR_I0i ?_
  | with_reducible refine' dU_neg ?_
  | ((with_reducible refine' dR_ixT ?dv ?_); (case dv => rfl))
  | with_reducible refine' dS_seq ?_
  | with_reducible refine' dS_next ?_
  | with_reducible refine' dS_ret ?_
  | with_reducible refine' dS_drop ?_
  | with_reducible refine' dS_if ?_
  | with_reducible refine' dS_asg ?_
  | with_reducible refine' dS_par ?_
  | with_reducible refine' dG_name ?_
  | ((with_reducible refine' dG_tup ?dv ?_); (case dv => rfl); (dsimp only [List.map]))
  | with_reducible refine' dGs_cons ?_
  | with_reducible refine' dGs_nil ?_
  | with_reducible refine' dC_abs ?_
  | with_reducible refine' dC_max2 ?_
  | with_reducible refine' dC_min2 ?_
  | with_reducible refine' rtOf.of ?_
  | with_reducible refine' ex_cmp ?_
  | with_reducible refine' ex_bool ?_
  | with_reducible refine' ex_int ?_
  | with_reducible refine' ex_list ?_
  | with_reducible refine' ex_tup ?_
  | with_reducible refine' ex_d ?_
  | with_reducible refine' ex_m ?_
  | with_reducible refine' ex_par ?_
  | with_reducible refine' ex_rg1 ?_
  | with_reducible refine' ex_rg2 ?_
  | ((with_reducible refine' ex_dat ?dv ?dw ?_); (case dv => rfl); (case dw => exact Nat.le_of_ble_eq_true rfl))
  | ((fail_if_success (with_reducible show ∃ _, _)); (fail_if_success (with_reducible show _ ∧ _)); refine ⟨_, _, rfl, ?_⟩)
  | ((fail_if_success (with_reducible show ∃ _, _)); (fail_if_success (with_reducible show _ ∧ _)); refine ⟨_, rfl, ?_⟩)
  | fail)
local macro_rules | `(tactic| walk_at "d") => `(tactic| repeat' walk_at "d1")
local macro_rules | `(tactic| walk_at "e1") => `(tactic| first
  | ((with_reducible refine' dE_var ?dv ?_); (case dv => rfl))
  | with_reducible refine' dE_int ?_
  | with_reducible refine' dE_str ?_
  | with_reducible refine' dE_bl ?_
  | with_reducible refine' dE_non ?_
  | ((with_reducible refine' dE_nt ?dv ?_); (case dv => assumption))
  | with_reducible refine' dE_ref ?_
  | with_reducible refine' dE_op ?_
  | with_reducible refine' dE_un ?_
  | with_reducible refine' dE_cmp ?_
  | with_reducible refine' dE_isN ?_
  | with_reducible refine' dE_notN ?_
  | with_reducible refine' dE_call ?_
  | with_reducible refine' dE_cb ?_
  | with_reducible refine' dE_kw ?_
  | with_reducible refine' dE_tup ?_
  | with_reducible refine' dE_if ?_
  | with_reducible refine' dE_and ?_
  | with_reducible refine' dE_or ?_
  | with_reducible refine' dE_not ?_
  | with_reducible refine' dE_sl ?_
  | with_reducible refine' dO_none ?_
  | with_reducible refine' dO_some ?_
  | with_reducible refine' dA_cons ?_
  | with_reducible refine' dA_nil ?_
  | with_reducible refine' dT_B ?_
  | with_reducible refine' dT_test ?_
  | with_reducible refine' dT_and ?_
  | with_reducible refine' dT_or ?_
  | with_reducible refine' dT_not ?_
  | with_reducible refine' dT_yes ?_
  | with_reducible refine' dR_I0i ?_
  | with_reducible refine' dU_neg ?_
  | ((with_reducible refine' dR_ixT ?dv ?_); (case dv => rfl))
  | with_reducible refine' dS_next ?_
  | with_reducible refine' dS_ret ?_
  | with_reducible refine' dS_drop ?_
  | with_reducible refine' dS_if ?_
  | with_reducible refine' dS_asg ?_
  | with_reducible refine' dS_par ?_
  | with_reducible refine' dG_name ?_
  | ((with_reducible refine' dG_tup ?dv ?_); (case dv => rfl); (dsimp only [List.map]))
  | with_reducible refine' dGs_cons ?_
  | with_reducible refine' dGs_nil ?_
  | with_reducible refine' dC_abs ?_
  | with_reducible refine' dC_max2 ?_
  | with_reducible refine' dC_min2 ?_
  | with_reducible refine' rtOf.of ?_
  | with_reducible refine' ex_cmp ?_
  | with_reducible refine' ex_bool ?_
  | with_reducible refine' ex_int ?_
  | with_reducible refine' ex_list ?_
  | with_reducible refine' ex_tup ?_
  | with_reducible refine' ex_d ?_
  | with_reducible refine' ex_m ?_
  | with_reducible refine' ex_par ?_
  | with_reducible refine' ex_rg1 ?_
  | with_reducible refine' ex_rg2 ?_
  | ((with_reducible refine' ex_dat ?dv ?dw ?_); (case dv => rfl); (case dw => exact Nat.le_of_ble_eq_true rfl))
  | ((fail_if_success (with_reducible show ∃ _, _)); (fail_if_success (with_reducible show _ ∧ _)); refine ⟨_, _, rfl, ?_⟩)
  | ((fail_if_success (with_reducible show ∃ _, _)); (fail_if_success (with_reducible show _ ∧ _)); refine ⟨_, rfl, ?_⟩)
  | fail)
local macro_rules | `(tactic| walk_at "e") => `(tactic| repeat' walk_at "e1")

/-! ### data that == may look at -/
def Shp (n : Nat) (d : PyData) : Prop := d.canLay0 = true ∧ d.depth ≤ n
theorem Shp.shaped {n : Nat} {d : PyData} (h : Shp n d) (hn : n ≤ 64 := by decide) : SeqAt.shaped d = true := by
  unfold SeqAt.shaped
  rw [h.1, Bool.true_and]
  exact decide_eq_true (Nat.le_trans h.2 hn)
theorem Shp.int {n : Nat} {i : Int} : Shp n (.int i) := ⟨rfl, Nat.zero_le _⟩
theorem Shp.str {n : Nat} {x : Str} (h : PyData.canLay0 (.str x) = true) : Shp n (.str x) := ⟨h, Nat.zero_le _⟩
theorem Shp.non {n : Nat} : Shp n .none := ⟨rfl, Nat.zero_le _⟩
theorem Shp.bool {n : Nat} {b : Bool} : Shp n (.bool b) := ⟨rfl, Nat.zero_le _⟩
theorem shp_all {n : Nat} : ∀ {ds : List PyData}, (∀ d ∈ ds, Shp n d) → PyData.canLayAll0 ds = true ∧ PyData.depthAll ds ≤ n
  | [], _ => ⟨rfl, Nat.zero_le _⟩
  | d :: ds, h => by
    obtain ⟨h1, h2⟩ := shp_all (ds := ds) fun x hx => h x (List.mem_cons_of_mem _ hx)
    obtain ⟨h3, h4⟩ := h d List.mem_cons_self
    refine ⟨?_, ?_⟩
    · rw [PyData.canLayAll0, h3, h1]; rfl
    · rw [PyData.depthAll]; omega
theorem Shp.list {n : Nat} {ds : List PyData} (h : ∀ d ∈ ds, Shp n d) : Shp (n + 1) (.list ds) := by
  obtain ⟨h1, h2⟩ := shp_all h
  exact ⟨by rw [PyData.canLay0]; exact h1, by rw [PyData.depth]; omega⟩
theorem Shp.tup {n : Nat} {ds : List PyData} (h : ∀ d ∈ ds, Shp n d) : Shp (n + 1) (.tuple ds) := by
  obtain ⟨h1, h2⟩ := shp_all h
  exact ⟨by rw [PyData.canLay0]; exact h1, by rw [PyData.depth]; omega⟩
theorem Shp.fr {q : Q} : Shp 1 (fr q) := Shp.tup fun d hd => by
  rcases List.mem_cons.mp hd with rfl | hd
  · exact .int
  · rcases List.mem_cons.mp hd with rfl | hd
    · exact .int
    · cases hd
theorem Shp.rope {r : Rope} (hn : PyData.canLay0 (.str r.n) = true) : Shp 1 r.d := Shp.tup fun d hd => by
  simp only [List.mem_cons, List.not_mem_nil, or_false] at hd
  rcases hd with rfl | rfl | rfl | rfl
  · exact .str hn
  · exact .int
  · exact .int
  · exact .int
theorem Shp.opt {o : Option Q} : Shp 1 (opt o) := by
  cases o with
  | none => exact .non
  | some q => exact .fr
theorem Shp.pull {o : Option Q} {r : Rope} (hn : PyData.canLay0 (.str r.n) = true) : Shp 2 (pullD o r) := Shp.tup fun d hd => by
  simp only [List.mem_cons, List.not_mem_nil, or_false] at hd
  rcases hd with rfl | rfl
  · exact .str hn
  · exact ⟨Shp.fr.1, Shp.fr.2⟩
/-! ### the bag -/
def Bag (ds : List PyData) : Prop := ∃ x y : Int, ds = [.int x, .int y] ∧ 0 ≤ x ∧ 0 ≤ y ∧ y < 2147483648
theorem sz_lt {n : Nat} {x : Int} (h0 : 0 ≤ x) (h : x < 2 ^ n) : Sz n x := by
  show x.natAbs < 2 ^ n
  have e : ((2 ^ n : Nat) : Int) = 2 ^ n := by simp
  omega
theorem Sz.ofC {n : Nat} {x : Int} (h : x.natAbs < 2 ^ n) : Sz n x := h
section
variable {P : Program} {w : World} {K : PySem.W.Frag} {mg : Str → Option Value} {base : Heap} {f : Addr} {fd : FuncData}
def S_bag : SpD := fun rs M P => ∃ (ns : List Int) (k : Int), rs = [.l ns, .d (.int k)] ∧ 0 ≤ k ∧ k < 1000 ∧ ∀ a ds, M a = none → Bag ds → P (.m a) (mset M a ds)
/-- a bag stands at b; it was drawn from -/
def BI (M : Mem) (b : Addr) : Prop := ∃ ds, M b = some ds ∧ Bag ds
def BS (M : Mem) (b : Addr) (M' : Mem) : Prop := ∃ ds, Bag ds ∧ M' = mset M b ds
theorem BS.bi {M M' : Mem} {b : Addr} (h : BS M b M') : BI M' b := by
  obtain ⟨ds, h1, rfl⟩ := h
  exact ⟨ds, mset_same, h1⟩
theorem BS.trans {M M1 M2 : Mem} {b : Addr} (h : BS M b M1) (k : BS M1 b M2) : BS M b M2 := by
  obtain ⟨ds, h1, rfl⟩ := h
  obtain ⟨es, h2, rfl⟩ := k
  exact ⟨es, h2, mset_mset⟩
theorem BS.ne {M M' : Mem} {b c : Addr} (h : BS M b M') (n : c ≠ b) : M' c = M c := by
  obtain ⟨ds, h1, rfl⟩ := h
  exact mset_ne n
theorem mset_self {M : Mem} {b : Addr} {ds : List PyData} (h : M b = some ds) : mset M b ds = M := by
  funext c
  unfold mset
  split
  · rename_i e; rw [e, h]
  · rfl
theorem BI.refl {M : Mem} {b : Addr} (h : BI M b) : BS M b M := by
  obtain ⟨ds, h1, h2⟩ := h
  exact ⟨ds, h2, (mset_self h1).symm⟩
def S_take : SpD := fun rs M P => ∃ (b : Addr) (n : Int), rs = [.m b, .d (.int n)] ∧ 0 < n ∧ n < 2147483648 ∧ BI M b ∧ ∀ i M', 0 ≤ i → i < n → BS M b M' → P (.d (.int i)) M'
def S_of : SpD := fun rs M P => ∃ (b : Addr) (s : SV) (es : List PyData), rs = [.m b, s] ∧ SeqL M s es ∧ s ≠ .m b ∧ es ≠ [] ∧ es.length ≤ 1000 ∧ BI M b ∧ ∀ d M', d ∈ es → BS M b M' → P (.d d) M'
abbrev S_lowest : SpD := S_fraction
abbrev s_law_bag : Stmt := topS 16
theorem sc_law_bag : FnScope ["script", "k", "cell"] ["script", "k"] (defScope s_law_bag) := ⟨rfl, rfl, rfl, by decide +kernel, rfl, by decide +kernel, by decide +kernel⟩
theorem ok_law_bag (T : Txt mg) (F : Fun K "_law_bag" "_law_bag" s_law_bag f fd) : FnOk P w K mg base CX0 1 f fd ["script", "k"] (spOf K S_bag) := by
  refine ok_of F sc_law_bag (fun rs M P h => by obtain ⟨a, b, rfl, _⟩ := h; rfl) fun cdv A outer s H E hr => ⟨_, (pss_cons (ps_set (i := 2) sc_law_bag.nd rfl (Or.inl rfl) pe_int)
      (pss_cons (ps_if (pt_cmp (pc_lt (pv 1) (pe_callB (kcall_len K) (by rfl) T.len (by decide +kernel) (pa_cons (pv 0) pa_nil)))) (pss_one (ps_set (i := 2) sc_law_bag.nd rfl (Or.inl rfl) (pe_callB call_abs (by rfl) T.abs (by decide +kernel) (pa_cons (pe_ix (kix_list K) (pv 0) (pv 1) (fun _ _ => rfl)) pa_nil)))) pss_nil)
      (pss_cons (ps_if (pt_cmp (pc_lt (pv 2) (pe_op op_pow pe_int pe_int))) (pss_one (ps_ret (pe_lst (pa_cons pe_int (pa_cons (pe_op op_add pe_int (pe_op op_mod (pe_op op_add (pe_op op_mulW (pv 2) pe_int) (pe_op op_mulW pe_int (pv 1))) pe_int)) pa_nil))))) pss_nil)
      (pss_one (ps_ret (pe_lst (pa_cons (pv 2) (pa_cons (pe_op op_add pe_int (pe_op op_mod (pe_op op_add (pv 2) (pv 1)) pe_int)) pa_nil)))))))), fun rs M P h => ?_⟩
  obtain ⟨ns, k, rfl, h0, h1, p⟩ := h
  have rest : ∀ c : Int, 0 ≤ c → dS K (tSeq (tIfS (tB (tCmp (fun i j => decide (i < j)) (tVar 2) (tOp (rI CPow fun i j => .int (i ^ j.toNat)) (tC (.int 10)) (tC (.int 18)))))
      (tRet (tLst (tCons (tC (.int 0)) (tCons (tOp (rI0 fun i j => .int (i + j)) (tC (.int 1)) (tOp (rI (fun _ j => 0 < j) fun i j => .int (i % j)) (tOp (rI0 fun i j => .int (i + j)) (tOp (rI CMulW fun i j => .int (i * j)) (tVar 2) (tC (.int 7919))) (tOp (rI CMulW fun i j => .int (i * j)) (tC (.int 104729)) (tVar 1))) (tC (.int 2147483646)))) tNil)))) tNext)
      (tRet (tLst (tCons (tVar 2) (tCons (tOp (rI0 fun i j => .int (i + j)) (tC (.int 1)) (tOp (rI (fun _ j => 0 < j) fun i j => .int (i % j)) (tOp (rI0 fun i j => .int (i + j)) (tVar 2) (tVar 1)) (tC (.int 2147483646)))) tNil)))))
      { nx := fun _ M' => rtOf P (.d .none) M', rt := rtOf P } [some (.l ns), some (.d (.int k)), some (.d (.int c))] M := fun c hc => by
    walk_at "d"
    refine dR_Ii (show CPow 10 18 from ⟨by decide, by decide, by decide⟩) ?_
    walk_at "d"
    refine ifB (fun h => ?_) (fun h => ?_)
    · have hc2 : c < 10 ^ 18 := of_decide_eq_true h
      walk_at "d"
      refine dE_lstM ?_
      walk_at "d"
      refine dR_Ii (Sz.mulOk (m := 100) (n := 100) (sz_lt hc (Int.lt_trans hc2 (by decide))) (sz_lt (by decide) (by decide)) (by decide) (by decide) (by decide)) ?_
      walk_at "d"
      refine dR_Ii (Sz.mulOk (m := 100) (n := 100) (sz_lt (by decide) (by decide)) (sz_lt h0 (Int.lt_trans h1 (by decide))) (by decide) (by decide) (by decide)) ?_
      walk_at "d"
      refine dR_Ii (by decide) ?_
      walk_at "d"
      intro a ha
      refine rtOf.of (p a _ ha ⟨_, _, rfl, by decide, ?_, ?_⟩)
      · have := Int.emod_nonneg (c * 7919 + 104729 * k) (show (2147483646 : Int) ≠ 0 by decide); omega
      · have := Int.emod_lt_of_pos (c * 7919 + 104729 * k) (show (0 : Int) < 2147483646 by decide); omega
    · walk_at "d"
      refine dE_lstM ?_
      walk_at "d"
      refine dR_Ii (by decide) ?_
      walk_at "d"
      intro a ha
      refine rtOf.of (p a _ ha ⟨_, _, rfl, hc, ?_, ?_⟩)
      · have := Int.emod_nonneg (c + k) (show (2147483646 : Int) ≠ 0 by decide); omega
      · have := Int.emod_lt_of_pos (c + k) (show (0 : Int) < 2147483646 by decide); omega
  walk_at "d"
  refine dC_lenS ?_
  walk_at "d"
  refine ifB (fun h => ?_) (fun h => ?_)
  · have hk : k < ns.length := of_decide_eq_true h
    walk_at "e"
    have hj : k.toNat < ns.length := by omega
    refine dR_ixS (n := ns[k.toNat]) ?_ ?_
    · unfold atI ixN
      rw [if_pos h0, if_pos hk]
      simp [hj]
    walk_at "e"
    refine rest _ ?_
    split <;> omega
  · walk_at "e"
    exact rest 0 (by decide)
end
end K2

namespace K2
open PySem L2 Sd Ma
local macro_rules | `(tactic| walk_at "d1") => `(tactic| first
  | ((with_reducible refine' dE_var ?dv ?_); (case dv => rfl))
  | with_reducible refine' dE_int ?_
  | with_reducible refine' dE_str ?_
  | with_reducible refine' dE_bl ?_
  | with_reducible refine' dE_non ?_
  | ((with_reducible refine' dE_nt ?dv ?_); (case dv => assumption))
  | with_reducible refine' dE_ref ?_
  | with_reducible refine' dE_op ?_
  | with_reducible refine' dE_un ?_
  | with_reducible refine' dE_cmp ?_
  | with_reducible refine' dE_isN ?_
  | with_reducible refine' dE_notN ?_
  | with_reducible refine' dE_call ?_
  | with_reducible refine' dE_cb ?_
  | with_reducible refine' dE_kw ?_
  | with_reducible refine' dE_tup ?_
  | with_reducible refine' dE_if ?_
  | with_reducible refine' dE_and ?_
  | with_reducible refine' dE_or ?_
  | with_reducible refine' dE_not ?_
  | with_reducible refine' dE_sl ?_
  | with_reducible refine' dO_none ?_
  | with_reducible refine' dO_some ?_
  | with_reducible refine' dA_cons ?_
  | with_reducible refine' dA_nil ?_
  | with_reducible refine' dT_B ?_
  | with_reducible refine' dT_test ?_
  | with_reducible refine' dT_and ?_
  | with_reducible refine' dT_or ?_
  | with_reducible refine' dT_not ?_
  | with_reducible refine' dT_yes ?_
  | with_reducible refine' dR_I0i ?_
  | with_reducible refine' dU_neg ?_
  | ((with_reducible refine' dR_ixT ?dv ?_); (case dv => rfl))
  | with_reducible refine' dS_seq ?_
  | with_reducible refine' dS_next ?_
  | with_reducible refine' dS_ret ?_
  | with_reducible refine' dS_drop ?_
  | with_reducible refine' dS_if ?_
  | with_reducible refine' dS_asg ?_
  | with_reducible refine' dS_par ?_
  | with_reducible refine' dG_name ?_
  | ((with_reducible refine' dG_tup ?dv ?_); (case dv => rfl); (dsimp only [List.map]))
  | with_reducible refine' dGs_cons ?_
  | with_reducible refine' dGs_nil ?_
  | with_reducible refine' dC_abs ?_
  | with_reducible refine' dC_max2 ?_
  | with_reducible refine' dC_min2 ?_
  | with_reducible refine' rtOf.of ?_
  | with_reducible refine' ex_cmp ?_
  | with_reducible refine' ex_bool ?_
  | with_reducible refine' ex_int ?_
  | with_reducible refine' ex_list ?_
  | with_reducible refine' ex_tup ?_
  | with_reducible refine' ex_d ?_
  | with_reducible refine' ex_m ?_
  | with_reducible refine' ex_par ?_
  | with_reducible refine' ex_rg1 ?_
  | with_reducible refine' ex_rg2 ?_
  | ((with_reducible refine' ex_dat ?dv ?dw ?_); (case dv => rfl); (case dw => exact Nat.le_of_ble_eq_true rfl))
  | ((fail_if_success (with_reducible show ∃ _, _)); (fail_if_success (with_reducible show _ ∧ _)); refine ⟨_, _, rfl, ?_⟩)
  | ((fail_if_success (with_reducible show ∃ _, _)); (fail_if_success (with_reducible show _ ∧ _)); refine ⟨_, rfl, ?_⟩)
  | fail)
local macro_rules | `(tactic| walk_at "d") => `(tactic| repeat' walk_at "d1")
local macro_rules | `(tactic| walk_at "e1") => `(tactic| first
  | ((with_reducible refine' dE_var ?dv ?_); (case dv => rfl))
  | with_reducible refine' dE_int ?_
  | with_reducible refine' dE_str ?_
  | with_reducible refine' dE_bl ?_
  | with_reducible refine' dE_non ?_
  | ((with_reducible refine' dE_nt ?dv ?_); (case dv => assumption))
  | with_reducible refine' dE_ref ?_
  | with_reducible refine' dE_op ?_
  | with_reducible refine' dE_un ?_
  | with_reducible refine' dE_cmp ?_
  | with_reducible refine' dE_isN ?_
  | with_reducible refine' dE_notN ?_
  | with_reducible refine' dE_call ?_
  | with_reducible refine' dE_cb ?_
  | with_reducible refine' dE_kw ?_
  | with_reducible refine' dE_tup ?_
  | with_reducible refine' dE_if ?_
  | with_reducible refine' dE_and ?_
  | with_reducible refine' dE_or ?_
  | with_reducible refine' dE_not ?_
  | with_reducible refine' dE_sl ?_
  | with_reducible refine' dO_none ?_
  | with_reducible refine' dO_some ?_
  | with_reducible refine' dA_cons ?_
  | with_reducible refine' dA_nil ?_
  | with_reducible refine' dT_B ?_
  | with_reducible refine' dT_test ?_
  | with_reducible refine' dT_and ?_
  | with_reducible refine' dT_or ?_
  | with_reducible refine' dT_not ?_
  | with_reducible refine' dT_yes ?_
  | with_reducible refine' dR_I0i ?_
  | with_reducible refine' dU_neg ?_
  | ((with_reducible refine' dR_ixT ?dv ?_); (case dv => rfl))
  | with_reducible refine' dS_next ?_
  | with_reducible refine' dS_ret ?_
  | with_reducible refine' dS_drop ?_
  | with_reducible refine' dS_if ?_
  | with_reducible refine' dS_asg ?_
  | with_reducible refine' dS_par ?_
  | with_reducible refine' dG_name ?_
  | ((with_reducible refine' dG_tup ?dv ?_); (case dv => rfl); (dsimp only [List.map]))
  | with_reducible refine' dGs_cons ?_
  | with_reducible refine' dGs_nil ?_
  | with_reducible refine' dC_abs ?_
  | with_reducible refine' dC_max2 ?_
  | with_reducible refine' dC_min2 ?_
  | with_reducible refine' rtOf.of ?_
  | with_reducible refine' ex_cmp ?_
  | with_reducible refine' ex_bool ?_
  | with_reducible refine' ex_int ?_
  | with_reducible refine' ex_list ?_
  | with_reducible refine' ex_tup ?_
  | with_reducible refine' ex_d ?_
  | with_reducible refine' ex_m ?_
  | with_reducible refine' ex_par ?_
  | with_reducible refine' ex_rg1 ?_
  | with_reducible refine' ex_rg2 ?_
  | ((with_reducible refine' ex_dat ?dv ?dw ?_); (case dv => rfl); (case dw => exact Nat.le_of_ble_eq_true rfl))
  | ((fail_if_success (with_reducible show ∃ _, _)); (fail_if_success (with_reducible show _ ∧ _)); refine ⟨_, _, rfl, ?_⟩)
  | ((fail_if_success (with_reducible show ∃ _, _)); (fail_if_success (with_reducible show _ ∧ _)); refine ⟨_, rfl, ?_⟩)
  | fail)
local macro_rules | `(tactic| walk_at "e") => `(tactic| repeat' walk_at "e1")

theorem atI_nat' {α : Type} {es : List α} {i : Int} (h0 : 0 ≤ i) (h1 : i < es.length) : ∃ d, atI es i = some d ∧ d ∈ es := by
  have hj : i.toNat < es.length := by omega
  refine ⟨es[i.toNat], ?_, List.getElem_mem hj⟩
  unfold atI ixN
  rw [if_pos h0, if_pos h1]
  simp [hj]
section
variable {P : Program} {w : World} {K : PySem.W.Frag} {mg : Str → Option Value} {base : Heap} {f : Addr} {fd : FuncData}
abbrev s_law_take : Stmt := topS 17
theorem sc_law_take : FnScope ["bag", "many", "found"] ["bag", "many"] (defScope s_law_take) := ⟨rfl, rfl, rfl, by decide +kernel, rfl, by decide +kernel, by decide +kernel⟩
theorem ok_law_take (F : Fun K "_law_take" "_law_take" s_law_take f fd) : FnOk P w K mg base CX0 1 f fd ["bag", "many"] (spOf K S_take) := by
  refine ok_of F sc_law_take (fun rs M P h => by obtain ⟨a, b, rfl, _⟩ := h; rfl) fun cdv A outer s H E hr => ⟨_, (pss_cons (ps_if (pt_cmp (pc_gt (pe_ix (kix_list K) (pv 0) pe_int (fun _ _ => rfl)) pe_int)) (pss_cons (ps_set (i := 2) sc_law_take.nd rfl (Or.inl rfl) (pe_op op_mod (pe_ix (kix_list K) (pv 0) pe_int (fun _ _ => rfl)) (pv 1)))
      (pss_cons (ps_asg (pe_op op_fdivW (pe_ix (kix_list K) (pv 0) pe_int (fun _ _ => rfl)) (pv 1)) (pg_sub (pv 0) pe_int set_list))
      (pss_one (ps_ret (pv 2))))) pss_nil)
      (pss_cons (ps_asg (pe_op op_mod (pe_op op_mulW (pe_ix (kix_list K) (pv 0) pe_int (fun _ _ => rfl)) pe_int) pe_int) (pg_sub (pv 0) pe_int set_list))
      (pss_one (ps_ret (pe_op op_mod (pe_op op_fdivW (pe_op op_mod (pe_op op_mulW (pe_ix (kix_list K) (pv 0) pe_int (fun _ _ => rfl)) (pe_ix (kix_list K) (pv 0) pe_int (fun _ _ => rfl))) pe_int) pe_int) (pv 1)))))), fun rs M P h => ?_⟩
  obtain ⟨b, n, rfl, h0, h1, ⟨ds, hm, x, y, rfl, hx, hy, hy2⟩, p⟩ := h
  have hd : ∀ i, CDivW i n := fun i => wide_div (b := 40) h0 (sz_lt (by omega) (by omega)) (by decide) (by decide)
  walk_at "d"
  refine dR_ixL (.inr ⟨b, rfl, hm⟩) rfl ?_
  walk_at "d"
  refine ifB (fun h => ?_) (fun h => ?_)
  · have hx0 : 0 < x := of_decide_eq_true h
    walk_at "d"
    refine dR_ixL (.inr ⟨b, rfl, hm⟩) rfl ?_
    walk_at "d"
    refine dR_Ii h0 ?_
    walk_at "d"
    refine dR_ixL (.inr ⟨b, rfl, hm⟩) rfl ?_
    walk_at "d"
    refine dR_Ii (hd x) ?_
    refine dG_sub (a := b) (j := 0) (ds := [.int x, .int y]) ?_
    walk_at "d"
    refine ⟨rfl, ?_⟩
    walk_at "d"
    refine ⟨rfl, hm, by simp, ?_⟩
    walk_at "d"
    refine p _ _ (Int.emod_nonneg _ (Int.ne_of_gt h0)) (Int.emod_lt_of_pos _ h0) ⟨_, ⟨x / n, y, rfl, Int.ediv_nonneg hx (by omega), hy, hy2⟩, rfl⟩
  · walk_at "d"
    refine dR_ixL (.inr ⟨b, rfl, hm⟩) rfl ?_
    walk_at "d"
    refine dR_Ii (Sz.mulOk (m := 100) (n := 100) (sz_lt (by omega) (by omega)) (sz_lt (by decide) (by decide)) (by decide) (by decide) (by decide)) ?_
    walk_at "d"
    refine dR_Ii (by decide) ?_
    have e1 := Int.emod_nonneg (y * 48271) (show (2147483647 : Int) ≠ 0 by decide)
    have e2 := Int.emod_lt_of_pos (y * 48271) (show (0 : Int) < 2147483647 by decide)
    generalize hz : y * 48271 % 2147483647 = z at e1 e2
    refine dG_sub (a := b) (j := 1) (ds := [.int x, .int y]) ?_
    walk_at "d"
    refine ⟨rfl, ?_⟩
    walk_at "d"
    refine ⟨rfl, hm, by simp, ?_⟩
    walk_at "d"
    refine dR_ixL (.inr ⟨b, rfl, mset_same⟩) rfl ?_
    walk_at "d"
    refine dR_ixL (.inr ⟨b, rfl, mset_same⟩) rfl ?_
    refine dR_Ii (Sz.mulOk (m := 100) (n := 100) (sz_lt (by omega) (by omega)) (sz_lt (by omega) (by omega)) (by decide) (by decide) (by decide)) ?_
    walk_at "d"
    refine dR_Ii (by decide) ?_
    walk_at "d"
    refine dR_Ii (wide_div (b := 40) (by decide) (by decide) (by decide) (by decide)) ?_
    walk_at "d"
    refine dR_Ii h0 ?_
    walk_at "d"
    exact p _ _ (Int.emod_nonneg _ (Int.ne_of_gt h0)) (Int.emod_lt_of_pos _ h0) ⟨_, ⟨x, z, rfl, hx, e1, by omega⟩, rfl⟩
abbrev s_law_of : Stmt := topS 18
theorem sc_law_of : FnScope ["bag", "some"] ["bag", "some"] (defScope s_law_of) := ⟨rfl, rfl, rfl, by decide +kernel, rfl, by decide +kernel, by decide +kernel⟩
theorem ok_law_of (T : Txt mg) (F : Fun K "_law_of" "_law_of" s_law_of f fd) (c_law_take : Has P w K mg base 1 "_law_take" ["bag", "many"] S_take) : FnOk P w K mg base CX0 2 f fd ["bag", "some"] (spOf K S_of) := by
  refine ok_of F sc_law_of (fun rs M P h => by obtain ⟨a, b, c, rfl, _⟩ := h; rfl) fun cdv A outer s H E hr => ⟨_, (pss_one (ps_ret (pe_ix (kix_list K) (pv 1) (pe_callH' c_law_take (hr.mono (by first | decide | omega)) rfl (pa_cons (pv 0) (pa_cons (pe_callB (kcall_len K) (by rfl) T.len (by decide +kernel) (pa_cons (pv 1) pa_nil)) pa_nil))) (fun _ _ => rfl)))), fun rs M P h => ?_⟩
  obtain ⟨b, sv, es, rfl, hs, hne, h0, h1, hb, p⟩ := h
  have hlen : 0 < es.length := List.length_pos_iff.mpr h0
  walk_at "d"
  refine dC_len (ds := es) (by rcases hs with rfl | ⟨a, rfl, hm⟩; exact .inl rfl; exact .inr (.inr ⟨a, rfl, hm⟩)) ?_
  walk_at "d"
  refine ⟨by omega, by omega, hb, fun i M' i0 i1 hB => ?_⟩
  obtain ⟨d, hd, hdm⟩ := atI_nat' (es := es) i0 i1
  refine dR_ixL (ds := es) ?_ hd (rtOf.of (p d M' hdm hB))
  rcases hs with rfl | ⟨a, rfl, hm⟩
  · exact .inl rfl
  · refine .inr ⟨a, rfl, ?_⟩
    rw [hB.ne (fun e => hne (by rw [e]))]
    exact hm
abbrev s_law_lowest : Stmt := topS 24
theorem sc_law_lowest : FnScope ["top", "bottom", "one", "other"] ["top", "bottom"] (defScope s_law_lowest) := ⟨rfl, rfl, rfl, by decide +kernel, rfl, by decide +kernel, by decide +kernel⟩
theorem ok_law_lowest (T : Txt mg) (F : Fun K "_law_lowest" "_law_lowest" s_law_lowest f fd) : FnOk P w K mg base CX0 1 f fd ["top", "bottom"] (spOf K S_lowest) := by
  refine ok_of F sc_law_lowest (fun rs M P h => by obtain ⟨a, b, rfl, _⟩ := h; rfl) fun cdv A outer s H E hr => ⟨_, (pss_cons (ps_par (i := 2) (j := 3) (by rfl) sc_law_lowest.nd rfl rfl (by decide) rfl rfl (pa_cons (pe_callB call_abs (by rfl) T.abs (by decide +kernel) (pa_cons (pv 0) pa_nil)) (pa_cons (pv 1) pa_nil)) (by rfl))
      (pss_cons (ps_while PassesOwn.never (pt_cmp (pc_gt (pv 3) pe_int)) (pss_one (ps_par (i := 2) (j := 3) (by rfl) sc_law_lowest.nd rfl rfl (by decide) rfl rfl (pa_cons (pv 3) (pa_cons (pe_op op_mod (pv 2) (pv 3)) pa_nil)) (by rfl))))
      (pss_one (ps_ret (pe_tup (pa_cons (pe_op op_fdivW (pv 0) (pv 2)) (pa_cons (pe_op op_fdivW (pv 1) (pv 2)) pa_nil))))))), fun rs M P h => ?_⟩
  obtain ⟨t, b, rfl, ht, hb, hz, p⟩ := h
  have hg := gcd_pos (t := t) hb
  have hl := gcd_le (t := t) hb
  have hd : ∀ i, CDivW i (Int.gcd t b : Int) := fun i => wide_div hg (wide_le (by omega) hl hz) (by decide) (by decide)
  walk_at "d"
  rw [show (if t < 0 then -t else t) = t by split <;> omega]
  refine dS_while (fun m δ M' => ∃ a' b' : Int, δ = [some (.d (.int t)), some (.d (.int b)), some (.d (.int a')), some (.d (.int b'))] ∧ M' = M ∧ 0 ≤ a' ∧ 0 ≤ b' ∧ Int.gcd a' b' = Int.gcd t b ∧ m = b'.toNat) b.toNat ⟨t, b, rfl, rfl, ht, by omega, rfl, rfl⟩ ?_
  rintro m δ M' ⟨a', b', rfl, rfl, ha', hb', hg', rfl⟩
  walk_at "d"
  refine ifB (fun h => ?_) (fun h => ?_)
  · have h0 : 0 < b' := of_decide_eq_true h
    walk_at "d"
    refine dR_Ii h0 ?_
    walk_at "d"
    exact ⟨(a' % b').toNat, by have := Int.emod_lt_of_pos a' h0; have := Int.emod_nonneg a' (Int.ne_of_gt h0); omega, b', a' % b', rfl, rfl, hb', Int.emod_nonneg _ (Int.ne_of_gt h0), by rw [gcd_step ha' h0, hg'], rfl⟩
  · have h0 : b' = 0 := by have := of_decide_eq_false h; omega
    subst h0
    rw [Int.gcd_zero_right] at hg'
    have ea : a' = (Int.gcd t b : Int) := by omega
    subst ea
    walk_at "d"
    refine dR_Ii (hd t) ?_
    walk_at "d"
    refine dR_Ii (hd b) ?_
    walk_at "d"
    exact p
end
end K2

namespace K2
open PySem L2 Sd Ma
local macro_rules | `(tactic| walk_at "d1") => `(tactic| first
  | ((with_reducible refine' dE_var ?dv ?_); (case dv => rfl))
  | with_reducible refine' dE_int ?_
  | with_reducible refine' dE_str ?_
  | with_reducible refine' dE_bl ?_
  | with_reducible refine' dE_non ?_
  | ((with_reducible refine' dE_nt ?dv ?_); (case dv => assumption))
  | with_reducible refine' dE_ref ?_
  | with_reducible refine' dE_op ?_
  | with_reducible refine' dE_un ?_
  | with_reducible refine' dE_cmp ?_
  | with_reducible refine' dE_isN ?_
  | with_reducible refine' dE_notN ?_
  | with_reducible refine' dE_call ?_
  | with_reducible refine' dE_cb ?_
  | with_reducible refine' dE_kw ?_
  | with_reducible refine' dE_tup ?_
  | with_reducible refine' dE_if ?_
  | with_reducible refine' dE_and ?_
  | with_reducible refine' dE_or ?_
  | with_reducible refine' dE_not ?_
  | with_reducible refine' dE_sl ?_
  | with_reducible refine' dO_none ?_
  | with_reducible refine' dO_some ?_
  | with_reducible refine' dA_cons ?_
  | with_reducible refine' dA_nil ?_
  | with_reducible refine' dT_B ?_
  | with_reducible refine' dT_test ?_
  | with_reducible refine' dT_and ?_
  | with_reducible refine' dT_or ?_
  | with_reducible refine' dT_not ?_
  | with_reducible refine' dT_yes ?_
  | with_reducible refine' dR_I0i ?_
  | with_reducible refine' dU_neg ?_
  | ((with_reducible refine' dR_ixT ?dv ?_); (case dv => rfl))
  | with_reducible refine' dS_seq ?_
  | with_reducible refine' dS_next ?_
  | with_reducible refine' dS_ret ?_
  | with_reducible refine' dS_drop ?_
  | with_reducible refine' dS_if ?_
  | with_reducible refine' dS_asg ?_
  | with_reducible refine' dS_par ?_
  | with_reducible refine' dG_name ?_
  | ((with_reducible refine' dG_tup ?dv ?_); (case dv => rfl); (dsimp only [List.map]))
  | with_reducible refine' dGs_cons ?_
  | with_reducible refine' dGs_nil ?_
  | with_reducible refine' dC_abs ?_
  | with_reducible refine' dC_max2 ?_
  | with_reducible refine' dC_min2 ?_
  | with_reducible refine' rtOf.of ?_
  | with_reducible refine' ex_cmp ?_
  | with_reducible refine' ex_bool ?_
  | with_reducible refine' ex_int ?_
  | with_reducible refine' ex_list ?_
  | with_reducible refine' ex_tup ?_
  | with_reducible refine' ex_d ?_
  | with_reducible refine' ex_m ?_
  | with_reducible refine' ex_par ?_
  | with_reducible refine' ex_rg1 ?_
  | with_reducible refine' ex_rg2 ?_
  | ((with_reducible refine' ex_dat ?dv ?dw ?_); (case dv => rfl); (case dw => exact Nat.le_of_ble_eq_true rfl))
  | ((fail_if_success (with_reducible show ∃ _, _)); (fail_if_success (with_reducible show _ ∧ _)); refine ⟨_, _, rfl, ?_⟩)
  | ((fail_if_success (with_reducible show ∃ _, _)); (fail_if_success (with_reducible show _ ∧ _)); refine ⟨_, rfl, ?_⟩)
  | fail)
local macro_rules | `(tactic| walk_at "d") => `(tactic| repeat' walk_at "d1")
local macro_rules | `(tactic| walk_at "e1") => `(tactic| first
  | ((with_reducible refine' dE_var ?dv ?_); (case dv => rfl))
  | with_reducible refine' dE_int ?_
  | with_reducible refine' dE_str ?_
  | with_reducible refine' dE_bl ?_
  | with_reducible refine' dE_non ?_
  | ((with_reducible refine' dE_nt ?dv ?_); (case dv => assumption))
  | with_reducible refine' dE_ref ?_
  | with_reducible refine' dE_op ?_
  | with_reducible refine' dE_un ?_
  | with_reducible refine' dE_cmp ?_
  | with_reducible refine' dE_isN ?_
  | with_reducible refine' dE_notN ?_
  | with_reducible refine' dE_call ?_
  | with_reducible refine' dE_cb ?_
  | with_reducible refine' dE_kw ?_
  | with_reducible refine' dE_tup ?_
  | with_reducible refine' dE_if ?_
  | with_reducible refine' dE_and ?_
  | with_reducible refine' dE_or ?_
  | with_reducible refine' dE_not ?_
  | with_reducible refine' dE_sl ?_
  | with_reducible refine' dO_none ?_
  | with_reducible refine' dO_some ?_
  | with_reducible refine' dA_cons ?_
  | with_reducible refine' dA_nil ?_
  | with_reducible refine' dT_B ?_
  | with_reducible refine' dT_test ?_
  | with_reducible refine' dT_and ?_
  | with_reducible refine' dT_or ?_
  | with_reducible refine' dT_not ?_
  | with_reducible refine' dT_yes ?_
  | with_reducible refine' dR_I0i ?_
  | with_reducible refine' dU_neg ?_
  | ((with_reducible refine' dR_ixT ?dv ?_); (case dv => rfl))
  | with_reducible refine' dS_next ?_
  | with_reducible refine' dS_ret ?_
  | with_reducible refine' dS_drop ?_
  | with_reducible refine' dS_if ?_
  | with_reducible refine' dS_asg ?_
  | with_reducible refine' dS_par ?_
  | with_reducible refine' dG_name ?_
  | ((with_reducible refine' dG_tup ?dv ?_); (case dv => rfl); (dsimp only [List.map]))
  | with_reducible refine' dGs_cons ?_
  | with_reducible refine' dGs_nil ?_
  | with_reducible refine' dC_abs ?_
  | with_reducible refine' dC_max2 ?_
  | with_reducible refine' dC_min2 ?_
  | with_reducible refine' rtOf.of ?_
  | with_reducible refine' ex_cmp ?_
  | with_reducible refine' ex_bool ?_
  | with_reducible refine' ex_int ?_
  | with_reducible refine' ex_list ?_
  | with_reducible refine' ex_tup ?_
  | with_reducible refine' ex_d ?_
  | with_reducible refine' ex_m ?_
  | with_reducible refine' ex_par ?_
  | with_reducible refine' ex_rg1 ?_
  | with_reducible refine' ex_rg2 ?_
  | ((with_reducible refine' ex_dat ?dv ?dw ?_); (case dv => rfl); (case dw => exact Nat.le_of_ble_eq_true rfl))
  | ((fail_if_success (with_reducible show ∃ _, _)); (fail_if_success (with_reducible show _ ∧ _)); refine ⟨_, _, rfl, ?_⟩)
  | ((fail_if_success (with_reducible show ∃ _, _)); (fail_if_success (with_reducible show _ ∧ _)); refine ⟨_, rfl, ?_⟩)
  | fail)
local macro_rules | `(tactic| walk_at "e") => `(tactic| repeat' walk_at "e1")

theorem pickI {ns : List Int} {i : Int} (h0 : 0 ≤ i) (h1 : i < ns.length) : ∃ n, atI (ns.map PyData.int) i = some (.int n) ∧ n ∈ ns := by
  obtain ⟨d, hd, hm⟩ := atI_nat' (es := ns.map PyData.int) h0 (by rw [List.length_map]; exact h1)
  obtain ⟨n, hn, rfl⟩ := List.mem_map.mp hm
  exact ⟨n, hd, hn⟩
structure _root_.Ma.Rope.Fine (r : Rope) : Prop where
  a0 : 0 ≤ r.a
  a1 : r.a ≤ 1000
  b0 : 1 ≤ r.b
  b1 : r.b ≤ 100
  c0 : 1 ≤ r.c
  c1 : r.c ≤ 1000000
theorem fine_ok {r : Rope} (h : r.Fine) : r.Ok := ⟨h.a0, sz_lt h.a0 (by have := h.a1; omega), by have := h.b0; omega, sz_lt (by have := h.b0; omega) (by have := h.b1; omega), by have := h.c0; omega, sz_lt (by have := h.c0; omega) (by have := h.c1; omega)⟩
def names6 : List Str := ["ann", "bo", "cy", "dee", "eli", "fay"]
/-- a bundle as the law draws it -/
structure Bun (ro : List Rope) : Prop where
  ne : ro ≠ []
  len : ro.length ≤ 6
  nam : ro.map Rope.n = names6.take ro.length
  fine : ∀ r ∈ ro, r.Fine
theorem Bun.ok {ro : List Rope} (h : Bun ro) : BOk ro := ⟨by have := h.len; omega, fun r hr => fine_ok (h.fine r hr)⟩
section
variable {P : Program} {w : World} {K : PySem.W.Frag} {mg : Str → Option Value} {base : Heap} {f : Addr} {fd : FuncData}
def S_rope : SpD := fun rs M P => ∃ (b : Addr) (x : Str), rs = [.m b, .d (.str x)] ∧ BI M b ∧ ∀ (r : Rope) M', r.n = x → r.Fine → BS M b M' → P (.d r.d) M'
def S_bundle : SpD := fun rs M P => ∃ (b : Addr) (n : Int), rs = [.m b, .d (.int n)] ∧ 1 ≤ n ∧ n ≤ 6 ∧ BI M b ∧ ∀ ro M', Bun ro → BS M b M' → P (.d (bd ro)) M'
def S_load : SpD := fun rs M P => ∃ (b : Addr), rs = [.m b] ∧ BI M b ∧ ∀ (q : Q) M', Red q → q.1 ≤ 3000000 → q.2 ≤ 6 → BS M b M' → P (.d (fr q)) M'
abbrev s_law_rope : Stmt := topS 25
theorem sc_law_rope : FnScope ["bag", "name", "slack", "stiff"] ["bag", "name"] (defScope s_law_rope) := ⟨rfl, rfl, rfl, by decide +kernel, rfl, by decide +kernel, by decide +kernel⟩
theorem ok_law_rope (F : Fun K "_law_rope" "_law_rope" s_law_rope f fd) (c_law_take : Has P w K mg base 1 "_law_take" ["bag", "many"] S_take) : FnOk P w K mg base CX0 2 f fd ["bag", "name"] (spOf K S_rope) := by
  refine ok_of F sc_law_rope (fun rs M P h => by obtain ⟨a, b, rfl, _⟩ := h; rfl) fun cdv A outer s H E hr => ⟨_, (pss_cons (ps_set (i := 2) sc_law_rope.nd rfl (Or.inl rfl) (pe_callH' c_law_take (hr.mono (by first | decide | omega)) rfl (pa_cons (pv 0) (pa_cons (pe_ix (kix_list K) (pe_lst (pa_cons pe_int (pa_cons pe_int (pa_cons pe_int pa_nil)))) (pe_callH' c_law_take (hr.mono (by first | decide | omega)) rfl (pa_cons (pv 0) (pa_cons pe_int pa_nil))) (fun _ _ => rfl)) pa_nil))))
      (pss_cons (ps_set (i := 3) sc_law_rope.nd rfl (Or.inl rfl) (pe_op op_add pe_int (pe_callH' c_law_take (hr.mono (by first | decide | omega)) rfl (pa_cons (pv 0) (pa_cons (pe_ix (kix_list K) (pe_lst (pa_cons pe_int (pa_cons pe_int (pa_cons pe_int pa_nil)))) (pe_callH' c_law_take (hr.mono (by first | decide | omega)) rfl (pa_cons (pv 0) (pa_cons pe_int pa_nil))) (fun _ _ => rfl)) pa_nil)))))
      (pss_one (ps_ret (pe_tup (pa_cons (pv 1) (pa_cons (pv 2) (pa_cons (pv 3) (pa_cons (pe_op op_add pe_int (pe_callH' c_law_take (hr.mono (by first | decide | omega)) rfl (pa_cons (pv 0) (pa_cons (pe_ix (kix_list K) (pe_lst (pa_cons pe_int (pa_cons pe_int (pa_cons pe_int pa_nil)))) (pe_callH' c_law_take (hr.mono (by first | decide | omega)) rfl (pa_cons (pv 0) (pa_cons pe_int pa_nil))) (fun _ _ => rfl)) pa_nil)))) pa_nil))))))))), fun rs M P h => ?_⟩
  obtain ⟨b, x, rfl, hb, p⟩ := h
  walk_at "d"
  refine dE_lst ?_
  walk_at "d"
  refine ⟨by decide, by decide, hb, fun i M1 i0 i1 B1 => ?_⟩
  obtain ⟨n1, hn1, hm1⟩ := pickI (ns := [3, 30, 1001]) i0 i1
  refine dR_ixL (.inl rfl) hn1 ?_
  have hn1' : 1 ≤ n1 ∧ n1 ≤ 1001 := by simp at hm1; omega
  walk_at "d"
  refine ⟨by omega, by omega, B1.bi, fun i2 M2 i20 i21 B2 => ?_⟩
  walk_at "d"
  refine dE_lst ?_
  walk_at "d"
  refine ⟨by decide, by decide, B2.bi, fun i3 M3 i30 i31 B3 => ?_⟩
  obtain ⟨n3, hn3, hm3⟩ := pickI (ns := [3, 10, 100]) i30 i31
  refine dR_ixL (.inl rfl) hn3 ?_
  have hn3' : 1 ≤ n3 ∧ n3 ≤ 100 := by simp at hm3; omega
  walk_at "d"
  refine ⟨by omega, by omega, B3.bi, fun i4 M4 i40 i41 B4 => ?_⟩
  walk_at "d"
  refine dE_lst ?_
  walk_at "d"
  refine ⟨by decide, by decide, B4.bi, fun i5 M5 i50 i51 B5 => ?_⟩
  obtain ⟨n5, hn5, hm5⟩ := pickI (ns := [12, 200, 1000000]) i50 i51
  refine dR_ixL (.inl rfl) hn5 ?_
  have hn5' : 1 ≤ n5 ∧ n5 ≤ 1000000 := by simp at hm5; omega
  walk_at "d"
  refine ⟨by omega, by omega, B5.bi, fun i6 M6 i60 i61 B6 => ?_⟩
  walk_at "d"
  exact p ⟨x, i2, 1 + i4, 1 + i6⟩ M6 rfl ⟨i20, by show i2 ≤ 1000; omega, by show 1 ≤ 1 + i4; omega, by show 1 + i4 ≤ 100; omega, by show 1 ≤ 1 + i6; omega, by show 1 + i6 ≤ 1000000; omega⟩ (((((B1.trans B2).trans B3).trans B4).trans B5).trans B6)
abbrev s_law_load : Stmt := topS 27
theorem sc_law_load : FnScope ["bag", "wide"] ["bag"] (defScope s_law_load) := ⟨rfl, rfl, rfl, by decide +kernel, rfl, by decide +kernel, by decide +kernel⟩
theorem ok_law_load (F : Fun K "_law_load" "_law_load" s_law_load f fd) (c_law_take : Has P w K mg base 1 "_law_take" ["bag", "many"] S_take) (c_law_lowest : Has P w K mg base 1 "_law_lowest" ["top", "bottom"] S_lowest) : FnOk P w K mg base CX0 2 f fd ["bag"] (spOf K S_load) := by
  refine ok_of F sc_law_load (fun rs M P h => by obtain ⟨a, rfl, _⟩ := h; rfl) fun cdv A outer s H E hr => ⟨_, (pss_cons (ps_set (i := 1) sc_law_load.nd rfl (Or.inl rfl) (pe_ix (kix_list K) (pe_lst (pa_cons pe_int (pa_cons pe_int (pa_cons pe_int (pa_cons pe_int pa_nil))))) (pe_callH' c_law_take (hr.mono (by first | decide | omega)) rfl (pa_cons (pv 0) (pa_cons pe_int pa_nil))) (fun _ _ => rfl)))
      (pss_one (ps_ret (pe_callH' c_law_lowest (hr.mono (by first | decide | omega)) rfl (pa_cons (pe_callH' c_law_take (hr.mono (by first | decide | omega)) rfl (pa_cons (pv 0) (pa_cons (pv 1) pa_nil))) (pa_cons (pe_op op_add pe_int (pe_callH' c_law_take (hr.mono (by first | decide | omega)) rfl (pa_cons (pv 0) (pa_cons (pe_ix (kix_list K) (pe_lst (pa_cons pe_int (pa_cons pe_int pa_nil))) (pe_callH' c_law_take (hr.mono (by first | decide | omega)) rfl (pa_cons (pv 0) (pa_cons pe_int pa_nil))) (fun _ _ => rfl)) pa_nil)))) pa_nil)))))), fun rs M P h => ?_⟩
  obtain ⟨b, rfl, hb, p⟩ := h
  walk_at "d"
  refine dE_lst ?_
  walk_at "d"
  refine ⟨by decide, by decide, hb, fun i M1 i0 i1 B1 => ?_⟩
  obtain ⟨n1, hn1, hm1⟩ := pickI (ns := [1, 30, 1000, 3000000]) i0 i1
  refine dR_ixL (.inl rfl) hn1 ?_
  have hn1' : 1 ≤ n1 ∧ n1 ≤ 3000000 := by simp at hm1; omega
  walk_at "d"
  refine ⟨by omega, by omega, B1.bi, fun i2 M2 i20 i21 B2 => ?_⟩
  walk_at "d"
  refine dE_lst ?_
  walk_at "d"
  refine ⟨by decide, by decide, B2.bi, fun i3 M3 i30 i31 B3 => ?_⟩
  obtain ⟨n3, hn3, hm3⟩ := pickI (ns := [1, 6]) i30 i31
  refine dR_ixL (.inl rfl) hn3 ?_
  have hn3' : 1 ≤ n3 ∧ n3 ≤ 6 := by simp at hm3; omega
  walk_at "d"
  refine ⟨by omega, by omega, B3.bi, fun i4 M4 i40 i41 B4 => ?_⟩
  walk_at "d"
  have hb4 : 0 < 1 + i4 := by omega
  refine ⟨i20, hb4, sz_lt (n := 8000) (by omega) ?_, ?_⟩
  · exact Int.lt_of_le_of_lt (show 1 + i4 ≤ 6 by omega) (Int.lt_of_lt_of_le (show (6 : Int) < 2 ^ 3 by decide) (by
      have := Nat.pow_le_pow_right (show 0 < 2 by decide) (show 3 ≤ 8000 by decide)
      have e1 : ((2 ^ 8000 : Nat) : Int) = (2 : Int) ^ 8000 := by simp
      have e2 : ((2 ^ 3 : Nat) : Int) = (2 : Int) ^ 3 := by simp
      omega))
  · have hl := low_le i20 hb4
    exact rtOf.of (p _ M4 (low_red i20 hb4) (by omega) (by omega) (((B1.trans B2).trans B3).trans B4))
end
end K2

namespace K2
open PySem L2 Sd Ma
local macro_rules | `(tactic| walk_at "d1") => `(tactic| first
  | ((with_reducible refine' dE_var ?dv ?_); (case dv => rfl))
  | with_reducible refine' dE_int ?_
  | with_reducible refine' dE_str ?_
  | with_reducible refine' dE_bl ?_
  | with_reducible refine' dE_non ?_
  | ((with_reducible refine' dE_nt ?dv ?_); (case dv => assumption))
  | with_reducible refine' dE_ref ?_
  | with_reducible refine' dE_op ?_
  | with_reducible refine' dE_un ?_
  | with_reducible refine' dE_cmp ?_
  | with_reducible refine' dE_isN ?_
  | with_reducible refine' dE_notN ?_
  | with_reducible refine' dE_call ?_
  | with_reducible refine' dE_cb ?_
  | with_reducible refine' dE_kw ?_
  | with_reducible refine' dE_tup ?_
  | with_reducible refine' dE_if ?_
  | with_reducible refine' dE_and ?_
  | with_reducible refine' dE_or ?_
  | with_reducible refine' dE_not ?_
  | with_reducible refine' dE_sl ?_
  | with_reducible refine' dO_none ?_
  | with_reducible refine' dO_some ?_
  | with_reducible refine' dA_cons ?_
  | with_reducible refine' dA_nil ?_
  | with_reducible refine' dT_B ?_
  | with_reducible refine' dT_test ?_
  | with_reducible refine' dT_and ?_
  | with_reducible refine' dT_or ?_
  | with_reducible refine' dT_not ?_
  | with_reducible refine' dT_yes ?_
  | with_reducible refine' dR_I0i ?_
  | with_reducible refine' dU_neg ?_
  | ((with_reducible refine' dR_ixT ?dv ?_); (case dv => rfl))
  | with_reducible refine' dS_seq ?_
  | with_reducible refine' dS_next ?_
  | with_reducible refine' dS_ret ?_
  | with_reducible refine' dS_drop ?_
  | with_reducible refine' dS_if ?_
  | with_reducible refine' dS_asg ?_
  | with_reducible refine' dS_par ?_
  | with_reducible refine' dG_name ?_
  | ((with_reducible refine' dG_tup ?dv ?_); (case dv => rfl); (dsimp only [List.map]))
  | with_reducible refine' dGs_cons ?_
  | with_reducible refine' dGs_nil ?_
  | with_reducible refine' dC_abs ?_
  | with_reducible refine' dC_max2 ?_
  | with_reducible refine' dC_min2 ?_
  | with_reducible refine' rtOf.of ?_
  | with_reducible refine' ex_cmp ?_
  | with_reducible refine' ex_bool ?_
  | with_reducible refine' ex_int ?_
  | with_reducible refine' ex_list ?_
  | with_reducible refine' ex_tup ?_
  | with_reducible refine' ex_d ?_
  | with_reducible refine' ex_m ?_
  | with_reducible refine' ex_par ?_
  | with_reducible refine' ex_rg1 ?_
  | with_reducible refine' ex_rg2 ?_
  | ((with_reducible refine' ex_dat ?dv ?dw ?_); (case dv => rfl); (case dw => exact Nat.le_of_ble_eq_true rfl))
  | ((fail_if_success (with_reducible show ∃ _, _)); (fail_if_success (with_reducible show _ ∧ _)); refine ⟨_, _, rfl, ?_⟩)
  | ((fail_if_success (with_reducible show ∃ _, _)); (fail_if_success (with_reducible show _ ∧ _)); refine ⟨_, rfl, ?_⟩)
  | fail)
local macro_rules | `(tactic| walk_at "d") => `(tactic| repeat' walk_at "d1")
local macro_rules | `(tactic| walk_at "e1") => `(tactic| first
  | ((with_reducible refine' dE_var ?dv ?_); (case dv => rfl))
  | with_reducible refine' dE_int ?_
  | with_reducible refine' dE_str ?_
  | with_reducible refine' dE_bl ?_
  | with_reducible refine' dE_non ?_
  | ((with_reducible refine' dE_nt ?dv ?_); (case dv => assumption))
  | with_reducible refine' dE_ref ?_
  | with_reducible refine' dE_op ?_
  | with_reducible refine' dE_un ?_
  | with_reducible refine' dE_cmp ?_
  | with_reducible refine' dE_isN ?_
  | with_reducible refine' dE_notN ?_
  | with_reducible refine' dE_call ?_
  | with_reducible refine' dE_cb ?_
  | with_reducible refine' dE_kw ?_
  | with_reducible refine' dE_tup ?_
  | with_reducible refine' dE_if ?_
  | with_reducible refine' dE_and ?_
  | with_reducible refine' dE_or ?_
  | with_reducible refine' dE_not ?_
  | with_reducible refine' dE_sl ?_
  | with_reducible refine' dO_none ?_
  | with_reducible refine' dO_some ?_
  | with_reducible refine' dA_cons ?_
  | with_reducible refine' dA_nil ?_
  | with_reducible refine' dT_B ?_
  | with_reducible refine' dT_test ?_
  | with_reducible refine' dT_and ?_
  | with_reducible refine' dT_or ?_
  | with_reducible refine' dT_not ?_
  | with_reducible refine' dT_yes ?_
  | with_reducible refine' dR_I0i ?_
  | with_reducible refine' dU_neg ?_
  | ((with_reducible refine' dR_ixT ?dv ?_); (case dv => rfl))
  | with_reducible refine' dS_next ?_
  | with_reducible refine' dS_ret ?_
  | with_reducible refine' dS_drop ?_
  | with_reducible refine' dS_if ?_
  | with_reducible refine' dS_asg ?_
  | with_reducible refine' dS_par ?_
  | with_reducible refine' dG_name ?_
  | ((with_reducible refine' dG_tup ?dv ?_); (case dv => rfl); (dsimp only [List.map]))
  | with_reducible refine' dGs_cons ?_
  | with_reducible refine' dGs_nil ?_
  | with_reducible refine' dC_abs ?_
  | with_reducible refine' dC_max2 ?_
  | with_reducible refine' dC_min2 ?_
  | with_reducible refine' rtOf.of ?_
  | with_reducible refine' ex_cmp ?_
  | with_reducible refine' ex_bool ?_
  | with_reducible refine' ex_int ?_
  | with_reducible refine' ex_list ?_
  | with_reducible refine' ex_tup ?_
  | with_reducible refine' ex_d ?_
  | with_reducible refine' ex_m ?_
  | with_reducible refine' ex_par ?_
  | with_reducible refine' ex_rg1 ?_
  | with_reducible refine' ex_rg2 ?_
  | ((with_reducible refine' ex_dat ?dv ?dw ?_); (case dv => rfl); (case dw => exact Nat.le_of_ble_eq_true rfl))
  | ((fail_if_success (with_reducible show ∃ _, _)); (fail_if_success (with_reducible show _ ∧ _)); refine ⟨_, _, rfl, ?_⟩)
  | ((fail_if_success (with_reducible show ∃ _, _)); (fail_if_success (with_reducible show _ ∧ _)); refine ⟨_, rfl, ?_⟩)
  | fail)
local macro_rules | `(tactic| walk_at "e") => `(tactic| repeat' walk_at "e1")

theorem mset_comm {M : Mem} {a b : Addr} {x y : List PyData} (h : a ≠ b) : mset (mset M a x) b y = mset (mset M b y) a x := by
  funext c
  unfold mset
  by_cases h1 : c = a
  · subst h1; rw [if_neg h, if_pos rfl, if_pos rfl]
  · rw [if_neg h1, if_neg h1]
theorem BS.under {M M' : Mem} {a b : Addr} {x : List PyData} (h : a ≠ b) (k : BS (mset M a x) b M') : ∃ M1, BS M b M1 ∧ M' = mset M1 a x := by
  obtain ⟨ds, h1, rfl⟩ := k
  exact ⟨_, ⟨ds, h1, rfl⟩, mset_comm h⟩
theorem BI.under {M : Mem} {a b : Addr} {x : List PyData} (h : a ≠ b) (k : BI M b) : BI (mset M a x) b := by
  obtain ⟨ds, h1, h2⟩ := k
  exact ⟨ds, by rw [mset_ne (Ne.symm h)]; exact h1, h2⟩
theorem BI.ne {M : Mem} {a b : Addr} (h : M a = none) (k : BI M b) : a ≠ b := by
  rintro rfl
  obtain ⟨ds, h1, _⟩ := k
  rw [h] at h1; cases h1
theorem cutD_take {ds : List PyData} {k : Int} (h : 0 ≤ k) : cutD ds none (some k) = ds.take k.toNat := by
  unfold cutD
  show (ds.drop 0).take ((if k < 0 then (k + (ds.length : Int)).toNat else min k.toNat ds.length) - 0) = ds.take k.toNat
  rw [if_neg (by omega), List.drop_zero, Nat.sub_zero]
  by_cases hk : k.toNat ≤ ds.length
  · rw [Nat.min_eq_left hk]
  · rw [Nat.min_eq_right (by omega), List.take_of_length_le (Nat.le_refl _), List.take_of_length_le (by omega)]
theorem names6_lay : ∀ z ∈ names6, PyData.canLay0 (.str z) = true := by
  intro z hz
  simp only [names6, List.mem_cons, List.not_mem_nil, or_false] at hz
  rcases hz with rfl | rfl | rfl | rfl | rfl | rfl <;> decide +kernel
section
variable {P : Program} {w : World} {K : PySem.W.Frag} {mg : Str → Option Value} {base : Heap} {f : Addr} {fd : FuncData}
abbrev s_law_bundle : Stmt := topS 26
theorem sc_law_bundle : FnScope ["bag", "most", "found", "name", "rope"] ["bag", "most"] (defScope s_law_bundle) := ⟨rfl, rfl, rfl, by decide +kernel, rfl, by decide +kernel, by decide +kernel⟩
theorem ok_law_bundle (T : Txt mg) (F : Fun K "_law_bundle" "_law_bundle" s_law_bundle f fd) (c_law_take : Has P w K mg base 1 "_law_take" ["bag", "many"] S_take) (c_law_of : Has P w K mg base 2 "_law_of" ["bag", "some"] S_of) (c_law_rope : Has P w K mg base 2 "_law_rope" ["bag", "name"] S_rope) : FnOk P w K mg base CX0 3 f fd ["bag", "most"] (spOf K S_bundle) := by
  refine ok_of F sc_law_bundle (fun rs M P h => by obtain ⟨a, b, rfl, _⟩ := h; rfl) fun cdv A outer s H E hr => ⟨_, (pss_cons (ps_set (i := 2) sc_law_bundle.nd rfl (Or.inl rfl) (pe_lst pa_nil))
      (pss_cons (ps_for PassesOwn.never rfl (kpi_list K (pe_slice (ksl_list K) (pe_lst (pa_cons pe_str (pa_cons pe_str (pa_cons pe_str (pa_cons pe_str (pa_cons pe_str (pa_cons pe_str pa_nil))))))) po_none (po_some (pe_op op_add pe_int (pe_callH' c_law_take (hr.mono (by first | decide | omega)) rfl (pa_cons (pv 0) (pa_cons (pv 1) pa_nil))))))) (pg_name (i := 3) sc_law_bundle.nd rfl (Or.inl rfl)) (pss_cons (ps_set (i := 4) sc_law_bundle.nd rfl (Or.inl rfl) (pe_callH' c_law_rope (hr.mono (by first | decide | omega)) rfl (pa_cons (pv 0) (pa_cons (pv 3) pa_nil))))
      (pss_cons (ps_if (PW.pt (pw_and (pt_cmpR (kop_neD K hr.units) (pv 2) (pe_lst pa_nil) (nomark _)) (pw_and1 (pt_cmp (pc_eqI (pe_callH' c_law_take (hr.mono (by first | decide | omega)) rfl (pa_cons (pv 0) (pa_cons pe_int pa_nil))) pe_int))))) (pss_one (ps_set (i := 4) sc_law_bundle.nd rfl (Or.inl rfl) (pe_op (kop_catT K) (pe_tup (pa_cons (pv 3) pa_nil)) (pe_slice (ksl_tup K) (pe_callH' c_law_of (hr.mono (by first | decide | omega)) rfl (pa_cons (pv 0) (pa_cons (pv 2) pa_nil))) (po_some pe_int) po_none)))) pss_nil)
      (pss_one (ps_expr (kpe_bm K (pe_bm PySem.F.plainAttrs_list PySem.F.slot_list_append PySem.F.type_list_append mt_append (pv 2) (pa_cons (pv 4) pa_nil))))))))
      (pss_one (ps_ret (pe_callTy (kcall_tuple K) (by rfl) T.tuple (by decide +kernel) (pa_cons (pv 2) pa_nil)))))), fun rs M P h => ?_⟩
  obtain ⟨b, n, rfl, n0, n1, hb, p⟩ := h
  walk_at "d"
  refine dE_lstM ?_
  walk_at "d"
  intro a ha
  have hab : a ≠ b := BI.ne ha hb
  walk_at "d"
  refine dS_forL ?_
  walk_at "d"
  refine dE_lst ?_
  walk_at "d"
  refine ⟨by omega, by omega, hb.under hab, fun i M1 i0 i1 B1 => ?_⟩
  obtain ⟨Ma, Ba, rfl⟩ := B1.under hab
  walk_at "d"
  refine dU_slL (.inl rfl) ?_
  rw [cutD_take (by omega)]
  have hk : (1 + i).toNat ≤ 6 := by omega
  have hk0 : 1 ≤ (1 + i).toNat := by omega
  generalize (1 + i).toNat = k at hk hk0
  have e6 : ([.str "ann", .str "bo", .str "cy", .str "dee", .str "eli", .str "fay"] : List PyData).take k = (names6.take k).map PyData.str := by rw [List.map_take]; rfl
  rw [e6]
  refine ⟨_, rfl, fun j δ M' => ∃ (ro : List Rope) (M2 : Mem) (x1 x2 : Option SV), δ = [some (.m b), some (.d (.int n)), some (.m a), x1, x2] ∧ M' = mset M2 a (ro.map Rope.d) ∧ BS M b M2 ∧ ro.length = j ∧ ro.map Rope.n = names6.take j ∧ ∀ r ∈ ro, r.Fine, ⟨[], Ma, _, _, rfl, rfl, Ba, rfl, rfl, fun r hr => by cases hr⟩, fun j x δ M' hx hI => ?_, fun δ M' hI => ?_⟩
  · obtain ⟨ro, M2, x1, x2, rfl, rfl, B2, hlen, hnam, hfin⟩ := hI
    obtain ⟨nm', hn1, rfl⟩ := getElem?_map_some hx
    have hj : j < k := by
      have := (List.getElem?_eq_some_iff.mp hn1).1
      rw [List.length_take] at this
      omega
    have hn6 : names6[j]? = some nm' := by rw [List.getElem?_take_of_lt hj] at hn1; exact hn1
    have done : ∀ (r : Rope) (M3 : Mem), r.n = nm' → r.Fine → BS M b M3 → ∃ (ro' : List Rope) (M2 : Mem) (x1 x2 : Option SV), [some (.m b), some (.d (.int n)), some (.m a), some (.d (.str nm')), some (.d r.d)] = [some (.m b), some (.d (.int n)), some (.m a), x1, x2] ∧ mset (mset M3 a (ro.map Rope.d)) a (ro.map Rope.d ++ [r.d]) = mset M2 a (ro'.map Rope.d) ∧ BS M b M2 ∧ ro'.length = j + 1 ∧ ro'.map Rope.n = names6.take (j + 1) ∧ ∀ r ∈ ro', r.Fine := fun r M3 e1 e2 e3 =>
      ⟨ro ++ [r], M3, _, _, rfl, by rw [mset_mset, List.map_append]; rfl, e3, by rw [List.length_append, hlen]; rfl, by rw [List.map_append, hnam, List.take_succ, hn6]; show _ ++ [r.n] = _; rw [e1]; rfl, fun y hy => by
        rcases List.mem_append.mp hy with h | h
        · exact hfin y h
        · rw [List.mem_singleton.mp h]; exact e2⟩
    walk_at "d"
    refine ⟨B2.bi.under hab, fun r M3 hr1 hr2 B3 => ?_⟩
    obtain ⟨Mc, Bc, rfl⟩ := B3.under hab
    walk_at "d"
    refine dE_lst ?_
    walk_at "d"
    refine dR_ne (d := .list (ro.map Rope.d)) (.inr ⟨a, _, rfl, mset_same, rfl⟩) .of ?_ rfl ?_
    · exact Shp.shaped (Shp.list fun d hd => by
        obtain ⟨y, hy, rfl⟩ := List.mem_map.mp hd
        refine Shp.rope ?_
        have : y.n ∈ names6 := List.mem_of_mem_take (by rw [← hnam]; exact List.mem_map.mpr ⟨y, hy, rfl⟩)
        exact names6_lay _ this)
    walk_at "d"
    refine ifB (fun h => ?_) (fun h => ?_)
    · have hro : ro ≠ [] := by rintro rfl; revert h; decide
      walk_at "d"
      refine ⟨by decide, by decide, Bc.bi.under hab, fun i4 M4 _ _ B4 => ?_⟩
      obtain ⟨Md, Bd, rfl⟩ := B4.under hab
      walk_at "d"
      refine ifB (fun h => ?_) (fun h => ?_)
      · walk_at "d"
        refine ⟨b, .m a, ro.map Rope.d, rfl, .inr ⟨a, rfl, mset_same⟩, fun e => hab (by cases e; rfl), by simpa using hro, by rw [List.length_map, hlen]; omega, Bd.bi.under hab, fun d M5 hd B5 => ?_⟩
        obtain ⟨y, hy, rfl⟩ := List.mem_map.mp hd
        obtain ⟨Me, Be, rfl⟩ := B5.under hab
        have hy' := hfin y hy
        walk_at "d"
        refine dU_slT (ds := [.str y.n, .int y.a, .int y.b, .int y.c]) (by simp only [List.length_cons, List.length_nil]; decide) ?_
        rw [show cutD [.str y.n, .int y.a, .int y.b, .int y.c] (some 1) none = [.int y.a, .int y.b, .int y.c] from rfl]
        walk_at "d"
        refine dR_catT (by simp) (by simp) (by simp) ?_
        walk_at "d"
        refine dE_app ?_
        walk_at "d"
        refine ⟨⟨_, mset_same⟩, ?_⟩
        walk_at "d"
        refine ⟨_, _, rfl, mset_same, by rw [List.length_map, hlen]; omega, ?_⟩
        exact done ⟨nm', y.a, y.b, y.c⟩ Me rfl ⟨hy'.a0, hy'.a1, hy'.b0, hy'.b1, hy'.c0, hy'.c1⟩ (((B2.trans Bc).trans Bd).trans Be)
      · walk_at "d"
        refine dE_app ?_
        walk_at "d"
        refine ⟨⟨_, mset_same⟩, ?_⟩
        walk_at "d"
        refine ⟨_, _, rfl, mset_same, by rw [List.length_map, hlen]; omega, ?_⟩
        exact done r Md hr1 hr2 ((B2.trans Bc).trans Bd)
    · refine ifF rfl ?_
      walk_at "d"
      refine dE_app ?_
      walk_at "d"
      refine ⟨⟨_, mset_same⟩, ?_⟩
      walk_at "d"
      refine ⟨_, _, rfl, mset_same, by rw [List.length_map, hlen]; omega, ?_⟩
      exact done r Mc hr1 hr2 (B2.trans Bc)
  · obtain ⟨ro, M2, x1, x2, rfl, rfl, B2, hlen, hnam, hfin⟩ := hI
    rw [List.length_map, List.length_take] at hlen hnam
    have hl : ro.length = k := by rw [hlen]; exact Nat.min_eq_left hk
    rw [show min k names6.length = k from Nat.min_eq_left hk] at hnam
    walk_at "d"
    refine dC_tuple (.inr ⟨a, rfl, mset_same⟩) ?_
    exact ⟨M2, p ro M2 ⟨fun e => by rw [e] at hl; simp at hl; omega, by omega, by rw [hl]; exact hnam, hfin⟩ B2, msub_set MSub.refl (by rw [B2.ne hab]; exact ha)⟩
end
end K2

namespace K2
open PySem L2 Sd Ma
local macro_rules | `(tactic| walk_at "d1") => `(tactic| first
  | ((with_reducible refine' dE_var ?dv ?_); (case dv => rfl))
  | with_reducible refine' dE_int ?_
  | with_reducible refine' dE_str ?_
  | with_reducible refine' dE_bl ?_
  | with_reducible refine' dE_non ?_
  | ((with_reducible refine' dE_nt ?dv ?_); (case dv => assumption))
  | with_reducible refine' dE_ref ?_
  | with_reducible refine' dE_op ?_
  | with_reducible refine' dE_un ?_
  | with_reducible refine' dE_cmp ?_
  | with_reducible refine' dE_isN ?_
  | with_reducible refine' dE_notN ?_
  | with_reducible refine' dE_call ?_
  | with_reducible refine' dE_cb ?_
  | with_reducible refine' dE_kw ?_
  | with_reducible refine' dE_tup ?_
  | with_reducible refine' dE_if ?_
  | with_reducible refine' dE_and ?_
  | with_reducible refine' dE_or ?_
  | with_reducible refine' dE_not ?_
  | with_reducible refine' dE_sl ?_
  | with_reducible refine' dO_none ?_
  | with_reducible refine' dO_some ?_
  | with_reducible refine' dA_cons ?_
  | with_reducible refine' dA_nil ?_
  | with_reducible refine' dT_B ?_
  | with_reducible refine' dT_test ?_
  | with_reducible refine' dT_and ?_
  | with_reducible refine' dT_or ?_
  | with_reducible refine' dT_not ?_
  | with_reducible refine' dT_yes ?_
  | with_reducible refine' dR_I0i ?_
  | with_reducible refine' dU_neg ?_
  | ((with_reducible refine' dR_ixT ?dv ?_); (case dv => rfl))
  | with_reducible refine' dS_seq ?_
  | with_reducible refine' dS_next ?_
  | with_reducible refine' dS_ret ?_
  | with_reducible refine' dS_drop ?_
  | with_reducible refine' dS_if ?_
  | with_reducible refine' dS_asg ?_
  | with_reducible refine' dS_par ?_
  | with_reducible refine' dG_name ?_
  | ((with_reducible refine' dG_tup ?dv ?_); (case dv => rfl); (dsimp only [List.map]))
  | with_reducible refine' dGs_cons ?_
  | with_reducible refine' dGs_nil ?_
  | with_reducible refine' dC_abs ?_
  | with_reducible refine' dC_max2 ?_
  | with_reducible refine' dC_min2 ?_
  | with_reducible refine' rtOf.of ?_
  | with_reducible refine' ex_cmp ?_
  | with_reducible refine' ex_bool ?_
  | with_reducible refine' ex_int ?_
  | with_reducible refine' ex_list ?_
  | with_reducible refine' ex_tup ?_
  | with_reducible refine' ex_d ?_
  | with_reducible refine' ex_m ?_
  | with_reducible refine' ex_par ?_
  | with_reducible refine' ex_rg1 ?_
  | with_reducible refine' ex_rg2 ?_
  | ((with_reducible refine' ex_dat ?dv ?dw ?_); (case dv => rfl); (case dw => exact Nat.le_of_ble_eq_true rfl))
  | ((fail_if_success (with_reducible show ∃ _, _)); (fail_if_success (with_reducible show _ ∧ _)); refine ⟨_, _, rfl, ?_⟩)
  | ((fail_if_success (with_reducible show ∃ _, _)); (fail_if_success (with_reducible show _ ∧ _)); refine ⟨_, rfl, ?_⟩)
  | fail)
local macro_rules | `(tactic| walk_at "d") => `(tactic| repeat' walk_at "d1")
local macro_rules | `(tactic| walk_at "e1") => `(tactic| first
  | ((with_reducible refine' dE_var ?dv ?_); (case dv => rfl))
  | with_reducible refine' dE_int ?_
  | with_reducible refine' dE_str ?_
  | with_reducible refine' dE_bl ?_
  | with_reducible refine' dE_non ?_
  | ((with_reducible refine' dE_nt ?dv ?_); (case dv => assumption))
  | with_reducible refine' dE_ref ?_
  | with_reducible refine' dE_op ?_
  | with_reducible refine' dE_un ?_
  | with_reducible refine' dE_cmp ?_
  | with_reducible refine' dE_isN ?_
  | with_reducible refine' dE_notN ?_
  | with_reducible refine' dE_call ?_
  | with_reducible refine' dE_cb ?_
  | with_reducible refine' dE_kw ?_
  | with_reducible refine' dE_tup ?_
  | with_reducible refine' dE_if ?_
  | with_reducible refine' dE_and ?_
  | with_reducible refine' dE_or ?_
  | with_reducible refine' dE_not ?_
  | with_reducible refine' dE_sl ?_
  | with_reducible refine' dO_none ?_
  | with_reducible refine' dO_some ?_
  | with_reducible refine' dA_cons ?_
  | with_reducible refine' dA_nil ?_
  | with_reducible refine' dT_B ?_
  | with_reducible refine' dT_test ?_
  | with_reducible refine' dT_and ?_
  | with_reducible refine' dT_or ?_
  | with_reducible refine' dT_not ?_
  | with_reducible refine' dT_yes ?_
  | with_reducible refine' dR_I0i ?_
  | with_reducible refine' dU_neg ?_
  | ((with_reducible refine' dR_ixT ?dv ?_); (case dv => rfl))
  | with_reducible refine' dS_next ?_
  | with_reducible refine' dS_ret ?_
  | with_reducible refine' dS_drop ?_
  | with_reducible refine' dS_if ?_
  | with_reducible refine' dS_asg ?_
  | with_reducible refine' dS_par ?_
  | with_reducible refine' dG_name ?_
  | ((with_reducible refine' dG_tup ?dv ?_); (case dv => rfl); (dsimp only [List.map]))
  | with_reducible refine' dGs_cons ?_
  | with_reducible refine' dGs_nil ?_
  | with_reducible refine' dC_abs ?_
  | with_reducible refine' dC_max2 ?_
  | with_reducible refine' dC_min2 ?_
  | with_reducible refine' rtOf.of ?_
  | with_reducible refine' ex_cmp ?_
  | with_reducible refine' ex_bool ?_
  | with_reducible refine' ex_int ?_
  | with_reducible refine' ex_list ?_
  | with_reducible refine' ex_tup ?_
  | with_reducible refine' ex_d ?_
  | with_reducible refine' ex_m ?_
  | with_reducible refine' ex_par ?_
  | with_reducible refine' ex_rg1 ?_
  | with_reducible refine' ex_rg2 ?_
  | ((with_reducible refine' ex_dat ?dv ?dw ?_); (case dv => rfl); (case dw => exact Nat.le_of_ble_eq_true rfl))
  | ((fail_if_success (with_reducible show ∃ _, _)); (fail_if_success (with_reducible show _ ∧ _)); refine ⟨_, _, rfl, ?_⟩)
  | ((fail_if_success (with_reducible show ∃ _, _)); (fail_if_success (with_reducible show _ ∧ _)); refine ⟨_, rfl, ?_⟩)
  | fail)
local macro_rules | `(tactic| walk_at "e") => `(tactic| repeat' walk_at "e1")

/-- a fraction of bounded size -/
structure Fr (n : Nat) (q : Q) : Prop extends Red q where
  s1 : Sz n q.1
  s2 : Sz n q.2
def plus (x y : Q) : Q := low (x.1 * y.2 + y.1 * x.2) (x.2 * y.2)
theorem plus_red {x y : Q} (hx : Red x) (hy : Red y) : Red (plus x y) := low_red (by have := Int.mul_nonneg hx.p0 (Int.le_of_lt hy.q0); have := Int.mul_nonneg hy.p0 (Int.le_of_lt hx.q0); omega) (Int.mul_pos hx.q0 hy.q0)
section
variable {P : Program} {w : World} {K : PySem.W.Frag} {mg : Str → Option Value} {base : Heap} {f : Addr} {fd : FuncData}
def S_plus : SpD := fun rs M P => ∃ x y : Q, rs = [.d (fr x), .d (fr y)] ∧ Fr 3000 x ∧ Fr 3000 y ∧ P (.d (fr (plus x y))) M
def S_less : SpD := fun rs M P => ∃ x y : Q, rs = [.d (fr x), .d (fr y)] ∧ Fr 3000 x ∧ Fr 3000 y ∧ P (.d (.bool (decide (x.1 * y.2 < y.1 * x.2)))) M
def S_some_names : SpD := fun rs M P => ∃ (b : Addr) (ro : List Rope), rs = [.m b, .d (bd ro)] ∧ BI M b ∧ ro.length ≤ 100 ∧ ∀ ns M', ns.Sublist (ro.map Rope.n) → BS M b M' → P (.d (nm ns)) M'
def S_lleft : SpD := fun rs M P => ∃ (ro : List Rope) (y : SV) (ns : List Str), rs = [.d (bd ro), y] ∧ Seq M y (ns.map .str) ∧ ro.length ≤ 100 ∧ P (.d (ld (leftOf ro ns))) M
end
end K2

namespace K2
open PySem L2 Sd Ma
local macro_rules | `(tactic| walk_at "d1") => `(tactic| first
  | ((with_reducible refine' dE_var ?dv ?_); (case dv => rfl))
  | with_reducible refine' dE_int ?_
  | with_reducible refine' dE_str ?_
  | with_reducible refine' dE_bl ?_
  | with_reducible refine' dE_non ?_
  | ((with_reducible refine' dE_nt ?dv ?_); (case dv => assumption))
  | with_reducible refine' dE_ref ?_
  | with_reducible refine' dE_op ?_
  | with_reducible refine' dE_un ?_
  | with_reducible refine' dE_cmp ?_
  | with_reducible refine' dE_isN ?_
  | with_reducible refine' dE_notN ?_
  | with_reducible refine' dE_call ?_
  | with_reducible refine' dE_cb ?_
  | with_reducible refine' dE_kw ?_
  | with_reducible refine' dE_tup ?_
  | with_reducible refine' dE_if ?_
  | with_reducible refine' dE_and ?_
  | with_reducible refine' dE_or ?_
  | with_reducible refine' dE_not ?_
  | with_reducible refine' dE_sl ?_
  | with_reducible refine' dO_none ?_
  | with_reducible refine' dO_some ?_
  | with_reducible refine' dA_cons ?_
  | with_reducible refine' dA_nil ?_
  | with_reducible refine' dT_B ?_
  | with_reducible refine' dT_test ?_
  | with_reducible refine' dT_and ?_
  | with_reducible refine' dT_or ?_
  | with_reducible refine' dT_not ?_
  | with_reducible refine' dT_yes ?_
  | with_reducible refine' dR_I0i ?_
  | with_reducible refine' dU_neg ?_
  | ((with_reducible refine' dR_ixT ?dv ?_); (case dv => rfl))
  | with_reducible refine' dS_seq ?_
  | with_reducible refine' dS_next ?_
  | with_reducible refine' dS_ret ?_
  | with_reducible refine' dS_drop ?_
  | with_reducible refine' dS_if ?_
  | with_reducible refine' dS_asg ?_
  | with_reducible refine' dS_par ?_
  | with_reducible refine' dG_name ?_
  | ((with_reducible refine' dG_tup ?dv ?_); (case dv => rfl); (dsimp only [List.map]))
  | with_reducible refine' dGs_cons ?_
  | with_reducible refine' dGs_nil ?_
  | with_reducible refine' dC_abs ?_
  | with_reducible refine' dC_max2 ?_
  | with_reducible refine' dC_min2 ?_
  | with_reducible refine' rtOf.of ?_
  | with_reducible refine' ex_cmp ?_
  | with_reducible refine' ex_bool ?_
  | with_reducible refine' ex_int ?_
  | with_reducible refine' ex_list ?_
  | with_reducible refine' ex_tup ?_
  | with_reducible refine' ex_d ?_
  | with_reducible refine' ex_m ?_
  | with_reducible refine' ex_par ?_
  | with_reducible refine' ex_rg1 ?_
  | with_reducible refine' ex_rg2 ?_
  | ((with_reducible refine' ex_dat ?dv ?dw ?_); (case dv => rfl); (case dw => exact Nat.le_of_ble_eq_true rfl))
  | ((fail_if_success (with_reducible show ∃ _, _)); (fail_if_success (with_reducible show _ ∧ _)); refine ⟨_, _, rfl, ?_⟩)
  | ((fail_if_success (with_reducible show ∃ _, _)); (fail_if_success (with_reducible show _ ∧ _)); refine ⟨_, rfl, ?_⟩)
  | fail)
local macro_rules | `(tactic| walk_at "d") => `(tactic| repeat' walk_at "d1")
local macro_rules | `(tactic| walk_at "e1") => `(tactic| first
  | ((with_reducible refine' dE_var ?dv ?_); (case dv => rfl))
  | with_reducible refine' dE_int ?_
  | with_reducible refine' dE_str ?_
  | with_reducible refine' dE_bl ?_
  | with_reducible refine' dE_non ?_
  | ((with_reducible refine' dE_nt ?dv ?_); (case dv => assumption))
  | with_reducible refine' dE_ref ?_
  | with_reducible refine' dE_op ?_
  | with_reducible refine' dE_un ?_
  | with_reducible refine' dE_cmp ?_
  | with_reducible refine' dE_isN ?_
  | with_reducible refine' dE_notN ?_
  | with_reducible refine' dE_call ?_
  | with_reducible refine' dE_cb ?_
  | with_reducible refine' dE_kw ?_
  | with_reducible refine' dE_tup ?_
  | with_reducible refine' dE_if ?_
  | with_reducible refine' dE_and ?_
  | with_reducible refine' dE_or ?_
  | with_reducible refine' dE_not ?_
  | with_reducible refine' dE_sl ?_
  | with_reducible refine' dO_none ?_
  | with_reducible refine' dO_some ?_
  | with_reducible refine' dA_cons ?_
  | with_reducible refine' dA_nil ?_
  | with_reducible refine' dT_B ?_
  | with_reducible refine' dT_test ?_
  | with_reducible refine' dT_and ?_
  | with_reducible refine' dT_or ?_
  | with_reducible refine' dT_not ?_
  | with_reducible refine' dT_yes ?_
  | with_reducible refine' dR_I0i ?_
  | with_reducible refine' dU_neg ?_
  | ((with_reducible refine' dR_ixT ?dv ?_); (case dv => rfl))
  | with_reducible refine' dS_next ?_
  | with_reducible refine' dS_ret ?_
  | with_reducible refine' dS_drop ?_
  | with_reducible refine' dS_if ?_
  | with_reducible refine' dS_asg ?_
  | with_reducible refine' dS_par ?_
  | with_reducible refine' dG_name ?_
  | ((with_reducible refine' dG_tup ?dv ?_); (case dv => rfl); (dsimp only [List.map]))
  | with_reducible refine' dGs_cons ?_
  | with_reducible refine' dGs_nil ?_
  | with_reducible refine' dC_abs ?_
  | with_reducible refine' dC_max2 ?_
  | with_reducible refine' dC_min2 ?_
  | with_reducible refine' rtOf.of ?_
  | with_reducible refine' ex_cmp ?_
  | with_reducible refine' ex_bool ?_
  | with_reducible refine' ex_int ?_
  | with_reducible refine' ex_list ?_
  | with_reducible refine' ex_tup ?_
  | with_reducible refine' ex_d ?_
  | with_reducible refine' ex_m ?_
  | with_reducible refine' ex_par ?_
  | with_reducible refine' ex_rg1 ?_
  | with_reducible refine' ex_rg2 ?_
  | ((with_reducible refine' ex_dat ?dv ?dw ?_); (case dv => rfl); (case dw => exact Nat.le_of_ble_eq_true rfl))
  | ((fail_if_success (with_reducible show ∃ _, _)); (fail_if_success (with_reducible show _ ∧ _)); refine ⟨_, _, rfl, ?_⟩)
  | ((fail_if_success (with_reducible show ∃ _, _)); (fail_if_success (with_reducible show _ ∧ _)); refine ⟨_, rfl, ?_⟩)
  | fail)
local macro_rules | `(tactic| walk_at "e") => `(tactic| repeat' walk_at "e1")

abbrev prD (p : Pr) : PyData := .tuple [.int p.1, .int p.2]
def le2 (x y : Pr) : Bool := decide (x.1 < y.1 ∨ (x.1 = y.1 ∧ x.2 ≤ y.2))
theorem le2_sorted (ps : List Pr) : (ps.mergeSort le2).Pairwise fun x y => x.1 ≤ y.1 := by
  have h := List.pairwise_mergeSort (le := le2) (fun a b c h1 h2 => decide_eq_true (by have := of_decide_eq_true h1; have := of_decide_eq_true h2; omega)) (fun a b => by
    unfold le2; simp only [Bool.or_eq_true, decide_eq_true_eq]; omega) ps
  exact h.imp fun h => by have := of_decide_eq_true h; omega
theorem rows_sorted (ps : List Pr) : ((ps.map prD).mergeSort (PySem.W.dataLe false id)) = (ps.mergeSort le2).map prD :=
  (List.map_mergeSort (r := le2) (s := PySem.W.dataLe false id) (f := prD) (fun a _ b _ => (congrFun (congrFun (PySem.W.dataLe_ii (β := Pr) Prod.fst Prod.snd) a) b).symm)).symm
theorem atI_neg1 {α : Type} {xs : List α} {x : α} (h : xs ≠ []) (e : xs[xs.length - 1]? = some x) : atI xs (-1) = some x := by
  have hl : 0 < xs.length := List.length_pos_iff.mpr h
  unfold atI ixN
  rw [if_neg (by decide), if_pos (by omega)]
  show xs[(-1 + (xs.length : Int)).toNat]? = some x
  rw [show (-1 + (xs.length : Int)).toNat = xs.length - 1 by omega]
  exact e
theorem fr_int {a : Int} (h : 0 ≤ a) (hs : Sz 40 a) : Fr 3000 (a, 1) := ⟨⟨h, (by decide : (0 : Int) < 1), Int.gcd_one_right ..⟩, hs.up (by decide), Sz.up (m := 1) (show (1 : Int).natAbs < 2 ^ 1 by decide) (by decide)⟩
theorem szsum {α : Type} (g : α → Int) (n : Nat) : ∀ (xs : List α), (∀ x ∈ xs, 0 ≤ g x ∧ Sz n (g x)) → ∀ j, 0 ≤ ((xs.take j).map g).sum ∧ Sz (n + j) ((xs.take j).map g).sum
  | [], _, j => by simp; exact Nat.pow_pos (by decide)
  | x :: xs, h, 0 => by simp; exact Nat.pow_pos (by decide)
  | x :: xs, h, j + 1 => by
    obtain ⟨h1, h2⟩ := szsum g n xs (fun y hy => h y (List.mem_cons_of_mem _ hy)) j
    obtain ⟨h3, h4⟩ := h x List.mem_cons_self
    rw [List.take_succ_cons, List.map_cons, List.sum_cons]
    exact ⟨by omega, (Sz.add (h4.up (Nat.le_add_right n j)) h2).up (by omega)⟩
section
variable {P : Program} {w : World} {K : PySem.W.Frag} {mg : Str → Option Value} {base : Heap} {f : Addr} {fd : FuncData}
def S_lsunk : SpD := fun rs M P => ∃ (ro : List Rope) (q : Q), rs = [.d (ld ro), .d (fr q)] ∧ BOk ro ∧ LOk q ∧ P (.d (opt (sunkOf ro q.1 q.2))) M
end
end K2

namespace K2
open PySem L2 Sd Ma
theorem low_plus {X Y s : Int} (hX : 0 ≤ X) (hY : 0 ≤ Y) (hs : 0 < s) : plus (low X s) (low Y s) = low (X + Y) s := by
  have rx := low_red hX hs
  have ry := low_red hY hs
  have ex := low_eq (t := X) hs
  have ey := low_eq (t := Y) hs
  refine (low_unique (show 0 ≤ X + Y by omega) hs (plus_red rx ry) ?_).symm
  have ez := low_eq (t := (low X s).1 * (low Y s).2 + (low Y s).1 * (low X s).2) (Int.mul_pos rx.q0 ry.q0)
  show (X + Y) * (plus (low X s) (low Y s)).2 = (plus (low X s) (low Y s)).1 * s
  unfold plus
  generalize low ((low X s).1 * (low Y s).2 + (low Y s).1 * (low X s).2) ((low X s).2 * (low Y s).2) = z at *
  have hpos : (low X s).2 * (low Y s).2 ≠ 0 := Int.ne_of_gt (Int.mul_pos rx.q0 ry.q0)
  generalize low X s = x at *
  generalize low Y s = y at *
  refine Int.eq_of_mul_eq_mul_right hpos ?_
  have h1 : (X + Y) * z.2 * (x.2 * y.2) = (X * x.2 * y.2 + Y * y.2 * x.2) * z.2 := by grind
  have h2 : z.1 * s * (x.2 * y.2) = z.1 * (x.2 * y.2) * s := by grind
  rw [h1, h2, ← ez, ex, ey]
  grind
theorem pull_low {r : Rope} {q : Q} (hb : 0 < r.b) (hq : 0 < q.2) : pullOf r q = low (f1 q (pr r)) q.2 := by
  unfold pullOf f1
  by_cases h : r.a * q.2 < q.1
  · rw [if_pos h]
    show _ = low (r.b * max 0 (q.1 - r.a * q.2)) q.2
    rw [show max 0 (q.1 - r.a * q.2) = q.1 - r.a * q.2 by omega]
  · rw [if_neg h]
    show _ = low (r.b * max 0 (q.1 - r.a * q.2)) q.2
    rw [show max 0 (q.1 - r.a * q.2) = 0 by omega, Int.mul_zero, low_zero hq]
theorem sunk_F {rs : List Rope} {t b : Int} {q : Q} (hp : Ma.Pos rs) (ht : 0 ≤ t) (hb : 0 < b) (e : sunkOf rs t b = some q) : F q (rs.map pr) * b = t * q.2 := by
  by_cases h : t = 0
  · subst h
    unfold sunkOf at e
    rw [if_pos rfl] at e
    cases e
    rw [F_zero fun p hpp => by have := hp.pa p hpp; show (0 : Int) ≤ p.1 * 1; omega]
    omega
  · cases rs with
    | nil => rw [sunk_none, if_neg h] at e; cases e
    | cons r rs =>
      obtain ⟨q', h1, h2⟩ := sunk_sol (t := t) (b := b) (List.cons_ne_nil r rs) hp (by omega) hb
      rw [h1] at e
      cases e
      exact h2.eq
theorem bun_lay {ro : List Rope} (h : Bun ro) : ∀ r ∈ ro, PyData.canLay0 (.str r.n) = true := fun r hr => names6_lay _ (List.mem_of_mem_take (by rw [← h.nam]; exact List.mem_map.mpr ⟨r, hr, rfl⟩))
/-- what the waves ask of a bundle -/
structure Bw (ro : List Rope) : Prop where
  ok : BOk ro
  lay : ∀ r ∈ ro, PyData.canLay0 (.str r.n) = true
theorem Bun.bw {ro : List Rope} (h : Bun ro) : Bw ro := ⟨h.ok, bun_lay h⟩
theorem Fsz {q : Q} (hq : QOk q) : ∀ {rs : List Rope}, (∀ r ∈ rs, r.Ok) → 0 ≤ F q (rs.map pr) ∧ Sz (700 + rs.length) (F q (rs.map pr))
  | [], _ => ⟨Int.le_refl 0, Nat.pow_pos (by decide)⟩
  | r :: rs, h => by
    obtain ⟨h1, h2⟩ := Fsz hq (rs := rs) fun x hx => h x (List.mem_cons_of_mem _ hx)
    have rk := h r List.mem_cons_self
    rw [List.map_cons, F_cons, List.length_cons]
    have n1 : 0 ≤ f1 q (pr r) := f1_nn rk.b0
    have z1 : Sz 641 (q.1 - r.a * q.2) := Sz.sub (hq.s1.up (show 600 ≤ 640 by decide)) (rk.aS.mul hq.s2)
    have z2 : Sz 641 (max 0 (q.1 - r.a * q.2)) := by
      by_cases h : 0 ≤ q.1 - r.a * q.2
      · rw [show max 0 (q.1 - r.a * q.2) = q.1 - r.a * q.2 by omega]; exact z1
      · rw [show max 0 (q.1 - r.a * q.2) = 0 by omega]; exact Nat.pow_pos (by decide)
    have z3 : Sz 700 (f1 q (pr r)) := (rk.bS.mul z2).up (by decide)
    exact ⟨by omega, ((z3.up (by omega)).add h2).up (by omega)⟩
theorem load_ok {q : Q} (h : Red q) (h1 : q.1 ≤ 3000000) (h2 : q.2 ≤ 6) : LOk q := ⟨h, (sz_lt (n := 30) h.p0 (by omega)).up (by decide), (sz_lt (n := 30) (Int.le_of_lt h.q0) (by omega)).up (by decide)⟩
theorem msub_bs {M M' M'' : Mem} {b : Addr} (h : MSub M M') (hb : M b = none) (k : BS M' b M'') : MSub M M'' := by
  obtain ⟨ds, _, rfl⟩ := k
  exact msub_set h hb
def S_law : SpD := fun rs M P => ∃ ns : List Int, rs = [.l ns] ∧ ns.length ≤ 63 ∧ P (.d (.bool true)) M
end K2

namespace K2
open PySem L2 Sd Ma
local macro_rules | `(tactic| walk_at "d1") => `(tactic| first
  | ((with_reducible refine' dE_var ?dv ?_); (case dv => rfl))
  | with_reducible refine' dE_int ?_
  | with_reducible refine' dE_str ?_
  | with_reducible refine' dE_bl ?_
  | with_reducible refine' dE_non ?_
  | ((with_reducible refine' dE_nt ?dv ?_); (case dv => assumption))
  | with_reducible refine' dE_ref ?_
  | with_reducible refine' dE_op ?_
  | with_reducible refine' dE_un ?_
  | with_reducible refine' dE_cmp ?_
  | with_reducible refine' dE_isN ?_
  | with_reducible refine' dE_notN ?_
  | with_reducible refine' dE_call ?_
  | with_reducible refine' dE_cb ?_
  | with_reducible refine' dE_kw ?_
  | with_reducible refine' dE_tup ?_
  | with_reducible refine' dE_if ?_
  | with_reducible refine' dE_and ?_
  | with_reducible refine' dE_or ?_
  | with_reducible refine' dE_not ?_
  | with_reducible refine' dE_sl ?_
  | with_reducible refine' dO_none ?_
  | with_reducible refine' dO_some ?_
  | with_reducible refine' dA_cons ?_
  | with_reducible refine' dA_nil ?_
  | with_reducible refine' dT_B ?_
  | with_reducible refine' dT_test ?_
  | with_reducible refine' dT_and ?_
  | with_reducible refine' dT_or ?_
  | with_reducible refine' dT_not ?_
  | with_reducible refine' dT_yes ?_
  | with_reducible refine' dR_I0i ?_
  | with_reducible refine' dU_neg ?_
  | ((with_reducible refine' dR_ixT ?dv ?_); (case dv => rfl))
  | with_reducible refine' dS_seq ?_
  | with_reducible refine' dS_next ?_
  | with_reducible refine' dS_ret ?_
  | with_reducible refine' dS_drop ?_
  | with_reducible refine' dS_if ?_
  | with_reducible refine' dS_asg ?_
  | with_reducible refine' dS_par ?_
  | with_reducible refine' dG_name ?_
  | ((with_reducible refine' dG_tup ?dv ?_); (case dv => rfl); (dsimp only [List.map]))
  | with_reducible refine' dGs_cons ?_
  | with_reducible refine' dGs_nil ?_
  | with_reducible refine' dC_abs ?_
  | with_reducible refine' dC_max2 ?_
  | with_reducible refine' dC_min2 ?_
  | with_reducible refine' rtOf.of ?_
  | with_reducible refine' ex_cmp ?_
  | with_reducible refine' ex_bool ?_
  | with_reducible refine' ex_int ?_
  | with_reducible refine' ex_list ?_
  | with_reducible refine' ex_tup ?_
  | with_reducible refine' ex_d ?_
  | with_reducible refine' ex_m ?_
  | with_reducible refine' ex_par ?_
  | with_reducible refine' ex_rg1 ?_
  | with_reducible refine' ex_rg2 ?_
  | ((with_reducible refine' ex_dat ?dv ?dw ?_); (case dv => rfl); (case dw => exact Nat.le_of_ble_eq_true rfl))
  | ((fail_if_success (with_reducible show ∃ _, _)); (fail_if_success (with_reducible show _ ∧ _)); refine ⟨_, _, rfl, ?_⟩)
  | ((fail_if_success (with_reducible show ∃ _, _)); (fail_if_success (with_reducible show _ ∧ _)); refine ⟨_, rfl, ?_⟩)
  | fail)
local macro_rules | `(tactic| walk_at "d") => `(tactic| repeat' walk_at "d1")
local macro_rules | `(tactic| walk_at "e1") => `(tactic| first
  | ((with_reducible refine' dE_var ?dv ?_); (case dv => rfl))
  | with_reducible refine' dE_int ?_
  | with_reducible refine' dE_str ?_
  | with_reducible refine' dE_bl ?_
  | with_reducible refine' dE_non ?_
  | ((with_reducible refine' dE_nt ?dv ?_); (case dv => assumption))
  | with_reducible refine' dE_ref ?_
  | with_reducible refine' dE_op ?_
  | with_reducible refine' dE_un ?_
  | with_reducible refine' dE_cmp ?_
  | with_reducible refine' dE_isN ?_
  | with_reducible refine' dE_notN ?_
  | with_reducible refine' dE_call ?_
  | with_reducible refine' dE_cb ?_
  | with_reducible refine' dE_kw ?_
  | with_reducible refine' dE_tup ?_
  | with_reducible refine' dE_if ?_
  | with_reducible refine' dE_and ?_
  | with_reducible refine' dE_or ?_
  | with_reducible refine' dE_not ?_
  | with_reducible refine' dE_sl ?_
  | with_reducible refine' dO_none ?_
  | with_reducible refine' dO_some ?_
  | with_reducible refine' dA_cons ?_
  | with_reducible refine' dA_nil ?_
  | with_reducible refine' dT_B ?_
  | with_reducible refine' dT_test ?_
  | with_reducible refine' dT_and ?_
  | with_reducible refine' dT_or ?_
  | with_reducible refine' dT_not ?_
  | with_reducible refine' dT_yes ?_
  | with_reducible refine' dR_I0i ?_
  | with_reducible refine' dU_neg ?_
  | ((with_reducible refine' dR_ixT ?dv ?_); (case dv => rfl))
  | with_reducible refine' dS_next ?_
  | with_reducible refine' dS_ret ?_
  | with_reducible refine' dS_drop ?_
  | with_reducible refine' dS_if ?_
  | with_reducible refine' dS_asg ?_
  | with_reducible refine' dS_par ?_
  | with_reducible refine' dG_name ?_
  | ((with_reducible refine' dG_tup ?dv ?_); (case dv => rfl); (dsimp only [List.map]))
  | with_reducible refine' dGs_cons ?_
  | with_reducible refine' dGs_nil ?_
  | with_reducible refine' dC_abs ?_
  | with_reducible refine' dC_max2 ?_
  | with_reducible refine' dC_min2 ?_
  | with_reducible refine' rtOf.of ?_
  | with_reducible refine' ex_cmp ?_
  | with_reducible refine' ex_bool ?_
  | with_reducible refine' ex_int ?_
  | with_reducible refine' ex_list ?_
  | with_reducible refine' ex_tup ?_
  | with_reducible refine' ex_d ?_
  | with_reducible refine' ex_m ?_
  | with_reducible refine' ex_par ?_
  | with_reducible refine' ex_rg1 ?_
  | with_reducible refine' ex_rg2 ?_
  | ((with_reducible refine' ex_dat ?dv ?dw ?_); (case dv => rfl); (case dw => exact Nat.le_of_ble_eq_true rfl))
  | ((fail_if_success (with_reducible show ∃ _, _)); (fail_if_success (with_reducible show _ ∧ _)); refine ⟨_, _, rfl, ?_⟩)
  | ((fail_if_success (with_reducible show ∃ _, _)); (fail_if_success (with_reducible show _ ∧ _)); refine ⟨_, rfl, ?_⟩)
  | fail)
local macro_rules | `(tactic| walk_at "e") => `(tactic| repeat' walk_at "e1")

/-- the module's numbers -/
structure Cst (mg : Str → Option Value) : Prop where
  c_MOST_LETTERS : ∃ t, mg "MOST_LETTERS" = some (.int 8 t)
  c_MOST_SLACK : ∃ t, mg "MOST_SLACK" = some (.int 1000 t)
  c_MOST_STIFF : ∃ t, mg "MOST_STIFF" = some (.int 100 t)
  c_MOST_STRONG : ∃ t, mg "MOST_STRONG" = some (.int 1000000 t)
  c_MOST_ROPES : ∃ t, mg "MOST_ROPES" = some (.int 6 t)
theorem pe_globI {X : Cx} {x : Str} {i : Int} {pos : Pos} (hg : Gl X x) (hm : ∃ t, X.mg x = some (.int i t)) (hd : (x == ("__debug__" : Str)) = false := by decide) : PE X (.Name x pos) (tC (.int i)) :=
  let ⟨t, h⟩ := hm
  pe_glob hg h ⟨t, rfl⟩ hd
def isI : PyData → Bool
  | .int _ => true
  | _ => false
theorem isI_eq (d : PyData) : (isNum d && !isBl d) = isI d := by cases d <;> rfl
section
variable {P : Program} {w : World} {K : PySem.W.Frag} {mg : Str → Option Value} {base : Heap} {f : Addr} {fd : FuncData}
def S_isI : SpD := fun rs M P => ∃ d : PyData, rs = [.d d] ∧ P (.d (.bool (isI d))) M
abbrev s_is_whole : Stmt := topS 2
theorem sc_is_whole : FnScope ["thing"] ["thing"] (defScope s_is_whole) := ⟨rfl, rfl, rfl, by decide +kernel, rfl, by decide +kernel, by decide +kernel⟩
theorem ok_is_whole (T : Txt mg) (F : Fun K "is_whole" "is_whole" s_is_whole f fd) : FnOk P w K mg base CX0 1 f fd ["thing"] (spOf K S_isI) := by
  refine ok_of F sc_is_whole (fun rs M P h => by obtain ⟨a, rfl, _⟩ := h; rfl) fun cdv A outer s H E hr => ⟨_, (pss_one (ps_ret (pe_and (pe_callB (kcall_isi K) (by rfl) T.isinstance (by decide +kernel) (pa_cons (pv 0) (pa_cons (pe_bltn (v := .ty "int") (by rfl) T.int (by decide +kernel) rfl) pa_nil))) (pe_one (pe_not (pe_callB (kcall_isi K) (by rfl) T.isinstance (by decide +kernel) (pa_cons (pv 0) (pa_cons (pe_bltn (v := .ty "bool") (by rfl) T.bool (by decide +kernel) rfl) pa_nil)))))))), fun rs M P h => ?_⟩
  obtain ⟨d, rfl, p⟩ := h
  rw [← isI_eq] at p
  walk_at "d"
  refine dE_ty ?_
  walk_at "d"
  refine dC_isi (kit_int d) ?_
  walk_at "d"
  refine ifB (fun h => ?_) (fun h => ?_)
  · rw [h, Bool.true_and] at p
    walk_at "d"
    refine dE_ty ?_
    walk_at "d"
    refine dC_isi (kit_bool d) ?_
    walk_at "d"
    exact p
  · rw [h, Bool.false_and] at p
    exact rtOf.of p
abbrev s_law_whole : Stmt := topS 19
theorem sc_law_whole : FnScope ["thing"] ["thing"] (defScope s_law_whole) := ⟨rfl, rfl, rfl, by decide +kernel, rfl, by decide +kernel, by decide +kernel⟩
theorem ok_law_whole (T : Txt mg) (F : Fun K "_law_whole" "_law_whole" s_law_whole f fd) : FnOk P w K mg base CX0 1 f fd ["thing"] (spOf K S_isI) := by
  refine ok_of F sc_law_whole (fun rs M P h => by obtain ⟨a, rfl, _⟩ := h; rfl) fun cdv A outer s H E hr => ⟨_, (pss_one (ps_ret (pe_and (pe_callB (kcall_isi K) (by rfl) T.isinstance (by decide +kernel) (pa_cons (pv 0) (pa_cons (pe_bltn (v := .ty "int") (by rfl) T.int (by decide +kernel) rfl) pa_nil))) (pe_one (pe_not (pe_callB (kcall_isi K) (by rfl) T.isinstance (by decide +kernel) (pa_cons (pv 0) (pa_cons (pe_bltn (v := .ty "bool") (by rfl) T.bool (by decide +kernel) rfl) pa_nil)))))))), fun rs M P h => ?_⟩
  obtain ⟨d, rfl, p⟩ := h
  rw [← isI_eq] at p
  walk_at "d"
  refine dE_ty ?_
  walk_at "d"
  refine dC_isi (kit_int d) ?_
  walk_at "d"
  refine ifB (fun h => ?_) (fun h => ?_)
  · rw [h, Bool.true_and] at p
    walk_at "d"
    refine dE_ty ?_
    walk_at "d"
    refine dC_isi (kit_bool d) ?_
    walk_at "d"
    exact p
  · rw [h, Bool.false_and] at p
    exact rtOf.of p
/-- a number of these bounds -/
def inB (lo hi : Int) : PyData → Bool
  | .int i => decide (lo ≤ i) && decide (i ≤ hi)
  | _ => false
theorem inB_not {lo hi : Int} {d : PyData} (h : isI d = false) : inB lo hi d = false := by cases d <;> first | rfl | cases h
def S_inB : SpD := fun rs M P => ∃ (d : PyData) (lo hi : Int), rs = [.d d, .d (.int lo), .d (.int hi)] ∧ P (.d (.bool (inB lo hi d))) M
abbrev s_is_within : Stmt := topS 14
theorem sc_is_within : FnScope ["thing", "least", "most"] ["thing", "least", "most"] (defScope s_is_within) := ⟨rfl, rfl, rfl, by decide +kernel, rfl, by decide +kernel, by decide +kernel⟩
theorem ok_is_within (F : Fun K "is_within" "is_within" s_is_within f fd) (c_is_whole : Has P w K mg base 1 "is_whole" ["thing"] S_isI) : FnOk P w K mg base CX0 2 f fd ["thing", "least", "most"] (spOf K S_inB) := by
  refine ok_of F sc_is_within (fun rs M P h => by obtain ⟨a, b, c, rfl, _⟩ := h; rfl) fun cdv A outer s H E hr => ⟨_, (pss_one (ps_ret (pe_and (pe_callH' c_is_whole (hr.mono (by first | decide | omega)) rfl (pa_cons (pv 0) pa_nil)) (pe_one (pe_chain op_le op_le (pv 1) (pv 0) (pv 2)))))), fun rs M P h => ?_⟩
  obtain ⟨d, lo, hi, rfl, p⟩ := h
  walk_at "d"
  refine ifB (fun h => ?_) (fun h => ?_)
  · cases d with
    | int i =>
      have p' : P (.d (.bool (decide (lo ≤ i) && decide (i ≤ hi)))) M := p
      refine dE_chain ?_
      walk_at "d"
      refine dR_I0b ?_
      walk_at "d"
      refine ifB (fun h1 => ?_) (fun h1 => ?_)
      · rw [h1, Bool.true_and] at p'
        walk_at "d"
        refine dR_I0b ?_
        exact rtOf.of p'
      · rw [h1, Bool.false_and] at p'
        exact rtOf.of p'
    | _ => cases h
  · rw [inB_not h] at p
    exact rtOf.of p
abbrev s_law_within : Stmt := topS 20
theorem sc_law_within : FnScope ["thing", "least", "most"] ["thing", "least", "most"] (defScope s_law_within) := ⟨rfl, rfl, rfl, by decide +kernel, rfl, by decide +kernel, by decide +kernel⟩
theorem ok_law_within (T : Txt mg) (F : Fun K "_law_within" "_law_within" s_law_within f fd) : FnOk P w K mg base CX0 1 f fd ["thing", "least", "most"] (spOf K S_inB) := by
  refine ok_of F sc_law_within (fun rs M P h => by obtain ⟨a, b, c, rfl, _⟩ := h; rfl) fun cdv A outer s H E hr => ⟨_, (pss_one (ps_ret (pe_and (pe_callB (kcall_isi K) (by rfl) T.isinstance (by decide +kernel) (pa_cons (pv 0) (pa_cons (pe_bltn (v := .ty "int") (by rfl) T.int (by decide +kernel) rfl) pa_nil))) (pe_and (pe_not (pe_callB (kcall_isi K) (by rfl) T.isinstance (by decide +kernel) (pa_cons (pv 0) (pa_cons (pe_bltn (v := .ty "bool") (by rfl) T.bool (by decide +kernel) rfl) pa_nil)))) (pe_one (pe_chain op_le op_le (pv 1) (pv 0) (pv 2))))))), fun rs M P h => ?_⟩
  obtain ⟨d, lo, hi, rfl, p⟩ := h
  walk_at "d"
  refine dE_ty ?_
  walk_at "d"
  refine dC_isi (kit_int d) ?_
  walk_at "d"
  refine ifB (fun h => ?_) (fun h => ?_)
  · walk_at "d"
    refine dE_ty ?_
    walk_at "d"
    refine dC_isi (kit_bool d) ?_
    walk_at "d"
    refine ifB (fun h2 => ?_) (fun h2 => ?_)
    · cases d with
      | int i =>
        have p' : P (.d (.bool (decide (lo ≤ i) && decide (i ≤ hi)))) M := p
        refine dE_chain ?_
        walk_at "d"
        refine dR_I0b ?_
        walk_at "d"
        refine ifB (fun h1 => ?_) (fun h1 => ?_)
        · rw [h1, Bool.true_and] at p'
          walk_at "d"
          refine dR_I0b ?_
          exact rtOf.of p'
        · rw [h1, Bool.false_and] at p'
          exact rtOf.of p'
      | bool b => cases h2
      | _ => cases h
    · rw [inB_not (by rw [← isI_eq, h2, Bool.and_false])] at p
      exact rtOf.of p
  · rw [inB_not (by rw [← isI_eq, h, Bool.false_and])] at p
    exact rtOf.of p
theorem one_lt {a b : Nat} : ([a] < [b]) ↔ a < b := by
  rw [List.cons_lt_cons_iff]
  constructor
  · rintro (h | ⟨_, h⟩)
    · exact h
    · exact absurd h (List.not_lt_nil [])
  · intro h; exact .inl h
theorem le_one (c : Nat) : (!decide ((⟨#[c]⟩ : Str).cps.toList < (Str.ofString "a").cps.toList)) = decide (97 ≤ c) := by
  show (!decide ([c] < [97])) = _
  rw [Bool.eq_iff_iff, Bool.not_eq_true', decide_eq_false_iff_not, one_lt, decide_eq_true_iff]
  omega
theorem one_le (c : Nat) : (!decide ((Str.ofString "z").cps.toList < (⟨#[c]⟩ : Str).cps.toList)) = decide (c ≤ 122) := by
  show (!decide ([122] < [c])) = _
  rw [Bool.eq_iff_iff, Bool.not_eq_true', decide_eq_false_iff_not, one_lt, decide_eq_true_iff]
  omega
/-- a name -/
def nameB : PyData → Bool
  | .str x => decide (1 ≤ x.length) && decide (x.length ≤ 8) && x.cps.toList.all fun c => decide (97 ≤ c) && decide (c ≤ 122)
  | _ => false
def S_name : SpD := fun rs M P => ∃ d : PyData, rs = [.d d] ∧ (∀ x, d = .str x → x.length ≤ 1000000) ∧ P (.d (.bool (nameB d))) M
abbrev s_is_name : Stmt := topS 3
theorem sc_is_name : FnScope ["thing", "letter"] ["thing"] (defScope s_is_name) := ⟨rfl, rfl, rfl, by decide +kernel, rfl, by decide +kernel, by decide +kernel⟩
theorem ok_is_name (C : Cst mg) (T : Txt mg) (F : Fun K "is_name" "is_name" s_is_name f fd) : FnOk P w K mg base CX0 1 f fd ["thing"] (spOf K S_name) := by
  refine ok_of F sc_is_name (fun rs M P h => by obtain ⟨a, rfl, _⟩ := h; rfl) fun cdv A outer s H E hr => ⟨_, (pss_cons (ps_if (PW.pt (pw_or (pt_not (pt_val (pe_callB (kcall_isi K) (by rfl) T.isinstance (by decide +kernel) (pa_cons (pv 0) (pa_cons (pe_bltn (v := .ty "str") (by rfl) T.str (by decide +kernel) rfl) pa_nil))))) (pw_or1 (pt_not (pt_chain op_le op_le pe_int (pe_callB call_len_str (by rfl) T.len (by decide +kernel) (pa_cons (pv 0) pa_nil)) (pe_globI rfl C.c_MOST_LETTERS)))))) (pss_one (ps_ret pe_bl)) pss_nil)
      (pss_one (ps_ret (pe_callB (kcr_all K) (by rfl) T.all (by decide +kernel) (pa_cons (pe_lc (own := [("letter", 1)]) (by rfl) sc_is_name.nd (pi_str (pv 0)) (blkOk_by (N := ["thing", "letter"]) (sc := defScope s_is_name) (own := [("letter", 1)]) (by decide +kernel)) (fun _ _ _ _ _ => (pg_name (i := 1) sc_is_name.nd rfl (Or.inl rfl))) (fun _ _ _ _ _ => pts_nil) (fun _ _ _ _ _ => (pe_chain op_le_str op_le_str pe_str (pv 1) pe_str))) pa_nil))))), fun rs M P h => ?_⟩
  obtain ⟨d, rfl, hz, p⟩ := h
  walk_at "d"
  refine dE_ty ?_
  walk_at "d"
  refine dC_isi (kit_str d) ?_
  walk_at "d"
  cases d with
  | str x =>
    refine ifF rfl ?_
    walk_at "d"
    refine dE_chain ?_
    walk_at "d"
    refine dC_lenX (hz x rfl) ?_
    walk_at "d"
    refine dR_I0b ?_
    walk_at "d"
    have p' : P (.d (.bool (decide (1 ≤ x.length) && decide (x.length ≤ 8) && x.cps.toList.all fun c => decide (97 ≤ c) && decide (c ≤ 122)))) M := p
    refine ifB (fun h => ?_) (fun h => ?_)
    · rw [show decide (1 ≤ x.length) = true from decide_eq_true (by have := of_decide_eq_true h; omega), Bool.true_and] at p'
      walk_at "d"
      refine dR_I0b ?_
      walk_at "d"
      refine ifB (fun h2 => ?_) (fun h2 => ?_)
      · have h3 : decide ((x.length : Int) ≤ 8) = false := by simpa using h2
        rw [show decide (x.length ≤ 8) = false from decide_eq_false (by have := of_decide_eq_false h3; omega), Bool.false_and] at p'
        walk_at "d"
        exact p'
      · have h3 : decide ((x.length : Int) ≤ 8) = true := by simpa using h2
        rw [show decide (x.length ≤ 8) = true from decide_eq_true (by have := of_decide_eq_true h3; omega), Bool.true_and] at p'
        walk_at "d"
        have hx8 : x.length ≤ 8 := by have := of_decide_eq_true h3; omega
        refine dE_lcS (gw_name 1) ?_
        walk_at "d"
        refine ⟨x, rfl, Nat.le_trans (show x.cps.size ≤ 8 from hx8) (by decide), fun i acc M' => M' = M ∧ acc = ((x.cps.toList.take i).map fun c => decide (97 ≤ c) && decide (c ≤ 122)).map .bool, ⟨rfl, rfl⟩, fun i c acc M' hc hI => ?_, fun acc M' hI => .inl ?_⟩
        · obtain ⟨rfl, rfl⟩ := hI
          have hnx : ((x.cps.toList.take (i + 1)).map fun c => decide (97 ≤ c) && decide (c ≤ 122)).map PyData.bool = ((x.cps.toList.take i).map fun c => decide (97 ≤ c) && decide (c ≤ 122)).map PyData.bool ++ [.bool (decide (97 ≤ c) && decide (c ≤ 122))] := by
            rw [List.take_succ, Array.getElem?_toList, hc, List.map_append, List.map_append]
            rfl
          walk_at "d"
          refine ifT rfl ?_
          refine dE_chain ?_
          walk_at "d"
          refine dR_ss ?_
          rw [le_one]
          walk_at "d"
          refine ifB (fun k => ?_) (fun k => ?_)
          · walk_at "d"
            refine dR_ss ?_
            rw [one_le]
            refine ⟨_, rfl, rfl, ?_⟩
            rw [hnx, k, Bool.true_and]
          · refine ⟨_, rfl, rfl, ?_⟩
            rw [hnx, k, Bool.false_and]
        · obtain ⟨rfl, rfl⟩ := hI
          rw [show x.cps.size = x.cps.toList.length from Array.length_toList.symm, List.take_length]
          walk_at "d"
          refine dC_all (.inl rfl) ?_
          rw [List.all_map]
          exact rtOf.of p'
    · rw [show decide (1 ≤ x.length) = false from decide_eq_false (by have := of_decide_eq_false h; omega), Bool.false_and, Bool.false_and] at p'
      walk_at "d"
      refine ifT rfl ?_
      walk_at "d"
      exact p'
  | _ =>
    refine ifT rfl ?_
    refine ifT rfl ?_
    walk_at "d"
    exact p
theorem alpha_mem (c : Nat) : decide (c ∈ (Str.ofString "abcdefghijklmnopqrstuvwxyz").cps.toList) = (decide (97 ≤ c) && decide (c ≤ 122)) := by
  rw [show (Str.ofString "abcdefghijklmnopqrstuvwxyz").cps.toList = [97, 98, 99, 100, 101, 102, 103, 104, 105, 106, 107, 108, 109, 110, 111, 112, 113, 114, 115, 116, 117, 118, 119, 120, 121, 122] by decide +kernel]
  rw [Bool.eq_iff_iff, decide_eq_true_iff, Bool.and_eq_true, decide_eq_true_iff, decide_eq_true_iff]
  simp only [List.mem_cons, List.not_mem_nil, or_false]
  omega
def S_lname : SpD := fun rs M P => ∃ d : PyData, rs = [.d d] ∧ (∀ x, d = .str x → x.length ≤ 1000000 ∧ ∀ c ∈ x.cps.toList, PyData.canLay0 (.str ⟨#[c]⟩) = true) ∧ P (.d (.bool (nameB d))) M
abbrev s_law_is_name : Stmt := topS 21
theorem sc_law_is_name : FnScope ["thing", "sign"] ["thing"] (defScope s_law_is_name) := ⟨rfl, rfl, rfl, by decide +kernel, rfl, by decide +kernel, by decide +kernel⟩
theorem ok_law_is_name (T : Txt mg) (F : Fun K "_law_is_name" "_law_is_name" s_law_is_name f fd) : FnOk P w K mg base CX0 1 f fd ["thing"] (spOf K S_lname) := by
  refine ok_of F sc_law_is_name (fun rs M P h => by obtain ⟨a, rfl, _⟩ := h; rfl) fun cdv A outer s H E hr => ⟨_, (pss_cons (ps_if (PW.pt (pw_or (pt_not (pt_val (pe_callB (kcall_isi K) (by rfl) T.isinstance (by decide +kernel) (pa_cons (pv 0) (pa_cons (pe_bltn (v := .ty "str") (by rfl) T.str (by decide +kernel) rfl) pa_nil))))) (pw_or1 (pt_not (pt_chain op_le op_le pe_int (pe_callB call_len_str (by rfl) T.len (by decide +kernel) (pa_cons (pv 0) pa_nil)) pe_int))))) (pss_one (ps_ret pe_bl)) pss_nil)
      (pss_one (ps_ret (pe_cmpR (kop_eqD K hr.units) (pe_lc (own := [("sign", 1)]) (by rfl) sc_law_is_name.nd (pi_str (pv 0)) (blkOk_by (N := ["thing", "sign"]) (sc := defScope s_law_is_name) (own := [("sign", 1)]) (by decide +kernel)) (fun _ _ _ _ _ => (pg_name (i := 1) sc_law_is_name.nd rfl (Or.inl rfl))) (fun _ _ _ _ _ => (pts_one (pt_cmpR op_notInS (pv 1) pe_str (by rfl)))) (fun _ _ _ _ _ => (pv 1))) (pe_lst pa_nil) (nomark _))))), fun rs M P h => ?_⟩
  obtain ⟨d, rfl, hz, p⟩ := h
  walk_at "d"
  refine dE_ty ?_
  walk_at "d"
  refine dC_isi (kit_str d) ?_
  walk_at "d"
  cases d with
  | str x =>
    refine ifF rfl ?_
    walk_at "d"
    refine dE_chain ?_
    walk_at "d"
    refine dC_lenX (hz x rfl).1 ?_
    walk_at "d"
    refine dR_I0b ?_
    walk_at "d"
    have p' : P (.d (.bool (decide (1 ≤ x.length) && decide (x.length ≤ 8) && x.cps.toList.all fun c => decide (97 ≤ c) && decide (c ≤ 122)))) M := p
    refine ifB (fun h => ?_) (fun h => ?_)
    · rw [show decide (1 ≤ x.length) = true from decide_eq_true (by have := of_decide_eq_true h; omega), Bool.true_and] at p'
      walk_at "d"
      refine dR_I0b ?_
      walk_at "d"
      refine ifB (fun h2 => ?_) (fun h2 => ?_)
      · have h3 : decide ((x.length : Int) ≤ 8) = false := by simpa using h2
        rw [show decide (x.length ≤ 8) = false from decide_eq_false (by have := of_decide_eq_false h3; omega), Bool.false_and] at p'
        walk_at "d"
        exact p'
      · have h3 : decide ((x.length : Int) ≤ 8) = true := by simpa using h2
        rw [show decide (x.length ≤ 8) = true from decide_eq_true (by have := of_decide_eq_true h3; omega), Bool.true_and] at p'
        have hx8 : x.length ≤ 8 := by have := of_decide_eq_true h3; omega
        walk_at "d"
        refine dE_lcS (gw_name 1) ?_
        walk_at "d"
        refine ⟨x, rfl, Nat.le_trans (show x.cps.size ≤ 8 from hx8) (by decide), fun i acc M' => M' = M ∧ acc = ((x.cps.toList.take i).filter fun c => !(decide (97 ≤ c) && decide (c ≤ 122))).map fun c => .str ⟨#[c]⟩, ⟨rfl, rfl⟩, fun i c acc M' hc hI => ?_, fun acc M' hI => .inl ?_⟩
        · obtain ⟨rfl, rfl⟩ := hI
          have ht : x.cps.toList.take (i + 1) = x.cps.toList.take i ++ [c] := by rw [List.take_succ, Array.getElem?_toList, hc]; rfl
          walk_at "d"
          refine dR_notInS ?_
          rw [alpha_mem]
          walk_at "d"
          refine ifB (fun k => ?_) (fun k => ?_)
          · walk_at "d"
            refine ⟨rfl, ?_⟩
            rw [ht, List.filter_append, List.map_append, List.filter_cons, if_pos k]
            rfl
          · refine ⟨rfl, ?_⟩
            rw [ht, List.filter_append, List.filter_cons, if_neg (by rw [k]; decide)]
            simp
        · obtain ⟨rfl, rfl⟩ := hI
          rw [show x.cps.size = x.cps.toList.length from Array.length_toList.symm, List.take_length]
          walk_at "d"
          refine dE_lst ?_
          walk_at "d"
          refine dR_eq (d := .list ((x.cps.toList.filter fun c => !(decide (97 ≤ c) && decide (c ≤ 122))).map fun c => .str ⟨#[c]⟩)) (e := .list []) .of .of ?_ rfl ?_
          · unfold SeqAt.shaped
            have all0 : ∀ l : List Nat, (∀ c ∈ l, PyData.canLay0 (.str ⟨#[c]⟩) = true) → PyData.canLayAll0 (l.map fun c => .str ⟨#[c]⟩) = true ∧ PyData.depthAll (l.map fun c => .str ⟨#[c]⟩) = 0 := fun l => by
              induction l with
              | nil => intro _; exact ⟨rfl, rfl⟩
              | cons c l ih =>
                intro h
                obtain ⟨i1, i2⟩ := ih fun c hc => h c (List.mem_cons_of_mem _ hc)
                refine ⟨?_, ?_⟩
                · rw [List.map_cons, PyData.canLayAll0, h c List.mem_cons_self, i1]; rfl
                · rw [List.map_cons, PyData.depthAll, i2]; rfl
            obtain ⟨a1, a2⟩ := all0 (x.cps.toList.filter fun c => !(decide (97 ≤ c) && decide (c ≤ 122))) fun c hc => (hz x rfl).2 c (List.mem_filter.mp hc).1
            rw [PyData.canLay0, a1, PyData.depth, a2]
            rfl
          · have e : PyData.eqv (.list ((x.cps.toList.filter fun c => !(decide (97 ≤ c) && decide (c ≤ 122))).map fun c => .str ⟨#[c]⟩)) (.list []) = x.cps.toList.all fun c => decide (97 ≤ c) && decide (c ≤ 122) := by
              generalize x.cps.toList = l
              induction l with
              | nil => rfl
              | cons c l ih =>
                rw [List.filter_cons, List.all_cons]
                cases k : (decide (97 ≤ c) && decide (c ≤ 122)) with
                | true => simpa using ih
                | false => rfl
            rw [e]
            exact rtOf.of p'
    · rw [show decide (1 ≤ x.length) = false from decide_eq_false (by have := of_decide_eq_false h; omega), Bool.false_and, Bool.false_and] at p'
      walk_at "d"
      refine ifT rfl ?_
      walk_at "d"
      exact p'
  | _ =>
    refine ifT rfl ?_
    refine ifT rfl ?_
    walk_at "d"
    exact p
end
end K2

namespace K2
open PySem L2 Sd Ma
local macro_rules | `(tactic| walk_at "d1") => `(tactic| first
  | ((with_reducible refine' dE_var ?dv ?_); (case dv => rfl))
  | with_reducible refine' dE_int ?_
  | with_reducible refine' dE_str ?_
  | with_reducible refine' dE_bl ?_
  | with_reducible refine' dE_non ?_
  | ((with_reducible refine' dE_nt ?dv ?_); (case dv => assumption))
  | with_reducible refine' dE_ref ?_
  | with_reducible refine' dE_op ?_
  | with_reducible refine' dE_un ?_
  | with_reducible refine' dE_cmp ?_
  | with_reducible refine' dE_isN ?_
  | with_reducible refine' dE_notN ?_
  | with_reducible refine' dE_call ?_
  | with_reducible refine' dE_cb ?_
  | with_reducible refine' dE_kw ?_
  | with_reducible refine' dE_tup ?_
  | with_reducible refine' dE_if ?_
  | with_reducible refine' dE_and ?_
  | with_reducible refine' dE_or ?_
  | with_reducible refine' dE_not ?_
  | with_reducible refine' dE_sl ?_
  | with_reducible refine' dO_none ?_
  | with_reducible refine' dO_some ?_
  | with_reducible refine' dA_cons ?_
  | with_reducible refine' dA_nil ?_
  | with_reducible refine' dT_B ?_
  | with_reducible refine' dT_test ?_
  | with_reducible refine' dT_and ?_
  | with_reducible refine' dT_or ?_
  | with_reducible refine' dT_not ?_
  | with_reducible refine' dT_yes ?_
  | with_reducible refine' dR_I0i ?_
  | with_reducible refine' dU_neg ?_
  | ((with_reducible refine' dR_ixT ?dv ?_); (case dv => rfl))
  | with_reducible refine' dS_seq ?_
  | with_reducible refine' dS_next ?_
  | with_reducible refine' dS_ret ?_
  | with_reducible refine' dS_drop ?_
  | with_reducible refine' dS_if ?_
  | with_reducible refine' dS_asg ?_
  | with_reducible refine' dS_par ?_
  | with_reducible refine' dG_name ?_
  | ((with_reducible refine' dG_tup ?dv ?_); (case dv => rfl); (dsimp only [List.map]))
  | with_reducible refine' dGs_cons ?_
  | with_reducible refine' dGs_nil ?_
  | with_reducible refine' dC_abs ?_
  | with_reducible refine' dC_max2 ?_
  | with_reducible refine' dC_min2 ?_
  | with_reducible refine' rtOf.of ?_
  | with_reducible refine' ex_cmp ?_
  | with_reducible refine' ex_bool ?_
  | with_reducible refine' ex_int ?_
  | with_reducible refine' ex_list ?_
  | with_reducible refine' ex_tup ?_
  | with_reducible refine' ex_d ?_
  | with_reducible refine' ex_m ?_
  | with_reducible refine' ex_par ?_
  | with_reducible refine' ex_rg1 ?_
  | with_reducible refine' ex_rg2 ?_
  | ((with_reducible refine' ex_dat ?dv ?dw ?_); (case dv => rfl); (case dw => exact Nat.le_of_ble_eq_true rfl))
  | ((fail_if_success (with_reducible show ∃ _, _)); (fail_if_success (with_reducible show _ ∧ _)); refine ⟨_, _, rfl, ?_⟩)
  | ((fail_if_success (with_reducible show ∃ _, _)); (fail_if_success (with_reducible show _ ∧ _)); refine ⟨_, rfl, ?_⟩)
  | fail)
local macro_rules | `(tactic| walk_at "d") => `(tactic| repeat' walk_at "d1")
local macro_rules | `(tactic| walk_at "e1") => `(tactic| first
  | ((with_reducible refine' dE_var ?dv ?_); (case dv => rfl))
  | with_reducible refine' dE_int ?_
  | with_reducible refine' dE_str ?_
  | with_reducible refine' dE_bl ?_
  | with_reducible refine' dE_non ?_
  | ((with_reducible refine' dE_nt ?dv ?_); (case dv => assumption))
  | with_reducible refine' dE_ref ?_
  | with_reducible refine' dE_op ?_
  | with_reducible refine' dE_un ?_
  | with_reducible refine' dE_cmp ?_
  | with_reducible refine' dE_isN ?_
  | with_reducible refine' dE_notN ?_
  | with_reducible refine' dE_call ?_
  | with_reducible refine' dE_cb ?_
  | with_reducible refine' dE_kw ?_
  | with_reducible refine' dE_tup ?_
  | with_reducible refine' dE_if ?_
  | with_reducible refine' dE_and ?_
  | with_reducible refine' dE_or ?_
  | with_reducible refine' dE_not ?_
  | with_reducible refine' dE_sl ?_
  | with_reducible refine' dO_none ?_
  | with_reducible refine' dO_some ?_
  | with_reducible refine' dA_cons ?_
  | with_reducible refine' dA_nil ?_
  | with_reducible refine' dT_B ?_
  | with_reducible refine' dT_test ?_
  | with_reducible refine' dT_and ?_
  | with_reducible refine' dT_or ?_
  | with_reducible refine' dT_not ?_
  | with_reducible refine' dT_yes ?_
  | with_reducible refine' dR_I0i ?_
  | with_reducible refine' dU_neg ?_
  | ((with_reducible refine' dR_ixT ?dv ?_); (case dv => rfl))
  | with_reducible refine' dS_next ?_
  | with_reducible refine' dS_ret ?_
  | with_reducible refine' dS_drop ?_
  | with_reducible refine' dS_if ?_
  | with_reducible refine' dS_asg ?_
  | with_reducible refine' dS_par ?_
  | with_reducible refine' dG_name ?_
  | ((with_reducible refine' dG_tup ?dv ?_); (case dv => rfl); (dsimp only [List.map]))
  | with_reducible refine' dGs_cons ?_
  | with_reducible refine' dGs_nil ?_
  | with_reducible refine' dC_abs ?_
  | with_reducible refine' dC_max2 ?_
  | with_reducible refine' dC_min2 ?_
  | with_reducible refine' rtOf.of ?_
  | with_reducible refine' ex_cmp ?_
  | with_reducible refine' ex_bool ?_
  | with_reducible refine' ex_int ?_
  | with_reducible refine' ex_list ?_
  | with_reducible refine' ex_tup ?_
  | with_reducible refine' ex_d ?_
  | with_reducible refine' ex_m ?_
  | with_reducible refine' ex_par ?_
  | with_reducible refine' ex_rg1 ?_
  | with_reducible refine' ex_rg2 ?_
  | ((with_reducible refine' ex_dat ?dv ?dw ?_); (case dv => rfl); (case dw => exact Nat.le_of_ble_eq_true rfl))
  | ((fail_if_success (with_reducible show ∃ _, _)); (fail_if_success (with_reducible show _ ∧ _)); refine ⟨_, _, rfl, ?_⟩)
  | ((fail_if_success (with_reducible show ∃ _, _)); (fail_if_success (with_reducible show _ ∧ _)); refine ⟨_, rfl, ?_⟩)
  | fail)
local macro_rules | `(tactic| walk_at "e") => `(tactic| repeat' walk_at "e1")

/-- a fraction -/
def fracB : PyData → Bool
  | .tuple [.int t, .int b] => decide (0 ≤ t) && (decide (1 ≤ b) && decide (Int.gcd t b = 1))
  | _ => false
theorem frac_len : ∀ {ds : List PyData}, ds.length ≠ 2 → fracB (.tuple ds) = false
  | [], _ => rfl
  | [x], _ => by cases x <;> rfl
  | [_, _], h => absurd rfl h
  | x :: y :: _ :: _, _ => by cases x <;> first | rfl | (cases y <;> rfl)
theorem frac_two {x y : PyData} (h : isI x = false ∨ isI y = false) : fracB (.tuple [x, y]) = false := by
  unfold fracB
  split
  · rename_i e
    cases e
    rcases h with h | h <;> cases h
  · rfl
section
variable {P : Program} {w : World} {K : PySem.W.Frag} {mg : Str → Option Value} {base : Heap} {f : Addr} {fd : FuncData}
def S_frac : SpD := fun rs M P => ∃ d : PyData, rs = [.d d] ∧ (∀ ds, d = .tuple ds → ds.length ≤ 1000000) ∧ P (.d (.bool (fracB d))) M
abbrev s_is_fraction : Stmt := topS 4
theorem sc_is_fraction : FnScope ["thing", "top", "bottom"] ["thing"] (defScope s_is_fraction) := ⟨rfl, rfl, rfl, by decide +kernel, rfl, by decide +kernel, by decide +kernel⟩
theorem ok_is_fraction (T : Txt mg) (F : Fun K "is_fraction" "is_fraction" s_is_fraction f fd) (c_is_whole : Has P w K mg base 1 "is_whole" ["thing"] S_isI) (c_common_divisor : Has P w K mg base 1 "common_divisor" ["one", "other"] S_cd) : FnOk P w K mg base CX0 2 f fd ["thing"] (spOf K S_frac) := by
  refine ok_of F sc_is_fraction (fun rs M P h => by obtain ⟨a, rfl, _⟩ := h; rfl) fun cdv A outer s H E hr => ⟨_, (pss_cons (ps_if (PW.pt (pw_or (pt_not (pt_val (pe_callB (kcall_isi K) (by rfl) T.isinstance (by decide +kernel) (pa_cons (pv 0) (pa_cons (pe_bltn (v := .ty "tuple") (by rfl) T.tuple (by decide +kernel) rfl) pa_nil))))) (pw_or1 (pt_cmp (pc_neI (pe_callB (kcall_len K) (by rfl) T.len (by decide +kernel) (pa_cons (pv 0) pa_nil)) pe_int))))) (pss_one (ps_ret pe_bl)) pss_nil)
      (pss_cons (ps_asg (pv 0) (kpg_tup K (n := 2) rfl (pgs_cons (pg_name (i := 1) sc_is_fraction.nd rfl (Or.inl rfl)) (pgs_cons (pg_name (i := 2) sc_is_fraction.nd rfl (Or.inl rfl)) pgs_nil))))
      (pss_cons (ps_if (PW.pt (pw_or (pt_not (pt_val (pe_callH' c_is_whole (hr.mono (by first | decide | omega)) rfl (pa_cons (pv 1) pa_nil)))) (pw_or1 (pt_not (pt_val (pe_callH' c_is_whole (hr.mono (by first | decide | omega)) rfl (pa_cons (pv 2) pa_nil))))))) (pss_one (ps_ret pe_bl)) pss_nil)
      (pss_one (ps_ret (pe_and (pe_cmp (pc_ge (pv 1) pe_int)) (pe_and (pe_cmp (pc_ge (pv 2) pe_int)) (pe_one (pe_cmp (pc_eqI (pe_callH' c_common_divisor (hr.mono (by first | decide | omega)) rfl (pa_cons (pv 1) (pa_cons (pv 2) pa_nil))) pe_int)))))))))), fun rs M P h => ?_⟩
  obtain ⟨d, rfl, hz, p⟩ := h
  walk_at "d"
  refine dE_ty ?_
  walk_at "d"
  refine dC_isi (kit_tup d) ?_
  walk_at "d"
  cases d with
  | tuple ds =>
    refine ifF rfl ?_
    walk_at "d"
    refine dC_len (ds := ds) (.inr (.inl rfl)) ?_
    walk_at "d"
    by_cases hl : ds.length = 2
    · match ds, hl with
      | [x, y], _ =>
        refine ifF (show (!decide (((2 : Nat) : Int) = 2)) = false by decide) ?_
        walk_at "d"
        refine ifB (fun h1 => ?_) (fun h1 => ?_)
        · refine ifT rfl ?_
          walk_at "d"
          rw [frac_two (.inl (by simpa using h1))] at p
          exact p
        · walk_at "d"
          refine ifB (fun h2 => ?_) (fun h2 => ?_)
          · walk_at "d"
            rw [frac_two (.inr (by simpa using h2))] at p
            exact p
          · have i1 : isI x = true := by simpa using h1
            have i2 : isI y = true := by simpa using h2
            cases x with
            | int t =>
              cases y with
              | int b =>
                have p' : P (.d (.bool (decide (0 ≤ t) && (decide (1 ≤ b) && decide (Int.gcd t b = 1))))) M := p
                walk_at "d"
                refine ifB (fun h3 => ?_) (fun h3 => ?_)
                · rw [h3, Bool.true_and] at p'
                  walk_at "d"
                  refine ifB (fun h4 => ?_) (fun h4 => ?_)
                  · rw [h4, Bool.true_and] at p'
                    walk_at "d"
                    refine ⟨of_decide_eq_true h3, by have := of_decide_eq_true h4; omega, ?_⟩
                    walk_at "d"
                    rw [show decide (((Int.gcd t b : Nat) : Int) = 1) = decide (Int.gcd t b = 1) by
                      rw [Bool.eq_iff_iff, decide_eq_true_iff, decide_eq_true_iff]; omega]
                    exact p'
                  · rw [h4, Bool.false_and] at p'
                    exact rtOf.of p'
                · rw [h3, Bool.false_and] at p'
                  exact rtOf.of p'
              | _ => cases i2
            | _ => cases i1
    · refine ifT (by rw [decide_eq_false (by omega)]; rfl) ?_
      walk_at "d"
      rw [frac_len hl] at p
      exact p
  | _ =>
    refine ifT rfl ?_
    refine ifT rfl ?_
    walk_at "d"
    exact p
end
end K2

namespace K2
open PySem L2 Sd Ma
local macro_rules | `(tactic| walk_at "d1") => `(tactic| first
  | ((with_reducible refine' dE_var ?dv ?_); (case dv => rfl))
  | with_reducible refine' dE_int ?_
  | with_reducible refine' dE_str ?_
  | with_reducible refine' dE_bl ?_
  | with_reducible refine' dE_non ?_
  | ((with_reducible refine' dE_nt ?dv ?_); (case dv => assumption))
  | with_reducible refine' dE_ref ?_
  | with_reducible refine' dE_op ?_
  | with_reducible refine' dE_un ?_
  | with_reducible refine' dE_cmp ?_
  | with_reducible refine' dE_isN ?_
  | with_reducible refine' dE_notN ?_
  | with_reducible refine' dE_call ?_
  | with_reducible refine' dE_cb ?_
  | with_reducible refine' dE_kw ?_
  | with_reducible refine' dE_tup ?_
  | with_reducible refine' dE_if ?_
  | with_reducible refine' dE_and ?_
  | with_reducible refine' dE_or ?_
  | with_reducible refine' dE_not ?_
  | with_reducible refine' dE_sl ?_
  | with_reducible refine' dO_none ?_
  | with_reducible refine' dO_some ?_
  | with_reducible refine' dA_cons ?_
  | with_reducible refine' dA_nil ?_
  | with_reducible refine' dT_B ?_
  | with_reducible refine' dT_test ?_
  | with_reducible refine' dT_and ?_
  | with_reducible refine' dT_or ?_
  | with_reducible refine' dT_not ?_
  | with_reducible refine' dT_yes ?_
  | with_reducible refine' dR_I0i ?_
  | with_reducible refine' dU_neg ?_
  | ((with_reducible refine' dR_ixT ?dv ?_); (case dv => rfl))
  | with_reducible refine' dS_seq ?_
  | with_reducible refine' dS_next ?_
  | with_reducible refine' dS_ret ?_
  | with_reducible refine' dS_drop ?_
  | with_reducible refine' dS_if ?_
  | with_reducible refine' dS_asg ?_
  | with_reducible refine' dS_par ?_
  | with_reducible refine' dG_name ?_
  | ((with_reducible refine' dG_tup ?dv ?_); (case dv => rfl); (dsimp only [List.map]))
  | with_reducible refine' dGs_cons ?_
  | with_reducible refine' dGs_nil ?_
  | with_reducible refine' dC_abs ?_
  | with_reducible refine' dC_max2 ?_
  | with_reducible refine' dC_min2 ?_
  | with_reducible refine' rtOf.of ?_
  | with_reducible refine' ex_cmp ?_
  | with_reducible refine' ex_bool ?_
  | with_reducible refine' ex_int ?_
  | with_reducible refine' ex_list ?_
  | with_reducible refine' ex_tup ?_
  | with_reducible refine' ex_d ?_
  | with_reducible refine' ex_m ?_
  | with_reducible refine' ex_par ?_
  | with_reducible refine' ex_rg1 ?_
  | with_reducible refine' ex_rg2 ?_
  | ((with_reducible refine' ex_dat ?dv ?dw ?_); (case dv => rfl); (case dw => exact Nat.le_of_ble_eq_true rfl))
  | ((fail_if_success (with_reducible show ∃ _, _)); (fail_if_success (with_reducible show _ ∧ _)); refine ⟨_, _, rfl, ?_⟩)
  | ((fail_if_success (with_reducible show ∃ _, _)); (fail_if_success (with_reducible show _ ∧ _)); refine ⟨_, rfl, ?_⟩)
  | fail)
local macro_rules | `(tactic| walk_at "d") => `(tactic| repeat' walk_at "d1")
local macro_rules | `(tactic| walk_at "e1") => `(tactic| first
  | ((with_reducible refine' dE_var ?dv ?_); (case dv => rfl))
  | with_reducible refine' dE_int ?_
  | with_reducible refine' dE_str ?_
  | with_reducible refine' dE_bl ?_
  | with_reducible refine' dE_non ?_
  | ((with_reducible refine' dE_nt ?dv ?_); (case dv => assumption))
  | with_reducible refine' dE_ref ?_
  | with_reducible refine' dE_op ?_
  | with_reducible refine' dE_un ?_
  | with_reducible refine' dE_cmp ?_
  | with_reducible refine' dE_isN ?_
  | with_reducible refine' dE_notN ?_
  | with_reducible refine' dE_call ?_
  | with_reducible refine' dE_cb ?_
  | with_reducible refine' dE_kw ?_
  | with_reducible refine' dE_tup ?_
  | with_reducible refine' dE_if ?_
  | with_reducible refine' dE_and ?_
  | with_reducible refine' dE_or ?_
  | with_reducible refine' dE_not ?_
  | with_reducible refine' dE_sl ?_
  | with_reducible refine' dO_none ?_
  | with_reducible refine' dO_some ?_
  | with_reducible refine' dA_cons ?_
  | with_reducible refine' dA_nil ?_
  | with_reducible refine' dT_B ?_
  | with_reducible refine' dT_test ?_
  | with_reducible refine' dT_and ?_
  | with_reducible refine' dT_or ?_
  | with_reducible refine' dT_not ?_
  | with_reducible refine' dT_yes ?_
  | with_reducible refine' dR_I0i ?_
  | with_reducible refine' dU_neg ?_
  | ((with_reducible refine' dR_ixT ?dv ?_); (case dv => rfl))
  | with_reducible refine' dS_next ?_
  | with_reducible refine' dS_ret ?_
  | with_reducible refine' dS_drop ?_
  | with_reducible refine' dS_if ?_
  | with_reducible refine' dS_asg ?_
  | with_reducible refine' dS_par ?_
  | with_reducible refine' dG_name ?_
  | ((with_reducible refine' dG_tup ?dv ?_); (case dv => rfl); (dsimp only [List.map]))
  | with_reducible refine' dGs_cons ?_
  | with_reducible refine' dGs_nil ?_
  | with_reducible refine' dC_abs ?_
  | with_reducible refine' dC_max2 ?_
  | with_reducible refine' dC_min2 ?_
  | with_reducible refine' rtOf.of ?_
  | with_reducible refine' ex_cmp ?_
  | with_reducible refine' ex_bool ?_
  | with_reducible refine' ex_int ?_
  | with_reducible refine' ex_list ?_
  | with_reducible refine' ex_tup ?_
  | with_reducible refine' ex_d ?_
  | with_reducible refine' ex_m ?_
  | with_reducible refine' ex_par ?_
  | with_reducible refine' ex_rg1 ?_
  | with_reducible refine' ex_rg2 ?_
  | ((with_reducible refine' ex_dat ?dv ?dw ?_); (case dv => rfl); (case dw => exact Nat.le_of_ble_eq_true rfl))
  | ((fail_if_success (with_reducible show ∃ _, _)); (fail_if_success (with_reducible show _ ∧ _)); refine ⟨_, _, rfl, ?_⟩)
  | ((fail_if_success (with_reducible show ∃ _, _)); (fail_if_success (with_reducible show _ ∧ _)); refine ⟨_, rfl, ?_⟩)
  | fail)
local macro_rules | `(tactic| walk_at "e") => `(tactic| repeat' walk_at "e1")

/-- data as the law makes it, n times spoilt: bounded -/
inductive Gn (n : Nat) : PyData → Prop
  | non : Gn n .none
  | bool (b : Bool) : Gn n (.bool b)
  | int (i : Int) : Sz (200 + n) i → Gn n (.int i)
  | str (x : Str) : x.length ≤ 2000 * 2 ^ n → (∀ c ∈ x.cps.toList, c < 128) → Gn n (.str x)
  | list (ds : List PyData) : ds.length ≤ 10 + n → (∀ d ∈ ds, Gn n d) → Gn n (.list ds)
  | tuple (ds : List PyData) : ds.length ≤ 10 + n → (∀ d ∈ ds, Gn n d) → Gn n (.tuple ds)
def Gd (d : PyData) : Prop := ∃ n, n ≤ 8 ∧ Gn n d ∧ d.depth ≤ 20
theorem depth_mem : ∀ {ds : List PyData} {d : PyData}, d ∈ ds → d.depth ≤ PyData.depthAll ds
  | e :: ds, d, h => by
    rw [PyData.depthAll]
    rcases List.mem_cons.mp h with rfl | h
    · omega
    · have := depth_mem h; omega
theorem ascii_lay {x : Str} (h : ∀ c ∈ x.cps.toList, c < 128) : PyData.canLay0 (.str x) = true := by
  rw [PyData.canLay0]
  show x.cps.all (fun c => decide (c < 0x110000)) = true
  rw [Array.all_eq_true_iff_forall_mem]
  intro c hc
  have := h c (Array.mem_toList_iff.mpr hc)
  exact decide_eq_true (by omega)
theorem Gd.str' {x : Str} (h : Gd (.str x)) : x.length ≤ 1000000 ∧ ∀ c ∈ x.cps.toList, PyData.canLay0 (.str ⟨#[c]⟩) = true := by
  obtain ⟨n, hn, h, _⟩ := h
  cases h with
  | str _ h1 h2 =>
    refine ⟨?_, fun c hc => ?_⟩
    · have : 2 ^ n ≤ 2 ^ 8 := Nat.pow_le_pow_right (by decide) hn
      omega
    · refine ascii_lay fun k hk => ?_
      obtain rfl : k = c := List.mem_singleton.mp hk
      exact h2 k hc
theorem Gd.tup' {ds : List PyData} (h : Gd (.tuple ds)) : ds.length ≤ 1000 ∧ ∀ d ∈ ds, Gd d := by
  obtain ⟨n, hn, h, hd⟩ := h
  rw [PyData.depth] at hd
  cases h with
  | tuple _ h1 h2 => exact ⟨by omega, fun d hm => ⟨n, hn, h2 d hm, by have := depth_mem hm; omega⟩⟩
theorem Gd.name {d : PyData} (h : Gd d) : ∀ x, d = .str x → x.length ≤ 1000000 := fun x e => by subst e; exact h.str'.1
theorem Gd.lname {d : PyData} (h : Gd d) : ∀ x, d = .str x → x.length ≤ 1000000 ∧ ∀ c ∈ x.cps.toList, PyData.canLay0 (.str ⟨#[c]⟩) = true := fun x e => by subst e; exact h.str'
theorem Gd.len {d : PyData} (h : Gd d) : ∀ ds, d = .tuple ds → ds.length ≤ 1000000 := fun ds e => by subst e; have := h.tup'.1; omega
def ropeB : PyData → Bool
  | .tuple [n, a, b, c] => nameB n && (inB 0 1000 a && (inB 1 100 b && inB 1 1000000 c))
  | _ => false
theorem rope_len : ∀ {ds : List PyData}, ds.length ≠ 4 → ropeB (.tuple ds) = false
  | [], _ => rfl
  | [_], _ => rfl
  | [_, _], _ => rfl
  | [_, _, _], _ => rfl
  | [_, _, _, _], h => absurd rfl h
  | _ :: _ :: _ :: _ :: _ :: _, _ => rfl
section
variable {P : Program} {w : World} {K : PySem.W.Frag} {mg : Str → Option Value} {base : Heap} {f : Addr} {fd : FuncData}
def S_isload : SpD := fun rs M P => ∃ d : PyData, rs = [.d d] ∧ Gd d ∧ P (.d (.bool (fracB d))) M
abbrev s_is_load : Stmt := topS 12
theorem sc_is_load : FnScope ["thing"] ["thing"] (defScope s_is_load) := ⟨rfl, rfl, rfl, by decide +kernel, rfl, by decide +kernel, by decide +kernel⟩
theorem ok_is_load (F : Fun K "is_load" "is_load" s_is_load f fd) (c_is_fraction : Has P w K mg base 2 "is_fraction" ["thing"] S_frac) : FnOk P w K mg base CX0 3 f fd ["thing"] (spOf K S_isload) := by
  refine ok_of F sc_is_load (fun rs M P h => by obtain ⟨a, rfl, _⟩ := h; rfl) fun cdv A outer s H E hr => ⟨_, (pss_one (ps_ret (pe_callH' c_is_fraction (hr.mono (by first | decide | omega)) rfl (pa_cons (pv 0) pa_nil)))), fun rs M P h => ?_⟩
  obtain ⟨d, rfl, hd, p⟩ := h
  walk_at "d"
  exact ⟨hd.len, rtOf.of p⟩
def S_isrope : SpD := fun rs M P => ∃ d : PyData, rs = [.d d] ∧ Gd d ∧ P (.d (.bool (ropeB d))) M
abbrev s_is_rope : Stmt := topS 13
theorem sc_is_rope : FnScope ["thing", "name", "slack", "stiff", "strong"] ["thing"] (defScope s_is_rope) := ⟨rfl, rfl, rfl, by decide +kernel, rfl, by decide +kernel, by decide +kernel⟩
theorem ok_is_rope (C : Cst mg) (T : Txt mg) (F : Fun K "is_rope" "is_rope" s_is_rope f fd) (c_is_name : Has P w K mg base 1 "is_name" ["thing"] S_name) (c_is_within : Has P w K mg base 2 "is_within" ["thing", "least", "most"] S_inB) : FnOk P w K mg base CX0 3 f fd ["thing"] (spOf K S_isrope) := by
  refine ok_of F sc_is_rope (fun rs M P h => by obtain ⟨a, rfl, _⟩ := h; rfl) fun cdv A outer s H E hr => ⟨_, (pss_cons (ps_if (PW.pt (pw_or (pt_not (pt_val (pe_callB (kcall_isi K) (by rfl) T.isinstance (by decide +kernel) (pa_cons (pv 0) (pa_cons (pe_bltn (v := .ty "tuple") (by rfl) T.tuple (by decide +kernel) rfl) pa_nil))))) (pw_or1 (pt_cmp (pc_neI (pe_callB (kcall_len K) (by rfl) T.len (by decide +kernel) (pa_cons (pv 0) pa_nil)) pe_int))))) (pss_one (ps_ret pe_bl)) pss_nil)
      (pss_cons (ps_asg (pv 0) (kpg_tup K (n := 4) rfl (pgs_cons (pg_name (i := 1) sc_is_rope.nd rfl (Or.inl rfl)) (pgs_cons (pg_name (i := 2) sc_is_rope.nd rfl (Or.inl rfl)) (pgs_cons (pg_name (i := 3) sc_is_rope.nd rfl (Or.inl rfl)) (pgs_cons (pg_name (i := 4) sc_is_rope.nd rfl (Or.inl rfl)) pgs_nil))))))
      (pss_cons (ps_if (PW.pt (pw_or (pt_not (pt_val (pe_callH' c_is_name (hr.mono (by first | decide | omega)) rfl (pa_cons (pv 1) pa_nil)))) (pw_or1 (pt_not (pt_val (pe_callH' c_is_within (hr.mono (by first | decide | omega)) rfl (pa_cons (pv 2) (pa_cons pe_int (pa_cons (pe_globI rfl C.c_MOST_SLACK) pa_nil))))))))) (pss_one (ps_ret pe_bl)) pss_nil)
      (pss_one (ps_ret (pe_and (pe_callH' c_is_within (hr.mono (by first | decide | omega)) rfl (pa_cons (pv 3) (pa_cons pe_int (pa_cons (pe_globI rfl C.c_MOST_STIFF) pa_nil)))) (pe_one (pe_callH' c_is_within (hr.mono (by first | decide | omega)) rfl (pa_cons (pv 4) (pa_cons pe_int (pa_cons (pe_globI rfl C.c_MOST_STRONG) pa_nil))))))))))), fun rs M P h => ?_⟩
  obtain ⟨d, rfl, hd, p⟩ := h
  walk_at "d"
  refine dE_ty ?_
  walk_at "d"
  refine dC_isi (kit_tup d) ?_
  walk_at "d"
  cases d with
  | tuple ds =>
    refine ifF rfl ?_
    walk_at "d"
    refine dC_len (ds := ds) (.inr (.inl rfl)) ?_
    walk_at "d"
    by_cases hl : ds.length = 4
    · match ds, hl with
      | [n, a, b, c], _ =>
        have p' : P (.d (.bool (nameB n && (inB 0 1000 a && (inB 1 100 b && inB 1 1000000 c))))) M := p
        have hn : Gd n := hd.tup'.2 n List.mem_cons_self
        refine ifF (show (!decide (((4 : Nat) : Int) = 4)) = false by decide) ?_
        walk_at "d"
        refine ⟨hn.name, ?_⟩
        walk_at "d"
        refine ifB (fun h1 => ?_) (fun h1 => ?_)
        · refine ifT rfl ?_
          walk_at "d"
          rw [show nameB n = false by simpa using h1, Bool.false_and] at p'
          exact p'
        · rw [show nameB n = true by simpa using h1, Bool.true_and] at p'
          walk_at "d"
          refine ⟨a, 0, 1000, rfl, ?_⟩
          walk_at "d"
          refine ifB (fun h2 => ?_) (fun h2 => ?_)
          · walk_at "d"
            rw [show inB 0 1000 a = false by simpa using h2, Bool.false_and] at p'
            exact p'
          · rw [show inB 0 1000 a = true by simpa using h2, Bool.true_and] at p'
            walk_at "d"
            refine ⟨b, 1, 100, rfl, ?_⟩
            walk_at "d"
            refine ifB (fun h3 => ?_) (fun h3 => ?_)
            · rw [h3, Bool.true_and] at p'
              walk_at "d"
              exact ⟨c, 1, 1000000, rfl, rtOf.of p'⟩
            · rw [h3, Bool.false_and] at p'
              exact rtOf.of p'
    · refine ifT (by rw [decide_eq_false (by omega)]; rfl) ?_
      walk_at "d"
      rw [rope_len hl] at p
      exact p
  | _ =>
    refine ifT rfl ?_
    refine ifT rfl ?_
    walk_at "d"
    exact p
abbrev s_law_is_rope : Stmt := topS 28
theorem sc_law_is_rope : FnScope ["thing"] ["thing"] (defScope s_law_is_rope) := ⟨rfl, rfl, rfl, by decide +kernel, rfl, by decide +kernel, by decide +kernel⟩
theorem ok_law_is_rope (T : Txt mg) (F : Fun K "_law_is_rope" "_law_is_rope" s_law_is_rope f fd) (c_law_is_name : Has P w K mg base 1 "_law_is_name" ["thing"] S_lname) (c_law_within : Has P w K mg base 1 "_law_within" ["thing", "least", "most"] S_inB) : FnOk P w K mg base CX0 2 f fd ["thing"] (spOf K S_isrope) := by
  refine ok_of F sc_law_is_rope (fun rs M P h => by obtain ⟨a, rfl, _⟩ := h; rfl) fun cdv A outer s H E hr => ⟨_, (pss_cons (ps_if (PW.pt (pw_or (pt_not (pt_val (pe_callB (kcall_isi K) (by rfl) T.isinstance (by decide +kernel) (pa_cons (pv 0) (pa_cons (pe_bltn (v := .ty "tuple") (by rfl) T.tuple (by decide +kernel) rfl) pa_nil))))) (pw_or (pt_cmp (pc_neI (pe_callB (kcall_len K) (by rfl) T.len (by decide +kernel) (pa_cons (pv 0) pa_nil)) pe_int)) (pw_or1 (pt_not (pt_val (pe_callH' c_law_is_name (hr.mono (by first | decide | omega)) rfl (pa_cons (pe_ix (kix_tup K) (pv 0) pe_int (fun _ _ => rfl)) pa_nil)))))))) (pss_one (ps_ret pe_bl)) pss_nil)
      (pss_cons (ps_if (PW.pt (pw_or (pt_not (pt_val (pe_callH' c_law_within (hr.mono (by first | decide | omega)) rfl (pa_cons (pe_ix (kix_tup K) (pv 0) pe_int (fun _ _ => rfl)) (pa_cons pe_int (pa_cons pe_int pa_nil)))))) (pw_or1 (pt_not (pt_val (pe_callH' c_law_within (hr.mono (by first | decide | omega)) rfl (pa_cons (pe_ix (kix_tup K) (pv 0) pe_int (fun _ _ => rfl)) (pa_cons pe_int (pa_cons pe_int pa_nil))))))))) (pss_one (ps_ret pe_bl)) pss_nil)
      (pss_one (ps_ret (pe_callH' c_law_within (hr.mono (by first | decide | omega)) rfl (pa_cons (pe_ix (kix_tup K) (pv 0) pe_int (fun _ _ => rfl)) (pa_cons pe_int (pa_cons pe_int pa_nil)))))))), fun rs M P h => ?_⟩
  obtain ⟨d, rfl, hd, p⟩ := h
  walk_at "d"
  refine dE_ty ?_
  walk_at "d"
  refine dC_isi (kit_tup d) ?_
  walk_at "d"
  cases d with
  | tuple ds =>
    refine ifF rfl ?_
    walk_at "d"
    refine dC_len (ds := ds) (.inr (.inl rfl)) ?_
    walk_at "d"
    by_cases hl : ds.length = 4
    · match ds, hl with
      | [n, a, b, c], _ =>
        have p' : P (.d (.bool (nameB n && (inB 0 1000 a && (inB 1 100 b && inB 1 1000000 c))))) M := p
        have hn : Gd n := hd.tup'.2 n List.mem_cons_self
        refine ifF (show (!decide (((4 : Nat) : Int) = 4)) = false by decide) ?_
        walk_at "d"
        refine ⟨hn.lname, ?_⟩
        walk_at "d"
        refine ifB (fun h1 => ?_) (fun h1 => ?_)
        · walk_at "d"
          rw [show nameB n = false by simpa using h1, Bool.false_and] at p'
          exact p'
        · rw [show nameB n = true by simpa using h1, Bool.true_and] at p'
          walk_at "d"
          refine ⟨a, 0, 1000, rfl, ?_⟩
          walk_at "d"
          refine ifB (fun h2 => ?_) (fun h2 => ?_)
          · refine ifT rfl ?_
            walk_at "d"
            rw [show inB 0 1000 a = false by simpa using h2, Bool.false_and] at p'
            exact p'
          · rw [show inB 0 1000 a = true by simpa using h2, Bool.true_and] at p'
            walk_at "d"
            refine ⟨b, 1, 100, rfl, ?_⟩
            walk_at "d"
            refine ifB (fun h3 => ?_) (fun h3 => ?_)
            · walk_at "d"
              rw [show inB 1 100 b = false by simpa using h3, Bool.false_and] at p'
              exact p'
            · rw [show inB 1 100 b = true by simpa using h3, Bool.true_and] at p'
              walk_at "d"
              exact ⟨c, 1, 1000000, rfl, rtOf.of p'⟩
    · refine ifT (by rw [decide_eq_false (by omega)]; rfl) ?_
      refine ifT rfl ?_
      walk_at "d"
      rw [rope_len hl] at p
      exact p
  | _ =>
    refine ifT rfl ?_
    refine ifT rfl ?_
    walk_at "d"
    exact p
end
end K2

namespace K2
open PySem L2 Sd Ma
local macro_rules | `(tactic| walk_at "d1") => `(tactic| first
  | ((with_reducible refine' dE_var ?dv ?_); (case dv => rfl))
  | with_reducible refine' dE_int ?_
  | with_reducible refine' dE_str ?_
  | with_reducible refine' dE_bl ?_
  | with_reducible refine' dE_non ?_
  | ((with_reducible refine' dE_nt ?dv ?_); (case dv => assumption))
  | with_reducible refine' dE_ref ?_
  | with_reducible refine' dE_op ?_
  | with_reducible refine' dE_un ?_
  | with_reducible refine' dE_cmp ?_
  | with_reducible refine' dE_isN ?_
  | with_reducible refine' dE_notN ?_
  | with_reducible refine' dE_call ?_
  | with_reducible refine' dE_cb ?_
  | with_reducible refine' dE_kw ?_
  | with_reducible refine' dE_tup ?_
  | with_reducible refine' dE_if ?_
  | with_reducible refine' dE_and ?_
  | with_reducible refine' dE_or ?_
  | with_reducible refine' dE_not ?_
  | with_reducible refine' dE_sl ?_
  | with_reducible refine' dO_none ?_
  | with_reducible refine' dO_some ?_
  | with_reducible refine' dA_cons ?_
  | with_reducible refine' dA_nil ?_
  | with_reducible refine' dT_B ?_
  | with_reducible refine' dT_test ?_
  | with_reducible refine' dT_and ?_
  | with_reducible refine' dT_or ?_
  | with_reducible refine' dT_not ?_
  | with_reducible refine' dT_yes ?_
  | with_reducible refine' dR_I0i ?_
  | with_reducible refine' dU_neg ?_
  | ((with_reducible refine' dR_ixT ?dv ?_); (case dv => rfl))
  | with_reducible refine' dS_seq ?_
  | with_reducible refine' dS_next ?_
  | with_reducible refine' dS_ret ?_
  | with_reducible refine' dS_drop ?_
  | with_reducible refine' dS_if ?_
  | with_reducible refine' dS_asg ?_
  | with_reducible refine' dS_par ?_
  | with_reducible refine' dG_name ?_
  | ((with_reducible refine' dG_tup ?dv ?_); (case dv => rfl); (dsimp only [List.map]))
  | with_reducible refine' dGs_cons ?_
  | with_reducible refine' dGs_nil ?_
  | with_reducible refine' dC_abs ?_
  | with_reducible refine' dC_max2 ?_
  | with_reducible refine' dC_min2 ?_
  | with_reducible refine' rtOf.of ?_
  | with_reducible refine' ex_cmp ?_
  | with_reducible refine' ex_bool ?_
  | with_reducible refine' ex_int ?_
  | with_reducible refine' ex_list ?_
  | with_reducible refine' ex_tup ?_
  | with_reducible refine' ex_d ?_
  | with_reducible refine' ex_m ?_
  | with_reducible refine' ex_par ?_
  | with_reducible refine' ex_rg1 ?_
  | with_reducible refine' ex_rg2 ?_
  | ((with_reducible refine' ex_dat ?dv ?dw ?_); (case dv => rfl); (case dw => exact Nat.le_of_ble_eq_true rfl))
  | ((fail_if_success (with_reducible show ∃ _, _)); (fail_if_success (with_reducible show _ ∧ _)); refine ⟨_, _, rfl, ?_⟩)
  | ((fail_if_success (with_reducible show ∃ _, _)); (fail_if_success (with_reducible show _ ∧ _)); refine ⟨_, rfl, ?_⟩)
  | fail)
local macro_rules | `(tactic| walk_at "d") => `(tactic| repeat' walk_at "d1")
local macro_rules | `(tactic| walk_at "e1") => `(tactic| first
  | ((with_reducible refine' dE_var ?dv ?_); (case dv => rfl))
  | with_reducible refine' dE_int ?_
  | with_reducible refine' dE_str ?_
  | with_reducible refine' dE_bl ?_
  | with_reducible refine' dE_non ?_
  | ((with_reducible refine' dE_nt ?dv ?_); (case dv => assumption))
  | with_reducible refine' dE_ref ?_
  | with_reducible refine' dE_op ?_
  | with_reducible refine' dE_un ?_
  | with_reducible refine' dE_cmp ?_
  | with_reducible refine' dE_isN ?_
  | with_reducible refine' dE_notN ?_
  | with_reducible refine' dE_call ?_
  | with_reducible refine' dE_cb ?_
  | with_reducible refine' dE_kw ?_
  | with_reducible refine' dE_tup ?_
  | with_reducible refine' dE_if ?_
  | with_reducible refine' dE_and ?_
  | with_reducible refine' dE_or ?_
  | with_reducible refine' dE_not ?_
  | with_reducible refine' dE_sl ?_
  | with_reducible refine' dO_none ?_
  | with_reducible refine' dO_some ?_
  | with_reducible refine' dA_cons ?_
  | with_reducible refine' dA_nil ?_
  | with_reducible refine' dT_B ?_
  | with_reducible refine' dT_test ?_
  | with_reducible refine' dT_and ?_
  | with_reducible refine' dT_or ?_
  | with_reducible refine' dT_not ?_
  | with_reducible refine' dT_yes ?_
  | with_reducible refine' dR_I0i ?_
  | with_reducible refine' dU_neg ?_
  | ((with_reducible refine' dR_ixT ?dv ?_); (case dv => rfl))
  | with_reducible refine' dS_next ?_
  | with_reducible refine' dS_ret ?_
  | with_reducible refine' dS_drop ?_
  | with_reducible refine' dS_if ?_
  | with_reducible refine' dS_asg ?_
  | with_reducible refine' dS_par ?_
  | with_reducible refine' dG_name ?_
  | ((with_reducible refine' dG_tup ?dv ?_); (case dv => rfl); (dsimp only [List.map]))
  | with_reducible refine' dGs_cons ?_
  | with_reducible refine' dGs_nil ?_
  | with_reducible refine' dC_abs ?_
  | with_reducible refine' dC_max2 ?_
  | with_reducible refine' dC_min2 ?_
  | with_reducible refine' rtOf.of ?_
  | with_reducible refine' ex_cmp ?_
  | with_reducible refine' ex_bool ?_
  | with_reducible refine' ex_int ?_
  | with_reducible refine' ex_list ?_
  | with_reducible refine' ex_tup ?_
  | with_reducible refine' ex_d ?_
  | with_reducible refine' ex_m ?_
  | with_reducible refine' ex_par ?_
  | with_reducible refine' ex_rg1 ?_
  | with_reducible refine' ex_rg2 ?_
  | ((with_reducible refine' ex_dat ?dv ?dw ?_); (case dv => rfl); (case dw => exact Nat.le_of_ble_eq_true rfl))
  | ((fail_if_success (with_reducible show ∃ _, _)); (fail_if_success (with_reducible show _ ∧ _)); refine ⟨_, _, rfl, ?_⟩)
  | ((fail_if_success (with_reducible show ∃ _, _)); (fail_if_success (with_reducible show _ ∧ _)); refine ⟨_, rfl, ?_⟩)
  | fail)
local macro_rules | `(tactic| walk_at "e") => `(tactic| repeat' walk_at "e1")

theorem lay_all : ∀ {ds : List PyData}, (∀ d ∈ ds, d.canLay0 = true) → PyData.canLayAll0 ds = true
  | [], _ => rfl
  | d :: ds, h => by rw [PyData.canLayAll0, h d List.mem_cons_self, lay_all fun d hd => h d (List.mem_cons_of_mem _ hd)]; rfl
theorem Gn.lay {n : Nat} {d : PyData} (h : Gn n d) : d.canLay0 = true := by
  induction h with
  | non => rfl
  | bool b => rfl
  | int i _ => rfl
  | str x _ h => exact ascii_lay h
  | list ds _ _ ih => rw [PyData.canLay0]; exact lay_all ih
  | tuple ds _ _ ih => rw [PyData.canLay0]; exact lay_all ih
theorem Gd.shp {d : PyData} (h : Gd d) : Shp 20 d := by
  obtain ⟨n, _, h1, h2⟩ := h
  exact ⟨h1.lay, h2⟩
theorem fr_eqv1 {x y : Q} : PyData.eqv (fr x) (fr y) = decide (x = y) := by
  show (PyData.eqv (.int x.1) (.int y.1) && (PyData.eqv (.int x.2) (.int y.2) && true)) = _
  rw [Bool.and_true, Bool.eq_iff_iff, Bool.and_eq_true, decide_eq_true_iff]
  show (decide (x.1 = y.1) = true ∧ decide (x.2 = y.2) = true) ↔ _
  rw [decide_eq_true_iff, decide_eq_true_iff, Prod.ext_iff]
theorem low_self {t b : Int} (ht : 0 ≤ t) (hb : 0 < b) : (low t b = (t, b)) ↔ Int.gcd t b = 1 := by
  have hr := low_red ht hb
  constructor
  · intro e
    rw [e] at hr
    exact hr.co
  · intro e
    unfold low
    rw [e]
    simp
section
variable {P : Program} {w : World} {K : PySem.W.Frag} {mg : Str → Option Value} {base : Heap} {f : Addr} {fd : FuncData}
abbrev s_law_is_load : Stmt := topS 30
theorem sc_law_is_load : FnScope ["thing"] ["thing"] (defScope s_law_is_load) := ⟨rfl, rfl, rfl, by decide +kernel, rfl, by decide +kernel, by decide +kernel⟩
theorem ok_law_is_load (T : Txt mg) (F : Fun K "_law_is_load" "_law_is_load" s_law_is_load f fd) (c_law_whole : Has P w K mg base 1 "_law_whole" ["thing"] S_isI) (c_law_lowest : Has P w K mg base 1 "_law_lowest" ["top", "bottom"] S_lowest) : FnOk P w K mg base CX0 2 f fd ["thing"] (spOf K S_isload) := by
  refine ok_of F sc_law_is_load (fun rs M P h => by obtain ⟨a, rfl, _⟩ := h; rfl) fun cdv A outer s H E hr => ⟨_, (pss_cons (ps_if (PW.pt (pw_or (pt_not (pt_val (pe_callB (kcall_isi K) (by rfl) T.isinstance (by decide +kernel) (pa_cons (pv 0) (pa_cons (pe_bltn (v := .ty "tuple") (by rfl) T.tuple (by decide +kernel) rfl) pa_nil))))) (pw_or1 (pt_cmp (pc_neI (pe_callB (kcall_len K) (by rfl) T.len (by decide +kernel) (pa_cons (pv 0) pa_nil)) pe_int))))) (pss_one (ps_ret pe_bl)) pss_nil)
      (pss_cons (ps_if (PW.pt (pw_or (pt_not (pt_val (pe_callH' c_law_whole (hr.mono (by first | decide | omega)) rfl (pa_cons (pe_ix (kix_tup K) (pv 0) pe_int (fun _ _ => rfl)) pa_nil)))) (pw_or1 (pt_not (pt_val (pe_callH' c_law_whole (hr.mono (by first | decide | omega)) rfl (pa_cons (pe_ix (kix_tup K) (pv 0) pe_int (fun _ _ => rfl)) pa_nil))))))) (pss_one (ps_ret pe_bl)) pss_nil)
      (pss_one (ps_ret (pe_and (pe_cmp (pc_ge (pe_ix (kix_tup K) (pv 0) pe_int (fun _ _ => rfl)) pe_int)) (pe_and (pe_cmp (pc_gt (pe_ix (kix_tup K) (pv 0) pe_int (fun _ _ => rfl)) pe_int)) (pe_one (pe_cmpR (kop_eqD K hr.units) (pe_callH' c_law_lowest (hr.mono (by first | decide | omega)) rfl (pa_cons (pe_ix (kix_tup K) (pv 0) pe_int (fun _ _ => rfl)) (pa_cons (pe_ix (kix_tup K) (pv 0) pe_int (fun _ _ => rfl)) pa_nil))) (pv 0) (nomark _))))))))), fun rs M P h => ?_⟩
  obtain ⟨d, rfl, hd, p⟩ := h
  walk_at "d"
  refine dE_ty ?_
  walk_at "d"
  refine dC_isi (kit_tup d) ?_
  walk_at "d"
  cases d with
  | tuple ds =>
    refine ifF rfl ?_
    walk_at "d"
    refine dC_len (ds := ds) (.inr (.inl rfl)) ?_
    walk_at "d"
    by_cases hl : ds.length = 2
    · match ds, hl with
      | [x, y], _ =>
        refine ifF (show (!decide (((2 : Nat) : Int) = 2)) = false by decide) ?_
        walk_at "d"
        refine ifB (fun h1 => ?_) (fun h1 => ?_)
        · refine ifT rfl ?_
          walk_at "d"
          rw [frac_two (.inl (by simpa using h1))] at p
          exact p
        · walk_at "d"
          refine ifB (fun h2 => ?_) (fun h2 => ?_)
          · walk_at "d"
            rw [frac_two (.inr (by simpa using h2))] at p
            exact p
          · have i1 : isI x = true := by simpa using h1
            have i2 : isI y = true := by simpa using h2
            have gy := hd.tup'.2 y (by simp)
            cases x with
            | int t =>
              cases y with
              | int b =>
                have p' : P (.d (.bool (decide (0 ≤ t) && (decide (1 ≤ b) && decide (Int.gcd t b = 1))))) M := p
                have hz : Sz 8000 b := by
                  obtain ⟨n, hn, g, _⟩ := gy
                  cases g with
                  | int _ h => exact h.up (by omega)
                walk_at "d"
                refine ifB (fun h3 => ?_) (fun h3 => ?_)
                · rw [show decide (0 ≤ t) = true from h3, Bool.true_and] at p'
                  walk_at "d"
                  refine ifB (fun h4 => ?_) (fun h4 => ?_)
                  · have hb : 0 < b := of_decide_eq_true h4
                    have ht : 0 ≤ t := of_decide_eq_true h3
                    rw [show decide (1 ≤ b) = true from decide_eq_true (by omega), Bool.true_and] at p'
                    walk_at "d"
                    refine ⟨ht, hb, hz, ?_⟩
                    walk_at "d"
                    refine dR_eq (d := fr (low t b)) (e := fr (t, b)) .of .of Shp.fr.shaped Shp.fr.shaped ?_
                    have e : PyData.eqv (fr (low t b)) (fr (t, b)) = decide (Int.gcd t b = 1) := by
                      rw [fr_eqv1, Bool.eq_iff_iff, decide_eq_true_iff, decide_eq_true_iff, ← low_self ht hb]
                    rw [e]
                    exact rtOf.of p'
                  · rw [show decide (1 ≤ b) = false from decide_eq_false (by have := of_decide_eq_false h4; omega), Bool.false_and] at p'
                    exact rtOf.of p'
                · rw [show decide (0 ≤ t) = false from h3, Bool.false_and] at p'
                  exact rtOf.of p'
              | _ => cases i2
            | _ => cases i1
    · refine ifT (by rw [decide_eq_false (by omega)]; rfl) ?_
      walk_at "d"
      rw [frac_len hl] at p
      exact p
  | _ =>
    refine ifT rfl ?_
    refine ifT rfl ?_
    walk_at "d"
    exact p
end
end K2

namespace K2
open PySem L2 Sd Ma
local macro_rules | `(tactic| walk_at "d1") => `(tactic| first
  | ((with_reducible refine' dE_var ?dv ?_); (case dv => rfl))
  | with_reducible refine' dE_int ?_
  | with_reducible refine' dE_str ?_
  | with_reducible refine' dE_bl ?_
  | with_reducible refine' dE_non ?_
  | ((with_reducible refine' dE_nt ?dv ?_); (case dv => assumption))
  | with_reducible refine' dE_ref ?_
  | with_reducible refine' dE_op ?_
  | with_reducible refine' dE_un ?_
  | with_reducible refine' dE_cmp ?_
  | with_reducible refine' dE_isN ?_
  | with_reducible refine' dE_notN ?_
  | with_reducible refine' dE_call ?_
  | with_reducible refine' dE_cb ?_
  | with_reducible refine' dE_kw ?_
  | with_reducible refine' dE_tup ?_
  | with_reducible refine' dE_if ?_
  | with_reducible refine' dE_and ?_
  | with_reducible refine' dE_or ?_
  | with_reducible refine' dE_not ?_
  | with_reducible refine' dE_sl ?_
  | with_reducible refine' dO_none ?_
  | with_reducible refine' dO_some ?_
  | with_reducible refine' dA_cons ?_
  | with_reducible refine' dA_nil ?_
  | with_reducible refine' dT_B ?_
  | with_reducible refine' dT_test ?_
  | with_reducible refine' dT_and ?_
  | with_reducible refine' dT_or ?_
  | with_reducible refine' dT_not ?_
  | with_reducible refine' dT_yes ?_
  | with_reducible refine' dR_I0i ?_
  | with_reducible refine' dU_neg ?_
  | ((with_reducible refine' dR_ixT ?dv ?_); (case dv => rfl))
  | with_reducible refine' dS_seq ?_
  | with_reducible refine' dS_next ?_
  | with_reducible refine' dS_ret ?_
  | with_reducible refine' dS_drop ?_
  | with_reducible refine' dS_if ?_
  | with_reducible refine' dS_asg ?_
  | with_reducible refine' dS_par ?_
  | with_reducible refine' dG_name ?_
  | ((with_reducible refine' dG_tup ?dv ?_); (case dv => rfl); (dsimp only [List.map]))
  | with_reducible refine' dGs_cons ?_
  | with_reducible refine' dGs_nil ?_
  | with_reducible refine' dC_abs ?_
  | with_reducible refine' dC_max2 ?_
  | with_reducible refine' dC_min2 ?_
  | with_reducible refine' rtOf.of ?_
  | with_reducible refine' ex_cmp ?_
  | with_reducible refine' ex_bool ?_
  | with_reducible refine' ex_int ?_
  | with_reducible refine' ex_list ?_
  | with_reducible refine' ex_tup ?_
  | with_reducible refine' ex_d ?_
  | with_reducible refine' ex_m ?_
  | with_reducible refine' ex_par ?_
  | with_reducible refine' ex_rg1 ?_
  | with_reducible refine' ex_rg2 ?_
  | ((with_reducible refine' ex_dat ?dv ?dw ?_); (case dv => rfl); (case dw => exact Nat.le_of_ble_eq_true rfl))
  | ((fail_if_success (with_reducible show ∃ _, _)); (fail_if_success (with_reducible show _ ∧ _)); refine ⟨_, _, rfl, ?_⟩)
  | ((fail_if_success (with_reducible show ∃ _, _)); (fail_if_success (with_reducible show _ ∧ _)); refine ⟨_, rfl, ?_⟩)
  | fail)
local macro_rules | `(tactic| walk_at "d") => `(tactic| repeat' walk_at "d1")
local macro_rules | `(tactic| walk_at "e1") => `(tactic| first
  | ((with_reducible refine' dE_var ?dv ?_); (case dv => rfl))
  | with_reducible refine' dE_int ?_
  | with_reducible refine' dE_str ?_
  | with_reducible refine' dE_bl ?_
  | with_reducible refine' dE_non ?_
  | ((with_reducible refine' dE_nt ?dv ?_); (case dv => assumption))
  | with_reducible refine' dE_ref ?_
  | with_reducible refine' dE_op ?_
  | with_reducible refine' dE_un ?_
  | with_reducible refine' dE_cmp ?_
  | with_reducible refine' dE_isN ?_
  | with_reducible refine' dE_notN ?_
  | with_reducible refine' dE_call ?_
  | with_reducible refine' dE_cb ?_
  | with_reducible refine' dE_kw ?_
  | with_reducible refine' dE_tup ?_
  | with_reducible refine' dE_if ?_
  | with_reducible refine' dE_and ?_
  | with_reducible refine' dE_or ?_
  | with_reducible refine' dE_not ?_
  | with_reducible refine' dE_sl ?_
  | with_reducible refine' dO_none ?_
  | with_reducible refine' dO_some ?_
  | with_reducible refine' dA_cons ?_
  | with_reducible refine' dA_nil ?_
  | with_reducible refine' dT_B ?_
  | with_reducible refine' dT_test ?_
  | with_reducible refine' dT_and ?_
  | with_reducible refine' dT_or ?_
  | with_reducible refine' dT_not ?_
  | with_reducible refine' dT_yes ?_
  | with_reducible refine' dR_I0i ?_
  | with_reducible refine' dU_neg ?_
  | ((with_reducible refine' dR_ixT ?dv ?_); (case dv => rfl))
  | with_reducible refine' dS_next ?_
  | with_reducible refine' dS_ret ?_
  | with_reducible refine' dS_drop ?_
  | with_reducible refine' dS_if ?_
  | with_reducible refine' dS_asg ?_
  | with_reducible refine' dS_par ?_
  | with_reducible refine' dG_name ?_
  | ((with_reducible refine' dG_tup ?dv ?_); (case dv => rfl); (dsimp only [List.map]))
  | with_reducible refine' dGs_cons ?_
  | with_reducible refine' dGs_nil ?_
  | with_reducible refine' dC_abs ?_
  | with_reducible refine' dC_max2 ?_
  | with_reducible refine' dC_min2 ?_
  | with_reducible refine' rtOf.of ?_
  | with_reducible refine' ex_cmp ?_
  | with_reducible refine' ex_bool ?_
  | with_reducible refine' ex_int ?_
  | with_reducible refine' ex_list ?_
  | with_reducible refine' ex_tup ?_
  | with_reducible refine' ex_d ?_
  | with_reducible refine' ex_m ?_
  | with_reducible refine' ex_par ?_
  | with_reducible refine' ex_rg1 ?_
  | with_reducible refine' ex_rg2 ?_
  | ((with_reducible refine' ex_dat ?dv ?dw ?_); (case dv => rfl); (case dw => exact Nat.le_of_ble_eq_true rfl))
  | ((fail_if_success (with_reducible show ∃ _, _)); (fail_if_success (with_reducible show _ ∧ _)); refine ⟨_, _, rfl, ?_⟩)
  | ((fail_if_success (with_reducible show ∃ _, _)); (fail_if_success (with_reducible show _ ∧ _)); refine ⟨_, rfl, ?_⟩)
  | fail)
local macro_rules | `(tactic| walk_at "e") => `(tactic| repeat' walk_at "e1")

def ltS (x y : Str) : Bool := decide (x.cps.toList < y.cps.toList)
def leS (x y : Str) : Bool := PySem.W.dataLe false PyData.str x y
theorem leS_all : PySem.W.TotalLe leS := by
  have h := PySem.W.sortLe_total (α := Str) (PyProof.Rows.listOrd PyProof.Rows.itemOrd) false fun x => PySem.W.keyToks (.str x)
  exact ⟨h.trans, h.total⟩
theorem leS_iff (x y : Str) : leS x y = decide (x.cps.toList ≤ y.cps.toList) := congrFun (congrFun (PySem.W.dataLe_str (β := Str) id) x) y
theorem leS_anti {a b : Str} (h1 : leS a b = true) (h2 : leS b a = true) : a = b := by
  rw [leS_iff] at h1 h2
  exact PySem.W.str_of_cps (List.le_antisymm (of_decide_eq_true h1) (of_decide_eq_true h2))
theorem ltS_iff (x y : Str) : ltS x y = true ↔ leS x y = true ∧ x ≠ y := by
  unfold ltS
  rw [leS_iff, decide_eq_true_iff, decide_eq_true_iff]
  constructor
  · intro h
    refine ⟨List.le_of_lt h, fun e => ?_⟩
    subst e
    exact List.lt_irrefl _ h
  · rintro ⟨h1, h2⟩
    by_cases h : x.cps.toList < y.cps.toList
    · exact h
    · exact absurd (PySem.W.str_of_cps (List.le_antisymm h1 h)) h2
theorem sortX_sorted (ns : List Str) : (sortX ns).Pairwise fun a b => leS a b = true :=
  List.pairwise_mergeSort leS_all.trans (fun a b => by rcases leS_all.total a b with h | h <;> simp [h]) ns
/-- neighbours rise -/
def risB : List Str → Bool
  | [] => true
  | [_] => true
  | a :: b :: ns => ltS a b && risB (b :: ns)
theorem ris_pw : ∀ {ns : List Str}, risB ns = true ↔ ns.Pairwise fun a b => ltS a b = true
  | [] => ⟨fun _ => .nil, fun _ => rfl⟩
  | [a] => ⟨fun _ => List.pairwise_singleton _ _, fun _ => rfl⟩
  | a :: b :: ns => by
    rw [risB, Bool.and_eq_true, ris_pw (ns := b :: ns), List.pairwise_cons (l := b :: ns)]
    constructor
    · rintro ⟨h1, h2⟩
      refine ⟨fun c hc => ?_, h2⟩
      rcases List.mem_cons.mp hc with rfl | hc
      · exact h1
      · have h3 := (List.pairwise_cons.mp h2).1 c hc
        rw [ltS, decide_eq_true_iff] at h1 h3 ⊢
        exact List.lt_trans h1 h3
    · rintro ⟨h1, h2⟩
      exact ⟨h1 b List.mem_cons_self, h2⟩
theorem ris_sort {ns ys : List Str} (nd : ys.Nodup) (hm : ∀ x, x ∈ ys ↔ x ∈ ns) : ns = sortX ys ↔ risB ns = true := by
  rw [ris_pw]
  have hp : (sortX ys).Perm ys := List.mergeSort_perm ys _
  constructor
  · intro e
    have h1 := sortX_sorted ys
    have h2 : (sortX ys).Nodup := hp.nodup_iff.mpr nd
    rw [← e] at h1 h2
    have := h1.and h2
    exact this.imp fun h => (ltS_iff _ _).mpr h
  · intro h
    have h1 : ns.Pairwise fun a b => leS a b = true := h.imp fun h => ((ltS_iff _ _).mp h).1
    have h2 : ns.Nodup := h.imp fun h => ((ltS_iff _ _).mp h).2
    exact List.Perm.eq_of_pairwise (fun x y _ _ h1 h2 => leS_anti h1 h2) h1 (sortX_sorted ys) (((List.perm_ext_iff_of_nodup nd h2).mpr hm).symm.trans hp.symm)
theorem strs_eqv : ∀ xs ys : List Str, PyData.eqv (.list (xs.map .str)) (.list (ys.map .str)) = decide (xs = ys)
  | [], [] => rfl
  | [], _ :: _ => rfl
  | _ :: _, [] => rfl
  | x :: xs, y :: ys => by
    have ih := strs_eqv xs ys
    show ((x == y) && PyData.eqvAll (xs.map .str) (ys.map .str)) = _
    rw [show PyData.eqvAll (xs.map .str) (ys.map .str) = decide (xs = ys) from ih, Bool.eq_iff_iff, Bool.and_eq_true, beq_iff_eq, decide_eq_true_iff, decide_eq_true_iff, List.cons.injEq]
def nmOf : PyData → Str
  | .tuple (.str x :: _) => x
  | _ => ""
def bunB : PyData → Bool
  | .tuple ds => decide (1 ≤ ds.length) && (decide (ds.length ≤ 6) && (ds.all ropeB && risB (ds.map nmOf)))
  | _ => false
theorem rope_is {d : PyData} (h : ropeB d = true) : ∃ x a b c, d = .tuple [.str x, a, b, c] ∧ nmOf d = x := by
  unfold ropeB at h
  split at h
  · rename_i n a b c
    have hn := (Bool.and_eq_true _ _ ▸ h : nameB n = true ∧ _).1
    cases n with
    | str x => exact ⟨x, a, b, c, rfl, rfl⟩
    | _ => cases hn
  · cases h
theorem ris_zip : ∀ ns : List Str, risB ns = ((List.zip ns (ns.drop 1)).map fun p => ltS p.1 p.2).all id
  | [] => rfl
  | [_] => rfl
  | a :: b :: ns => by
    have := ris_zip (b :: ns)
    rw [risB, this]
    rfl
theorem eqv_bad : ∀ ds : List PyData, PyData.eqv (.list (ds.filter fun d => !ropeB d)) (.list []) = ds.all ropeB
  | [] => rfl
  | d :: ds => by
    rw [List.filter_cons, List.all_cons]
    cases k : ropeB d with
    | true => simpa using eqv_bad ds
    | false => rfl
section
variable {P : Program} {w : World} {K : PySem.W.Frag} {mg : Str → Option Value} {base : Heap} {f : Addr} {fd : FuncData}
def S_isbun : SpD := fun rs M P => ∃ d : PyData, rs = [.d d] ∧ Gd d ∧ P (.d (.bool (bunB d))) M
abbrev s_is_bundle : Stmt := topS 11
theorem sc_is_bundle : FnScope ["thing", "names", "part", "rope", "name", "behind"] ["thing"] (defScope s_is_bundle) := ⟨rfl, rfl, rfl, by decide +kernel, rfl, by decide +kernel, by decide +kernel⟩
theorem ok_is_bundle (C : Cst mg) (T : Txt mg) (F : Fun K "is_bundle" "is_bundle" s_is_bundle f fd) (c_is_rope : Has P w K mg base 3 "is_rope" ["thing"] S_isrope) : FnOk P w K mg base CX0 4 f fd ["thing"] (spOf K S_isbun) := by
  refine ok_of F sc_is_bundle (fun rs M P h => by obtain ⟨a, rfl, _⟩ := h; rfl) fun cdv A outer s H E hr => ⟨_, (pss_cons (ps_if (PW.pt (pw_or (pt_not (pt_val (pe_callB (kcall_isi K) (by rfl) T.isinstance (by decide +kernel) (pa_cons (pv 0) (pa_cons (pe_bltn (v := .ty "tuple") (by rfl) T.tuple (by decide +kernel) rfl) pa_nil))))) (pw_or1 (pt_not (pt_chain op_le op_le pe_int (pe_callB (kcall_len K) (by rfl) T.len (by decide +kernel) (pa_cons (pv 0) pa_nil)) (pe_globI rfl C.c_MOST_ROPES)))))) (pss_one (ps_ret pe_bl)) pss_nil)
      (pss_cons (ps_if (pt_not (pt_val (pe_callB (kcr_all K) (by rfl) T.all (by decide +kernel) (pa_cons (pe_lc (own := [("part", 2)]) (by rfl) sc_is_bundle.nd (kpi_tup K (pv 0)) (blkOk_by (N := ["thing", "names", "part", "rope", "name", "behind"]) (sc := defScope s_is_bundle) (own := [("part", 2)]) (by decide +kernel)) (fun _ _ _ _ _ => (pg_name (i := 2) sc_is_bundle.nd rfl (Or.inl rfl))) (fun _ _ _ _ _ => pts_nil) (fun _ _ _ _ _ => (pe_callH' c_is_rope (hr.mono (by first | decide | omega)) rfl (pa_cons (pv 2) pa_nil)))) pa_nil)))) (pss_one (ps_ret pe_bl)) pss_nil)
      (pss_cons (ps_setLc (i := 1) (own := [("rope", 3)]) (by rfl) sc_is_bundle.nd rfl rfl (sw_true rfl rfl rfl (by decide +kernel)) (kpi_tup K (pv 0)) (blkOk_by (N := ["thing", "names", "part", "rope", "name", "behind"]) (sc := defScope s_is_bundle) (own := [("rope", 3)]) (by decide +kernel)) (fun _ _ _ _ _ => (pg_name (i := 3) sc_is_bundle.nd rfl (Or.inl rfl))) (fun _ _ _ _ _ => pts_nil) (fun _ _ _ _ _ => (pe_ix (kix_tup K) (pv 3) pe_int (fun _ _ => rfl))))
      (pss_one (ps_ret (pe_callB (kcr_all K) (by rfl) T.all (by decide +kernel) (pa_cons (pe_lc (own := [("name", 4), ("behind", 5)]) (by rfl) sc_is_bundle.nd (kpi_zip K (by rfl) T.zip (pa_cons (pv 1) (pa_cons (pe_slice (ksl_list K) (pv 1) (po_some pe_int) po_none) pa_nil))) (blkOk_by (N := ["thing", "names", "part", "rope", "name", "behind"]) (sc := defScope s_is_bundle) (own := [("name", 4), ("behind", 5)]) (by decide +kernel)) (fun _ _ _ _ _ => (kpg_tup K (n := 2) rfl (pgs_cons (pg_name (i := 4) sc_is_bundle.nd rfl (Or.inl rfl)) (pgs_cons (pg_name (i := 5) sc_is_bundle.nd rfl (Or.inl rfl)) pgs_nil)))) (fun _ _ _ _ _ => pts_nil) (fun _ _ _ _ _ => (pe_cmpR op_lt_str (pv 4) (pv 5) (by rfl)))) pa_nil))))))), fun rs M P h => ?_⟩
  obtain ⟨d, rfl, hd, p⟩ := h
  walk_at "d"
  refine dE_ty ?_
  walk_at "d"
  refine dC_isi (kit_tup d) ?_
  walk_at "d"
  cases d with
  | tuple ds =>
    have p' : P (.d (.bool (decide (1 ≤ ds.length) && (decide (ds.length ≤ 6) && (ds.all ropeB && risB (ds.map nmOf)))))) M := p
    refine ifF rfl ?_
    walk_at "d"
    refine dE_chain ?_
    walk_at "d"
    refine dC_len (ds := ds) (.inr (.inl rfl)) ?_
    walk_at "d"
    refine dR_I0b ?_
    walk_at "d"
    refine ifB (fun h => ?_) (fun h => ?_)
    · rw [show decide (1 ≤ ds.length) = true from decide_eq_true (by have := of_decide_eq_true h; omega), Bool.true_and] at p'
      walk_at "d"
      refine dR_I0b ?_
      walk_at "d"
      refine ifB (fun h2 => ?_) (fun h2 => ?_)
      · have h3 : decide ((ds.length : Int) ≤ 6) = false := by simpa using h2
        rw [show decide (ds.length ≤ 6) = false from decide_eq_false (by have := of_decide_eq_false h3; omega), Bool.false_and] at p'
        walk_at "d"
        exact p'
      · have h3 : decide ((ds.length : Int) ≤ 6) = true := by simpa using h2
        have hl6 : ds.length ≤ 6 := by have := of_decide_eq_true h3; omega
        rw [show decide (ds.length ≤ 6) = true from decide_eq_true hl6, Bool.true_and] at p'
        walk_at "d"
        refine dE_lcTm (enc := id) (out := fun d => .bool (ropeB d)) (xs := ds) ?_
        walk_at "d"
        refine ⟨by rw [List.map_id], rfl, by omega, fun x hx => ?_, .inl ?_⟩
        · walk_at "d"
          exact ⟨hd.tup'.2 x hx, rfl, rfl⟩
        walk_at "d"
        refine dC_all (bs := ds.map ropeB) (.inl (by rw [List.map_map]; rfl)) ?_
        walk_at "d"
        rw [show (ds.map ropeB).all id = ds.all ropeB by rw [List.all_map]; rfl]
        refine ifB (fun h4 => ?_) (fun h4 => ?_)
        · rw [show ds.all ropeB = false by simpa using h4, Bool.false_and] at p'
          walk_at "d"
          exact p'
        have hall : ds.all ropeB = true := by simpa using h4
        rw [hall, Bool.true_and] at p'
        rw [List.all_eq_true] at hall
        walk_at "d"
        refine dE_lcTm (enc := id) (out := fun d => .str (nmOf d)) (xs := ds) ?_
        walk_at "d"
        refine ⟨by rw [List.map_id], rfl, by omega, fun x hx => ?_, .inl ?_⟩
        · obtain ⟨y, a, b, c, rfl, e⟩ := rope_is (hall x hx)
          walk_at "d"
          refine dR_ixT (ds := [.str y, a, b, c]) rfl ?_
          exact ⟨rfl, rfl⟩
        rw [show (ds.map fun d => PyData.str (nmOf d)) = (ds.map nmOf).map .str by rw [List.map_map]; rfl]
        have hn6 : (ds.map nmOf).length ≤ 6 := by rw [List.length_map]; exact hl6
        generalize ds.map nmOf = ns at p' hn6
        walk_at "d"
        refine dE_lcZ (gw_name2 2 4 5 (by decide)) ?_
        walk_at "d"
        refine dU_slL (.inl rfl) ?_
        walk_at "d"
        refine ⟨ns.map .str, (ns.drop 1).map .str, ?_, by rw [List.length_map]; omega, fun i acc M' => M' = M ∧ acc = (((List.zip ns (ns.drop 1)).take i).map fun p => ltS p.1 p.2).map .bool, ⟨rfl, rfl⟩, fun i x y acc M' hx hy hI => ?_, fun acc M' hI => .inl ?_⟩
        · unfold cutD
          rw [show (1 : Int) = ((1 : Nat) : Int) from rfl, HT.sIx_nat, HT.sIx_none]
          cases ns with
          | nil => rfl
          | cons z ns =>
            rw [Nat.min_eq_left (by rw [List.length_map, List.length_cons]; omega), List.take_of_length_le (by rw [List.length_drop]; omega), List.map_drop]
        · obtain ⟨rfl, rfl⟩ := hI
          obtain ⟨a, ha, rfl⟩ := getElem?_map_some hx
          obtain ⟨b, hb, rfl⟩ := getElem?_map_some hy
          walk_at "d"
          refine ifT rfl ?_
          walk_at "d"
          refine dR_ss ?_
          refine ⟨_, rfl, rfl, ?_⟩
          have hz : (List.zip ns (ns.drop 1))[i]? = some (a, b) := by rw [List.getElem?_zip_eq_some]; exact ⟨ha, hb⟩
          rw [List.take_succ, hz, List.map_append, List.map_append]
          rfl
        · obtain ⟨rfl, rfl⟩ := hI
          rw [List.take_of_length_le (by rw [List.length_zip, List.length_map, List.length_map]; exact Nat.le_refl _)]
          walk_at "d"
          refine dC_all (.inl rfl) ?_
          rw [← ris_zip]
          exact rtOf.of p'
    · rw [show decide (1 ≤ ds.length) = false from decide_eq_false (by have := of_decide_eq_false h; omega), Bool.false_and] at p'
      walk_at "d"
      refine ifT rfl ?_
      walk_at "d"
      exact p'
  | _ =>
    refine ifT rfl ?_
    refine ifT rfl ?_
    walk_at "d"
    exact p
abbrev s_law_is_bundle : Stmt := topS 29
theorem sc_law_is_bundle : FnScope ["thing", "names", "rope"] ["thing"] (defScope s_law_is_bundle) := ⟨rfl, rfl, rfl, by decide +kernel, rfl, by decide +kernel, by decide +kernel⟩
theorem ok_law_is_bundle (T : Txt mg) (F : Fun K "_law_is_bundle" "_law_is_bundle" s_law_is_bundle f fd) (c_law_is_rope : Has P w K mg base 2 "_law_is_rope" ["thing"] S_isrope) : FnOk P w K mg base CX0 3 f fd ["thing"] (spOf K S_isbun) := by
  refine ok_of F sc_law_is_bundle (fun rs M P h => by obtain ⟨a, rfl, _⟩ := h; rfl) fun cdv A outer s H E hr => ⟨_, (pss_cons (ps_if (PW.pt (pw_or (pt_not (pt_val (pe_callB (kcall_isi K) (by rfl) T.isinstance (by decide +kernel) (pa_cons (pv 0) (pa_cons (pe_bltn (v := .ty "tuple") (by rfl) T.tuple (by decide +kernel) rfl) pa_nil))))) (pw_or1 (pt_not (pt_chain op_le op_le pe_int (pe_callB (kcall_len K) (by rfl) T.len (by decide +kernel) (pa_cons (pv 0) pa_nil)) pe_int))))) (pss_one (ps_ret pe_bl)) pss_nil)
      (pss_cons (ps_if (pt_cmpR (kop_neD K hr.units) (pe_lc (own := [("rope", 2)]) (by rfl) sc_law_is_bundle.nd (kpi_tup K (pv 0)) (blkOk_by (N := ["thing", "names", "rope"]) (sc := defScope s_law_is_bundle) (own := [("rope", 2)]) (by decide +kernel)) (fun _ _ _ _ _ => (pg_name (i := 2) sc_law_is_bundle.nd rfl (Or.inl rfl))) (fun _ _ _ _ _ => (pts_one (pt_not (pt_val (pe_callH' c_law_is_rope (hr.mono (by first | decide | omega)) rfl (pa_cons (pv 2) pa_nil)))))) (fun _ _ _ _ _ => (pv 2))) (pe_lst pa_nil) (nomark _)) (pss_one (ps_ret pe_bl)) pss_nil)
      (pss_cons (ps_setLc (i := 1) (own := [("rope", 2)]) (by rfl) sc_law_is_bundle.nd rfl rfl (sw_true rfl rfl rfl (by decide +kernel)) (kpi_tup K (pv 0)) (blkOk_by (N := ["thing", "names", "rope"]) (sc := defScope s_law_is_bundle) (own := [("rope", 2)]) (by decide +kernel)) (fun _ _ _ _ _ => (pg_name (i := 2) sc_law_is_bundle.nd rfl (Or.inl rfl))) (fun _ _ _ _ _ => pts_nil) (fun _ _ _ _ _ => (pe_ix (kix_tup K) (pv 2) pe_int (fun _ _ => rfl))))
      (pss_one (ps_ret (pe_cmpR (kop_eqD K hr.units) (pv 1) (pe_srtSet K rfl hr (by rfl) T.sorted (by rfl) T.set (pv 1)) (nomark _))))))), fun rs M P h => ?_⟩
  obtain ⟨d, rfl, hd, p⟩ := h
  walk_at "d"
  refine dE_ty ?_
  walk_at "d"
  refine dC_isi (kit_tup d) ?_
  walk_at "d"
  cases d with
  | tuple ds =>
    have p' : P (.d (.bool (decide (1 ≤ ds.length) && (decide (ds.length ≤ 6) && (ds.all ropeB && risB (ds.map nmOf)))))) M := p
    refine ifF rfl ?_
    walk_at "d"
    refine dE_chain ?_
    walk_at "d"
    refine dC_len (ds := ds) (.inr (.inl rfl)) ?_
    walk_at "d"
    refine dR_I0b ?_
    walk_at "d"
    refine ifB (fun h => ?_) (fun h => ?_)
    · rw [show decide (1 ≤ ds.length) = true from decide_eq_true (by have := of_decide_eq_true h; omega), Bool.true_and] at p'
      walk_at "d"
      refine dR_I0b ?_
      walk_at "d"
      refine ifB (fun h2 => ?_) (fun h2 => ?_)
      · have h3 : decide ((ds.length : Int) ≤ 6) = false := by simpa using h2
        rw [show decide (ds.length ≤ 6) = false from decide_eq_false (by have := of_decide_eq_false h3; omega), Bool.false_and] at p'
        walk_at "d"
        exact p'
      · have h3 : decide ((ds.length : Int) ≤ 6) = true := by simpa using h2
        have hl6 : ds.length ≤ 6 := by have := of_decide_eq_true h3; omega
        rw [show decide (ds.length ≤ 6) = true from decide_eq_true hl6, Bool.true_and] at p'
        walk_at "d"
        refine dE_lcTf (enc := id) (out := id) (pt := fun d => !ropeB d) (xs := ds) ?_
        walk_at "d"
        refine ⟨by rw [List.map_id], rfl, by omega, fun x hx => ?_, fun x hx _ => ?_, .inl ?_⟩
        · walk_at "d"
          refine ⟨hd.tup'.2 x hx, ?_⟩
          walk_at "d"
          exact ⟨rfl, rfl⟩
        · walk_at "d"
          exact ⟨rfl, rfl⟩
        rw [List.map_id]
        walk_at "d"
        refine dE_lst ?_
        walk_at "d"
        refine dR_ne (d := .list (ds.filter fun d => !ropeB d)) (e := .list []) .of .of (Shp.list (n := 20) fun d hm => (hd.tup'.2 d (List.mem_filter.mp hm).1).shp).shaped rfl ?_
        walk_at "d"
        have e : (!PyData.eqv (.list (ds.filter fun d => !ropeB d)) (.list [])) = !ds.all ropeB := by
          exact congrArg (!·) (eqv_bad ds)
        rw [e]
        refine ifB (fun h4 => ?_) (fun h4 => ?_)
        · rw [show ds.all ropeB = false by simpa using h4, Bool.false_and] at p'
          walk_at "d"
          exact p'
        have hall : ds.all ropeB = true := by simpa using h4
        rw [hall, Bool.true_and] at p'
        rw [List.all_eq_true] at hall
        walk_at "d"
        refine dE_lcTm (enc := id) (out := fun d => .str (nmOf d)) (xs := ds) ?_
        walk_at "d"
        refine ⟨by rw [List.map_id], rfl, by omega, fun x hx => ?_, .inl ?_⟩
        · obtain ⟨y, a, b, c, rfl, e⟩ := rope_is (hall x hx)
          walk_at "d"
          refine dR_ixT (ds := [.str y, a, b, c]) rfl ?_
          exact ⟨rfl, rfl⟩
        rw [show (ds.map fun d => PyData.str (nmOf d)) = (ds.map nmOf).map .str by rw [List.map_map]; rfl]
        have hn6 : (ds.map nmOf).length ≤ 6 := by rw [List.length_map]; exact hl6
        have hlay : ∀ x ∈ ds.map nmOf, PyData.canLay0 (.str x) = true := fun x hx => by
          obtain ⟨d, hm, rfl⟩ := List.mem_map.mp hx
          obtain ⟨y, a, b, c, rfl, e⟩ := rope_is (hall d hm)
          exact ((hd.tup'.2 _ hm).tup'.2 (.str y) List.mem_cons_self).shp.1
        generalize ds.map nmOf = ns at p' hn6 hlay
        walk_at "d"
        refine dE_srtSet ?_
        walk_at "d"
        refine ⟨ns, .inl rfl, by omega, fun ys hnd hys => ?_⟩
        refine dR_eq (d := .list (ns.map .str)) (e := .list ((sortX ys).map .str)) .of .of (Shp.list (n := 20) fun d hm => ?_).shaped (Shp.list (n := 20) fun d hm => ?_).shaped ?_
        · obtain ⟨x, hx, rfl⟩ := List.mem_map.mp hm
          exact .str (hlay x hx)
        · obtain ⟨x, hx, rfl⟩ := List.mem_map.mp hm
          exact .str (hlay x ((hys x).mp ((List.mergeSort_perm ys _).mem_iff.mp hx)))
        rw [strs_eqv, show decide (ns = sortX ys) = risB ns by rw [Bool.eq_iff_iff, decide_eq_true_iff, ris_sort hnd hys]]
        exact rtOf.of p'
    · rw [show decide (1 ≤ ds.length) = false from decide_eq_false (by have := of_decide_eq_false h; omega), Bool.false_and] at p'
      walk_at "d"
      refine ifT rfl ?_
      walk_at "d"
      exact p'
  | _ =>
    refine ifT rfl ?_
    refine ifT rfl ?_
    walk_at "d"
    exact p
end
end K2

namespace K2
open PySem L2 Sd Ma
local macro_rules | `(tactic| walk_at "d1") => `(tactic| first
  | ((with_reducible refine' dE_var ?dv ?_); (case dv => rfl))
  | with_reducible refine' dE_int ?_
  | with_reducible refine' dE_str ?_
  | with_reducible refine' dE_bl ?_
  | with_reducible refine' dE_non ?_
  | ((with_reducible refine' dE_nt ?dv ?_); (case dv => assumption))
  | with_reducible refine' dE_ref ?_
  | with_reducible refine' dE_op ?_
  | with_reducible refine' dE_un ?_
  | with_reducible refine' dE_cmp ?_
  | with_reducible refine' dE_isN ?_
  | with_reducible refine' dE_notN ?_
  | with_reducible refine' dE_call ?_
  | with_reducible refine' dE_cb ?_
  | with_reducible refine' dE_kw ?_
  | with_reducible refine' dE_tup ?_
  | with_reducible refine' dE_if ?_
  | with_reducible refine' dE_and ?_
  | with_reducible refine' dE_or ?_
  | with_reducible refine' dE_not ?_
  | with_reducible refine' dE_sl ?_
  | with_reducible refine' dO_none ?_
  | with_reducible refine' dO_some ?_
  | with_reducible refine' dA_cons ?_
  | with_reducible refine' dA_nil ?_
  | with_reducible refine' dT_B ?_
  | with_reducible refine' dT_test ?_
  | with_reducible refine' dT_and ?_
  | with_reducible refine' dT_or ?_
  | with_reducible refine' dT_not ?_
  | with_reducible refine' dT_yes ?_
  | with_reducible refine' dR_I0i ?_
  | with_reducible refine' dU_neg ?_
  | ((with_reducible refine' dR_ixT ?dv ?_); (case dv => rfl))
  | with_reducible refine' dS_seq ?_
  | with_reducible refine' dS_next ?_
  | with_reducible refine' dS_ret ?_
  | with_reducible refine' dS_drop ?_
  | with_reducible refine' dS_if ?_
  | with_reducible refine' dS_asg ?_
  | with_reducible refine' dS_par ?_
  | with_reducible refine' dG_name ?_
  | ((with_reducible refine' dG_tup ?dv ?_); (case dv => rfl); (dsimp only [List.map]))
  | with_reducible refine' dGs_cons ?_
  | with_reducible refine' dGs_nil ?_
  | with_reducible refine' dC_abs ?_
  | with_reducible refine' dC_max2 ?_
  | with_reducible refine' dC_min2 ?_
  | with_reducible refine' rtOf.of ?_
  | with_reducible refine' ex_cmp ?_
  | with_reducible refine' ex_bool ?_
  | with_reducible refine' ex_int ?_
  | with_reducible refine' ex_list ?_
  | with_reducible refine' ex_tup ?_
  | with_reducible refine' ex_d ?_
  | with_reducible refine' ex_m ?_
  | with_reducible refine' ex_par ?_
  | with_reducible refine' ex_rg1 ?_
  | with_reducible refine' ex_rg2 ?_
  | ((with_reducible refine' ex_dat ?dv ?dw ?_); (case dv => rfl); (case dw => exact Nat.le_of_ble_eq_true rfl))
  | ((fail_if_success (with_reducible show ∃ _, _)); (fail_if_success (with_reducible show _ ∧ _)); refine ⟨_, _, rfl, ?_⟩)
  | ((fail_if_success (with_reducible show ∃ _, _)); (fail_if_success (with_reducible show _ ∧ _)); refine ⟨_, rfl, ?_⟩)
  | fail)
local macro_rules | `(tactic| walk_at "d") => `(tactic| repeat' walk_at "d1")
local macro_rules | `(tactic| walk_at "e1") => `(tactic| first
  | ((with_reducible refine' dE_var ?dv ?_); (case dv => rfl))
  | with_reducible refine' dE_int ?_
  | with_reducible refine' dE_str ?_
  | with_reducible refine' dE_bl ?_
  | with_reducible refine' dE_non ?_
  | ((with_reducible refine' dE_nt ?dv ?_); (case dv => assumption))
  | with_reducible refine' dE_ref ?_
  | with_reducible refine' dE_op ?_
  | with_reducible refine' dE_un ?_
  | with_reducible refine' dE_cmp ?_
  | with_reducible refine' dE_isN ?_
  | with_reducible refine' dE_notN ?_
  | with_reducible refine' dE_call ?_
  | with_reducible refine' dE_cb ?_
  | with_reducible refine' dE_kw ?_
  | with_reducible refine' dE_tup ?_
  | with_reducible refine' dE_if ?_
  | with_reducible refine' dE_and ?_
  | with_reducible refine' dE_or ?_
  | with_reducible refine' dE_not ?_
  | with_reducible refine' dE_sl ?_
  | with_reducible refine' dO_none ?_
  | with_reducible refine' dO_some ?_
  | with_reducible refine' dA_cons ?_
  | with_reducible refine' dA_nil ?_
  | with_reducible refine' dT_B ?_
  | with_reducible refine' dT_test ?_
  | with_reducible refine' dT_and ?_
  | with_reducible refine' dT_or ?_
  | with_reducible refine' dT_not ?_
  | with_reducible refine' dT_yes ?_
  | with_reducible refine' dR_I0i ?_
  | with_reducible refine' dU_neg ?_
  | ((with_reducible refine' dR_ixT ?dv ?_); (case dv => rfl))
  | with_reducible refine' dS_next ?_
  | with_reducible refine' dS_ret ?_
  | with_reducible refine' dS_drop ?_
  | with_reducible refine' dS_if ?_
  | with_reducible refine' dS_asg ?_
  | with_reducible refine' dS_par ?_
  | with_reducible refine' dG_name ?_
  | ((with_reducible refine' dG_tup ?dv ?_); (case dv => rfl); (dsimp only [List.map]))
  | with_reducible refine' dGs_cons ?_
  | with_reducible refine' dGs_nil ?_
  | with_reducible refine' dC_abs ?_
  | with_reducible refine' dC_max2 ?_
  | with_reducible refine' dC_min2 ?_
  | with_reducible refine' rtOf.of ?_
  | with_reducible refine' ex_cmp ?_
  | with_reducible refine' ex_bool ?_
  | with_reducible refine' ex_int ?_
  | with_reducible refine' ex_list ?_
  | with_reducible refine' ex_tup ?_
  | with_reducible refine' ex_d ?_
  | with_reducible refine' ex_m ?_
  | with_reducible refine' ex_par ?_
  | with_reducible refine' ex_rg1 ?_
  | with_reducible refine' ex_rg2 ?_
  | ((with_reducible refine' ex_dat ?dv ?dw ?_); (case dv => rfl); (case dw => exact Nat.le_of_ble_eq_true rfl))
  | ((fail_if_success (with_reducible show ∃ _, _)); (fail_if_success (with_reducible show _ ∧ _)); refine ⟨_, _, rfl, ?_⟩)
  | ((fail_if_success (with_reducible show ∃ _, _)); (fail_if_success (with_reducible show _ ∧ _)); refine ⟨_, rfl, ?_⟩)
  | fail)
local macro_rules | `(tactic| walk_at "e") => `(tactic| repeat' walk_at "e1")

theorem Gn.up {n m : Nat} {d : PyData} (h : Gn n d) (k : n ≤ m) : Gn m d := by
  induction h with
  | non => exact .non
  | bool b => exact .bool b
  | int i h => exact .int i (h.up (by omega))
  | str x h1 h2 => exact .str x (Nat.le_trans h1 (Nat.mul_le_mul_left _ (Nat.pow_le_pow_right (by decide) k))) h2
  | list ds h1 _ ih => exact .list ds (by omega) ih
  | tuple ds h1 _ ih => exact .tuple ds (by omega) ih
mutual
def gB : PyData → Bool
  | .none => true
  | .bool _ => true
  | .int i => decide (i.natAbs < 2 ^ 200)
  | .str x => decide (x.length ≤ 2000) && x.cps.toList.all fun c => decide (c < 128)
  | .list ds => decide (ds.length ≤ 10) && gBs ds
  | .tuple ds => decide (ds.length ≤ 10) && gBs ds
  | .dict _ => false
def gBs : List PyData → Bool
  | [] => true
  | d :: ds => gB d && gBs ds
end
mutual
theorem gB_ok : ∀ d : PyData, gB d = true → Gn 0 d
  | .none, _ => .non
  | .bool b, _ => .bool b
  | .int i, h => by
    rw [gB] at h
    exact .int i (show i.natAbs < 2 ^ 200 from of_decide_eq_true h)
  | .str x, h => by
    rw [gB, Bool.and_eq_true, List.all_eq_true] at h
    exact .str x (by have := of_decide_eq_true h.1; omega) fun c hc => of_decide_eq_true (h.2 c hc)
  | .list ds, h => by
    rw [gB, Bool.and_eq_true] at h
    exact .list ds (by have := of_decide_eq_true h.1; omega) (gBs_ok ds h.2)
  | .tuple ds, h => by
    rw [gB, Bool.and_eq_true] at h
    exact .tuple ds (by have := of_decide_eq_true h.1; omega) (gBs_ok ds h.2)
  | .dict _, h => by rw [gB] at h; cases h
theorem gBs_ok : ∀ ds : List PyData, gBs ds = true → ∀ d ∈ ds, Gn 0 d
  | [], _, _, hm => by cases hm
  | d :: ds, h, e, hm => by
    rw [gBs, Bool.and_eq_true] at h
    have g := gB_ok d h.1
    rcases List.mem_cons.mp hm with hm | hm
    · rw [hm]; exact g
    · exact gBs_ok ds h.2 e hm
end
def oddL : List PyData := [.none, .bool true, .bool false, .int 0, .int 1, .int (-1), .int 5, .int (10 ^ 30), .str "", .str "ann", .tuple [], .list [], .tuple [.int 1, .int 2], .tuple [.int (-1), .int 2], .tuple [.int 2, .int 4], .tuple [.int 0, .int 2], .tuple [.int 0, .int 1]]
  ++ [.tuple [.none], .tuple [.str "ann", .int 1, .int 1, .int 1], .tuple [.str "ann", .int 0, .int 0, .int 1], .tuple [.tuple [.str "ann", .int 0, .int 1, .int 1]], .tuple [.str "ann", .bool true, .int 1, .int 1], .tuple [.int 1, .int 0]]
theorem oddL_g : gBs oddL = true := by decide +kernel
theorem oddL_d : (oddL.all fun d => decide (d.depth ≤ 2)) = true := by decide +kernel
theorem odd_ok {d : PyData} (h : d ∈ oddL) : Gn 0 d ∧ d.depth ≤ 2 := ⟨gBs_ok _ oddL_g d h, of_decide_eq_true (List.all_eq_true.mp oddL_d d h)⟩
section
variable {P : Program} {w : World} {K : PySem.W.Frag} {mg : Str → Option Value} {base : Heap} {f : Addr} {fd : FuncData}
def S_odd : SpD := fun rs M P => ∃ b : Addr, rs = [.m b] ∧ BI M b ∧ ∀ d M', Gn 0 d → d.depth ≤ 2 → BS M b M' → P (.d d) M'
abbrev s_law_odd : Stmt := topS 23
theorem sc_law_odd : FnScope ["bag", "some"] ["bag"] (defScope s_law_odd) := ⟨rfl, rfl, rfl, by decide +kernel, rfl, by decide +kernel, by decide +kernel⟩
theorem ok_law_odd (T : Txt mg) (F : Fun K "_law_odd" "_law_odd" s_law_odd f fd) (c_law_take : Has P w K mg base 1 "_law_take" ["bag", "many"] S_take) : FnOk P w K mg base CX0 2 f fd ["bag"] (spOf K S_odd) := by
  refine ok_of F sc_law_odd (fun rs M P h => by obtain ⟨a, rfl, _⟩ := h; rfl) fun cdv A outer s H E hr => ⟨_, (pss_cons (ps_set (i := 1) sc_law_odd.nd rfl (Or.inl rfl) (pe_lst (pa_cons pe_non (pa_cons pe_bl (pa_cons pe_bl (pa_cons pe_int (pa_cons pe_int (pa_cons (pe_un un_neg pe_int) (pa_cons pe_int (pa_cons (pe_op op_pow pe_int pe_int) (pa_cons pe_str (pa_cons pe_str (pa_cons (pe_tup pa_nil) (pa_cons (pe_lst pa_nil) (pa_cons (pe_tup (pa_cons pe_int (pa_cons pe_int pa_nil))) (pa_cons (pe_tup (pa_cons (pe_un un_neg pe_int) (pa_cons pe_int pa_nil))) (pa_cons (pe_tup (pa_cons pe_int (pa_cons pe_int pa_nil))) (pa_cons (pe_tup (pa_cons pe_int (pa_cons pe_int pa_nil))) (pa_cons (pe_tup (pa_cons pe_int (pa_cons pe_int pa_nil))) pa_nil)))))))))))))))))))
      (pss_cons (ps_set (i := 1) sc_law_odd.nd rfl (Or.inl rfl) (pe_op op_cat (pv 1) (pe_lst (pa_cons (pe_tup (pa_cons pe_non pa_nil)) (pa_cons (pe_tup (pa_cons pe_str (pa_cons pe_int (pa_cons pe_int (pa_cons pe_int pa_nil))))) (pa_cons (pe_tup (pa_cons pe_str (pa_cons pe_int (pa_cons pe_int (pa_cons pe_int pa_nil))))) (pa_cons (pe_tup (pa_cons (pe_tup (pa_cons pe_str (pa_cons pe_int (pa_cons pe_int (pa_cons pe_int pa_nil))))) pa_nil)) (pa_cons (pe_tup (pa_cons pe_str (pa_cons pe_bl (pa_cons pe_int (pa_cons pe_int pa_nil))))) (pa_cons (pe_tup (pa_cons pe_int (pa_cons pe_int pa_nil))) pa_nil)))))))))
      (pss_one (ps_ret (pe_ix (kix_list K) (pv 1) (pe_callH' c_law_take (hr.mono (by first | decide | omega)) rfl (pa_cons (pv 0) (pa_cons (pe_callB (kcall_len K) (by rfl) T.len (by decide +kernel) (pa_cons (pv 1) pa_nil)) pa_nil))) (fun _ _ => rfl)))))), fun rs M P h => ?_⟩
  obtain ⟨b, rfl, hb, p⟩ := h
  walk_at "d"
  refine dE_lst ?_
  walk_at "d"
  refine dR_Ii (show CPow 10 30 from ⟨by decide, by decide, by decide⟩) ?_
  walk_at "d"
  refine dE_lst ?_
  walk_at "d"
  refine dE_lst ?_
  walk_at "d"
  refine dR_cat (.inl rfl) (.inl rfl) (by decide) ?_
  refine dG_name ?_
  have e : ∀ es : List PyData, es = oddL → dS K (tRet (tOp (rIxL K) (tVar 1) (tCall (spOf K S_take) [] E0 (tCons (tVar 0) (tCons (tCB (fun xs H Q => ∃ p ys, xs = [.ref p] ∧ (SqL K H p ys ∨ SqT K H p ys) ∧ Q (.int ys.length) H) (tCons (tVar 1) tNil)) tNil))))) { nx := fun x M' => rtOf P (SV.d PyData.none) M', rt := rtOf P } [some (.m b), some (.d (.list es))] M := fun es hes => by
    walk_at "d"
    refine dC_len (ds := es) (.inl rfl) ?_
    walk_at "d"
    refine ⟨by rw [hes]; decide, by rw [hes]; decide, hb, fun i M' i0 i1 hB => ?_⟩
    obtain ⟨d, hd, hdm⟩ := atI_nat' (es := es) i0 i1
    rw [hes] at hdm
    refine dR_ixL (ds := es) (.inl rfl) hd (rtOf.of (p d M' (odd_ok hdm).1 (odd_ok hdm).2 hB))
  exact e _ rfl
end
end K2

namespace K2
open PySem L2 Sd Ma
local macro_rules | `(tactic| walk_at "d1") => `(tactic| first
  | ((with_reducible refine' dE_var ?dv ?_); (case dv => rfl))
  | with_reducible refine' dE_int ?_
  | with_reducible refine' dE_str ?_
  | with_reducible refine' dE_bl ?_
  | with_reducible refine' dE_non ?_
  | ((with_reducible refine' dE_nt ?dv ?_); (case dv => assumption))
  | with_reducible refine' dE_ref ?_
  | with_reducible refine' dE_op ?_
  | with_reducible refine' dE_un ?_
  | with_reducible refine' dE_cmp ?_
  | with_reducible refine' dE_isN ?_
  | with_reducible refine' dE_notN ?_
  | with_reducible refine' dE_call ?_
  | with_reducible refine' dE_cb ?_
  | with_reducible refine' dE_kw ?_
  | with_reducible refine' dE_tup ?_
  | with_reducible refine' dE_if ?_
  | with_reducible refine' dE_and ?_
  | with_reducible refine' dE_or ?_
  | with_reducible refine' dE_not ?_
  | with_reducible refine' dE_sl ?_
  | with_reducible refine' dO_none ?_
  | with_reducible refine' dO_some ?_
  | with_reducible refine' dA_cons ?_
  | with_reducible refine' dA_nil ?_
  | with_reducible refine' dT_B ?_
  | with_reducible refine' dT_test ?_
  | with_reducible refine' dT_and ?_
  | with_reducible refine' dT_or ?_
  | with_reducible refine' dT_not ?_
  | with_reducible refine' dT_yes ?_
  | with_reducible refine' dR_I0i ?_
  | with_reducible refine' dU_neg ?_
  | ((with_reducible refine' dR_ixT ?dv ?_); (case dv => rfl))
  | with_reducible refine' dS_seq ?_
  | with_reducible refine' dS_next ?_
  | with_reducible refine' dS_ret ?_
  | with_reducible refine' dS_drop ?_
  | with_reducible refine' dS_if ?_
  | with_reducible refine' dS_asg ?_
  | with_reducible refine' dS_par ?_
  | with_reducible refine' dG_name ?_
  | ((with_reducible refine' dG_tup ?dv ?_); (case dv => rfl); (dsimp only [List.map]))
  | with_reducible refine' dGs_cons ?_
  | with_reducible refine' dGs_nil ?_
  | with_reducible refine' dC_abs ?_
  | with_reducible refine' dC_max2 ?_
  | with_reducible refine' dC_min2 ?_
  | with_reducible refine' rtOf.of ?_
  | with_reducible refine' ex_cmp ?_
  | with_reducible refine' ex_bool ?_
  | with_reducible refine' ex_int ?_
  | with_reducible refine' ex_list ?_
  | with_reducible refine' ex_tup ?_
  | with_reducible refine' ex_d ?_
  | with_reducible refine' ex_m ?_
  | with_reducible refine' ex_par ?_
  | with_reducible refine' ex_rg1 ?_
  | with_reducible refine' ex_rg2 ?_
  | ((with_reducible refine' ex_dat ?dv ?dw ?_); (case dv => rfl); (case dw => exact Nat.le_of_ble_eq_true rfl))
  | ((fail_if_success (with_reducible show ∃ _, _)); (fail_if_success (with_reducible show _ ∧ _)); refine ⟨_, _, rfl, ?_⟩)
  | ((fail_if_success (with_reducible show ∃ _, _)); (fail_if_success (with_reducible show _ ∧ _)); refine ⟨_, rfl, ?_⟩)
  | fail)
local macro_rules | `(tactic| walk_at "d") => `(tactic| repeat' walk_at "d1")
local macro_rules | `(tactic| walk_at "e1") => `(tactic| first
  | ((with_reducible refine' dE_var ?dv ?_); (case dv => rfl))
  | with_reducible refine' dE_int ?_
  | with_reducible refine' dE_str ?_
  | with_reducible refine' dE_bl ?_
  | with_reducible refine' dE_non ?_
  | ((with_reducible refine' dE_nt ?dv ?_); (case dv => assumption))
  | with_reducible refine' dE_ref ?_
  | with_reducible refine' dE_op ?_
  | with_reducible refine' dE_un ?_
  | with_reducible refine' dE_cmp ?_
  | with_reducible refine' dE_isN ?_
  | with_reducible refine' dE_notN ?_
  | with_reducible refine' dE_call ?_
  | with_reducible refine' dE_cb ?_
  | with_reducible refine' dE_kw ?_
  | with_reducible refine' dE_tup ?_
  | with_reducible refine' dE_if ?_
  | with_reducible refine' dE_and ?_
  | with_reducible refine' dE_or ?_
  | with_reducible refine' dE_not ?_
  | with_reducible refine' dE_sl ?_
  | with_reducible refine' dO_none ?_
  | with_reducible refine' dO_some ?_
  | with_reducible refine' dA_cons ?_
  | with_reducible refine' dA_nil ?_
  | with_reducible refine' dT_B ?_
  | with_reducible refine' dT_test ?_
  | with_reducible refine' dT_and ?_
  | with_reducible refine' dT_or ?_
  | with_reducible refine' dT_not ?_
  | with_reducible refine' dT_yes ?_
  | with_reducible refine' dR_I0i ?_
  | with_reducible refine' dU_neg ?_
  | ((with_reducible refine' dR_ixT ?dv ?_); (case dv => rfl))
  | with_reducible refine' dS_next ?_
  | with_reducible refine' dS_ret ?_
  | with_reducible refine' dS_drop ?_
  | with_reducible refine' dS_if ?_
  | with_reducible refine' dS_asg ?_
  | with_reducible refine' dS_par ?_
  | with_reducible refine' dG_name ?_
  | ((with_reducible refine' dG_tup ?dv ?_); (case dv => rfl); (dsimp only [List.map]))
  | with_reducible refine' dGs_cons ?_
  | with_reducible refine' dGs_nil ?_
  | with_reducible refine' dC_abs ?_
  | with_reducible refine' dC_max2 ?_
  | with_reducible refine' dC_min2 ?_
  | with_reducible refine' rtOf.of ?_
  | with_reducible refine' ex_cmp ?_
  | with_reducible refine' ex_bool ?_
  | with_reducible refine' ex_int ?_
  | with_reducible refine' ex_list ?_
  | with_reducible refine' ex_tup ?_
  | with_reducible refine' ex_d ?_
  | with_reducible refine' ex_m ?_
  | with_reducible refine' ex_par ?_
  | with_reducible refine' ex_rg1 ?_
  | with_reducible refine' ex_rg2 ?_
  | ((with_reducible refine' ex_dat ?dv ?dw ?_); (case dv => rfl); (case dw => exact Nat.le_of_ble_eq_true rfl))
  | ((fail_if_success (with_reducible show ∃ _, _)); (fail_if_success (with_reducible show _ ∧ _)); refine ⟨_, _, rfl, ?_⟩)
  | ((fail_if_success (with_reducible show ∃ _, _)); (fail_if_success (with_reducible show _ ∧ _)); refine ⟨_, rfl, ?_⟩)
  | fail)
local macro_rules | `(tactic| walk_at "e") => `(tactic| repeat' walk_at "e1")

/-- a tuple or a list -/
def sq (t : Bool) (ds : List PyData) : PyData := if t = true then .tuple ds else .list ds
theorem sq_tup (t : Bool) (ds : List PyData) : isTup (sq t ds) = t := by cases t <;> rfl
theorem sq_tl (t : Bool) (ds : List PyData) : (isTup (sq t ds) || isLst (sq t ds)) = true := by cases t <;> rfl
theorem sq_num (t : Bool) (ds : List PyData) : isNum (sq t ds) = false := by cases t <;> rfl
theorem sq_str (t : Bool) (ds : List PyData) : isStr (sq t ds) = false := by cases t <;> rfl
theorem sq_seq {M : Mem} (t : Bool) (ds : List PyData) : Seq M (.d (sq t ds)) ds := by cases t; exact .inl rfl; exact .inr (.inl rfl)
theorem sq_depth (t : Bool) (ds : List PyData) : (sq t ds).depth = PyData.depthAll ds + 1 := by cases t <;> rfl
theorem sq_of (d : PyData) : (∃ t ds, d = sq t ds) ∨ (isTup d || isLst d) = false := by
  cases d with
  | tuple ds => exact .inl ⟨true, ds, rfl⟩
  | list ds => exact .inl ⟨false, ds, rfl⟩
  | _ => exact .inr rfl
theorem Gn.sqs {n : Nat} {t : Bool} {ds : List PyData} (h : Gn n (sq t ds)) : ds.length ≤ 10 + n ∧ ∀ d ∈ ds, Gn n d := by
  cases t with
  | true =>
    cases (show Gn n (.tuple ds) from h) with
    | tuple _ h1 h2 => exact ⟨h1, h2⟩
  | false =>
    cases (show Gn n (.list ds) from h) with
    | list _ h1 h2 => exact ⟨h1, h2⟩
theorem sq_gn {n : Nat} {t : Bool} {ds : List PyData} (h1 : ds.length ≤ 10 + n) (h2 : ∀ d ∈ ds, Gn n d) : Gn n (sq t ds) := by
  cases t
  · exact .list ds h1 h2
  · exact .tuple ds h1 h2
theorem depth_all {k : Nat} : ∀ {ds : List PyData}, (∀ d ∈ ds, d.depth ≤ k) → PyData.depthAll ds ≤ k
  | [], _ => Nat.zero_le _
  | d :: ds, h => by
    have h1 := h d List.mem_cons_self
    have h2 := depth_all (ds := ds) fun e he => h e (List.mem_cons_of_mem _ he)
    rw [PyData.depthAll]; omega
/-- rows that may stand in place of ds -/
structure Rw (n : Nat) (ds es : List PyData) : Prop where
  len : es.length ≤ 10 + (n + 1)
  gn : ∀ d ∈ es, Gn (n + 1) d
  dp : PyData.depthAll es ≤ PyData.depthAll ds + 2
theorem Rw.sub {n : Nat} {ds es : List PyData} (h : ∀ d ∈ ds, Gn n d) (hl : es.length ≤ 10 + (n + 1)) (hs : ∀ d ∈ es, d ∈ ds) : Rw n ds es :=
  ⟨hl, fun d hd => (h d (hs d hd)).up (by omega), depth_all fun d hd => by have := depth_mem (hs d hd); omega⟩
theorem cut_lo {ds : List PyData} {i : Int} (h0 : 0 ≤ i) (h1 : i ≤ ds.length) : cutD ds none (some i) = ds.take i.toNat := by
  unfold cutD
  obtain ⟨k, rfl⟩ : ∃ k : Nat, i = (k : Int) := ⟨i.toNat, by omega⟩
  rw [HT.sIx_nat, HT.sIx_none, Nat.min_eq_left (by omega)]
  simp
theorem cut_hi {ds : List PyData} {i : Int} (h0 : 0 ≤ i) (h1 : i ≤ ds.length) : cutD ds (some i) none = ds.drop i.toNat := by
  unfold cutD
  obtain ⟨k, rfl⟩ : ∃ k : Nat, i = (k : Int) := ⟨i.toNat, by omega⟩
  rw [HT.sIx_nat, HT.sIx_none, Nat.min_eq_left (by omega), List.take_of_length_le (by rw [List.length_drop]; omega)]
  simp
theorem asc_upper {x : Str} (h : ∀ c ∈ x.cps.toList, c < 128) : (Txt.upper x).length = x.length ∧ ∀ c ∈ (Txt.upper x).cps.toList, c < 128 := by
  rw [PyProof.Rows.upper_ascii h]
  refine ⟨by show (x.cps.map _).size = x.cps.size; rw [Array.size_map], fun c hc => ?_⟩
  rw [Array.toList_map] at hc
  obtain ⟨k, hk, rfl⟩ := List.mem_map.mp hc
  have := h k hk
  unfold PyProof.Rows.up1
  split <;> omega
theorem asc_cut {x : Str} {lo hi : Option Int} (h : ∀ c ∈ x.cps.toList, c < 128) : (cutS x lo hi).length ≤ x.length ∧ ∀ c ∈ (cutS x lo hi).cps.toList, c < 128 := by
  refine ⟨?_, fun c hc => h c ?_⟩
  · show (cutS x lo hi).cps.size ≤ x.cps.size
    unfold cutS
    rw [List.size_toArray, List.length_take, List.length_drop, Array.length_toList]
    omega
  · unfold cutS at hc
    exact List.mem_of_mem_drop (List.mem_of_mem_take hc)
theorem asc_app {x y : Str} (h : ∀ c ∈ x.cps.toList, c < 128) (k : ∀ c ∈ y.cps.toList, c < 128) : (x ++ y).length = x.length + y.length ∧ ∀ c ∈ (x ++ y).cps.toList, c < 128 := by
  refine ⟨by show (x.cps ++ y.cps).size = _; rw [Array.size_append]; rfl, fun c hc => ?_⟩
  have hc' : c ∈ (x.cps ++ y.cps).toList := hc
  rw [Array.toList_append] at hc'
  rcases List.mem_append.mp hc' with hc | hc
  · exact h c hc
  · exact k c hc
theorem num_of {n : Nat} {d : PyData} (hn : isNum d = true) (h : Gn n d) : ∃ i, nuD d = some i ∧ Sz (200 + n) i ∧ d.depth = 0 ∧ ∀ i, d = .int i → i.natAbs.log2 < 200 + n := by
  cases h with
  | bool b => exact ⟨_, rfl, by cases b <;> exact Nat.lt_of_lt_of_le (show _ < 2 ^ 1 by decide) (Nat.pow_le_pow_right (by decide) (by omega)), rfl, fun i e => by cases e⟩
  | int i h =>
    refine ⟨i, rfl, h, rfl, fun j e => ?_⟩
    cases e
    by_cases h0 : i.natAbs = 0
    · rw [h0]; show 0 < _; omega
    · exact (Nat.log2_lt h0).mpr h
  | _ => cases hn
theorem asc_num {d : PyData} (hn : isNum d = true) (hz : ∀ i, d = .int i → i.natAbs.log2 < 1920) : (strNu d).length ≤ 1921 ∧ ∀ c ∈ (strNu d).cps.toList, c < 128 := by
  cases d with
  | int i =>
    refine ⟨PyProof.Rows.int_text_len_1921 (hz i rfl), fun c hc => ?_⟩
    by_cases h : c ≠ 45 ∧ (c < 48 ∨ 57 < c)
    · exact absurd hc (PyProof.Rows.int_text_free' c h i)
    · omega
  | bool b => cases b <;> exact ⟨by decide, by decide⟩
  | _ => cases hn
section
variable {P : Program} {w : World} {K : PySem.W.Frag} {mg : Str → Option Value} {base : Heap} {f : Addr} {fd : FuncData}
/-- but for a row that is thrown away, only the bag has changed -/
theorem bag_only {M M' : Mem} {a b : Addr} (ha : M a = none) (hb : BI M' b) (h : ∀ c, c ≠ a → c ≠ b → M' c = M c) : ∃ M0, BS M b M0 ∧ MSub M0 M' := by
  obtain ⟨ds, h1, h2⟩ := hb
  refine ⟨mset M b ds, ⟨ds, h2, rfl⟩, fun c es e => ?_⟩
  by_cases n : c = b
  · subst n; rw [mset_same] at e; rw [h1, e]
  · rw [mset_ne n] at e
    rw [h c (fun k => by rw [k, ha] at e; cases e) n]
    exact e
def S_sp (m : Nat) : SpD := fun rs M P => ∃ (b : Addr) (n : Nat) (d : PyData), rs = [.m b, .d d] ∧ d.depth < m ∧ n ≤ 7 ∧ Gn n d ∧ BI M b ∧ ∀ d' M', Gn (n + 1) d' → d'.depth ≤ d.depth + 2 → BS M b M' → P (.d d') M'
theorem ok_sp0 {k : Nat} {ps : List Str} : FnOk P w K mg base CX0 k f fd ps (spOf K (S_sp 0)) :=
  ⟨fun vs H Q E h => (let ⟨_, _, _, _, _, _, z, _⟩ := h; let ⟨_, _, _, _, z, _⟩ := z; absurd z (Nat.not_lt_zero _)), fun A outer s H args us vs Q E hr he hb hv h => (let ⟨_, _, _, _, _, _, z, _⟩ := h; let ⟨_, _, _, _, z, _⟩ := z; absurd z (Nat.not_lt_zero _))⟩
abbrev s_law_spoilt : Stmt := topS 22
theorem sc_law_spoilt : FnScope ["bag", "thing", "kind_so", "rows", "at", "other"] ["bag", "thing"] (defScope s_law_spoilt) := ⟨rfl, rfl, rfl, by decide +kernel, rfl, by decide +kernel, by decide +kernel⟩
theorem ok_law_spoilt {m : Nat} (T : Txt mg) (F : Fun K "_law_spoilt" "_law_spoilt" s_law_spoilt f fd) (c_law_take : Has P w K mg base 1 "_law_take" ["bag", "many"] S_take) (c_law_odd : Has P w K mg base 2 "_law_odd" ["bag"] S_odd) (c_law_spoilt : Has P w K mg base (m + 3) "_law_spoilt" ["bag", "thing"] (S_sp m)) : FnOk P w K mg base CX0 (m + 4) f fd ["bag", "thing"] (spOf K (S_sp (m + 1))) := by
  refine ok_of F sc_law_spoilt (fun rs M P h => by obtain ⟨a, b, c, rfl, _⟩ := h; rfl) fun cdv A outer s H E hr => ⟨_, (pss_cons (ps_set (i := 2) sc_law_spoilt.nd rfl (Or.inl rfl) (pe_callH' c_law_take (hr.mono (by first | decide | omega)) rfl (pa_cons (pv 0) (pa_cons pe_int pa_nil))))
      (pss_cons (ps_if (PW.pt (pw_and (pt_val (pe_callB (kcall_isiT K) (by rfl) T.isinstance (by decide +kernel) (pa_cons (pv 1) (pa_cons (pe_tup (pa_cons (pe_bltn (v := .ty "tuple") (by rfl) T.tuple (by decide +kernel) rfl) (pa_cons (pe_bltn (v := .ty "list") (by rfl) T.list (by decide +kernel) rfl) pa_nil))) pa_nil)))) (pw_and (pt_cmp (pc_gt (pe_callB (kcall_len K) (by rfl) T.len (by decide +kernel) (pa_cons (pv 1) pa_nil)) pe_int)) (pw_and1 (pt_cmp (pc_gt (pv 2) pe_int)))))) (pss_cons (ps_set (i := 3) sc_law_spoilt.nd rfl (Or.inl rfl) (pe_callTy (kcall_list K) (by rfl) T.list (by decide +kernel) (pa_cons (pv 1) pa_nil)))
      (pss_cons (ps_set (i := 4) sc_law_spoilt.nd rfl (Or.inl rfl) (pe_callH' c_law_take (hr.mono (by first | decide | omega)) rfl (pa_cons (pv 0) (pa_cons (pe_callB (kcall_len K) (by rfl) T.len (by decide +kernel) (pa_cons (pv 3) pa_nil)) pa_nil))))
      (pss_cons (ps_if (pt_cmp (pc_eqI (pv 2) pe_int)) (pss_one (ps_set (i := 3) sc_law_spoilt.nd rfl (Or.inl rfl) (pe_op op_cat (pe_slice (ksl_list K) (pv 3) po_none (po_some (pv 4))) (pe_slice (ksl_list K) (pv 3) (po_some (pe_op op_add (pv 4) pe_int)) po_none)))) (pss_one (ps_if (pt_cmp (pc_eqI (pv 2) pe_int)) (pss_one (ps_set (i := 3) sc_law_spoilt.nd rfl (Or.inl rfl) (pe_op op_cat (pe_slice (ksl_list K) (pv 3) po_none (po_some (pe_op op_add (pv 4) pe_int))) (pe_slice (ksl_list K) (pv 3) (po_some (pv 4)) po_none)))) (pss_one (ps_if (pt_cmp (pc_eqI (pv 2) pe_int)) (pss_cons (ps_set (i := 5) sc_law_spoilt.nd rfl (Or.inl rfl) (pe_callH' c_law_take (hr.mono (by first | decide | omega)) rfl (pa_cons (pv 0) (pa_cons (pe_callB (kcall_len K) (by rfl) T.len (by decide +kernel) (pa_cons (pv 3) pa_nil)) pa_nil))))
      (pss_one (ps_asg (pe_tup (pa_cons (pe_ix (kix_list K) (pv 3) (pv 5) (fun _ _ => rfl)) (pa_cons (pe_ix (kix_list K) (pv 3) (pv 4) (fun _ _ => rfl)) pa_nil))) (kpg_tup K (n := 2) rfl (pgs_cons (pg_sub (pv 3) (pv 4) set_list) (pgs_cons (pg_sub (pv 3) (pv 5) set_list) pgs_nil)))))) (pss_one (ps_if (pt_cmp (pc_eqI (pv 2) pe_int)) (pss_one (ps_ret (pe_ifExp (pt_val (pe_callB (kcall_isi K) (by rfl) T.isinstance (by decide +kernel) (pa_cons (pv 1) (pa_cons (pe_bltn (v := .ty "tuple") (by rfl) T.tuple (by decide +kernel) rfl) pa_nil)))) (pv 3) (pe_callTy (kcall_tuple K) (by rfl) T.tuple (by decide +kernel) (pa_cons (pv 3) pa_nil))))) (pss_one (ps_asg (pe_callH' c_law_spoilt (hr.mono (by first | decide | omega)) rfl (pa_cons (pv 0) (pa_cons (pe_ix (kix_list K) (pv 3) (pv 4) (fun _ _ => rfl)) pa_nil))) (pg_sub (pv 3) (pv 4) set_list))))))))))
      (pss_one (ps_ret (pe_ifExp (pt_val (pe_callB (kcall_isi K) (by rfl) T.isinstance (by decide +kernel) (pa_cons (pv 1) (pa_cons (pe_bltn (v := .ty "tuple") (by rfl) T.tuple (by decide +kernel) rfl) pa_nil)))) (pe_callTy (kcall_tuple K) (by rfl) T.tuple (by decide +kernel) (pa_cons (pv 3) pa_nil)) (pv 3))))))) pss_nil)
      (pss_cons (ps_if (PW.pt (pw_and (pt_val (pe_callB (kcall_isi K) (by rfl) T.isinstance (by decide +kernel) (pa_cons (pv 1) (pa_cons (pe_bltn (v := .ty "str") (by rfl) T.str (by decide +kernel) rfl) pa_nil)))) (pw_and1 (pt_cmp (pc_gt (pv 2) pe_int))))) (pss_one (ps_ret (pe_ix (kix_list K) (pe_lst (pa_cons (pe_op op_add_str (pv 1) pe_str) (pa_cons (pe_slice sl_str (pv 1) po_none (po_some (pe_un un_neg pe_int))) (pa_cons (pe_op op_add_str (pv 1) pe_str) (pa_cons (pe_upper (pv 1)) (pa_cons (pe_op op_add_str (pv 1) (pv 1)) (pa_cons (pe_op op_add_str pe_str (pv 1)) (pa_cons pe_str pa_nil)))))))) (pe_op op_sub (pv 2) pe_int) (fun _ _ => rfl)))) pss_nil)
      (pss_cons (ps_if (PW.pt (pw_and (pt_val (pe_callB (kcall_isi K) (by rfl) T.isinstance (by decide +kernel) (pa_cons (pv 1) (pa_cons (pe_bltn (v := .ty "int") (by rfl) T.int (by decide +kernel) rfl) pa_nil)))) (pw_and1 (pt_cmp (pc_gt (pv 2) pe_int))))) (pss_one (ps_ret (pe_ix (kix_list K) (pe_lst (pa_cons (pe_op op_addN (pv 1) pe_int) (pa_cons (pe_op op_subN (pv 1) pe_int) (pa_cons (pe_un un_negN (pv 1)) (pa_cons (pe_op op_addN (pv 1) pe_int) (pa_cons (pe_callTy call_strN (by rfl) T.str (by decide +kernel) (pa_cons (pv 1) pa_nil)) (pa_cons (pe_op op_addN (pv 1) pe_int) (pa_cons (pe_tup (pa_cons (pv 1) pa_nil)) pa_nil)))))))) (pe_op op_sub (pv 2) pe_int) (fun _ _ => rfl)))) pss_nil)
      (pss_one (ps_ret (pe_callH' c_law_odd (hr.mono (by first | decide | omega)) rfl (pa_cons (pv 0) pa_nil)))))))), fun rs M P h => ?_⟩
  obtain ⟨b, n, d, rfl, hdm, hn, hg, hb, p⟩ := h
  walk_at "d"
  refine ⟨by decide, by decide, hb, fun kd M1 k0 k1 B1 => ?_⟩
  have hb1 := B1.bi
  walk_at "e"
  refine dS_seq (dS_if (dT_and (dT_B (dE_isiTL ?_))))
  walk_at "d"
  rcases sq_of d with ⟨t, ds, rfl⟩ | hno
  · rw [sq_tl]
    refine ifT rfl ?_
    walk_at "d"
    refine dC_len (sq_seq t ds) ?_
    walk_at "d"
    refine ifB (fun h1 => ?_) (fun h1 => ?_)
    rotate_left
    · refine ifF rfl ?_
      walk_at "d"
      refine dE_ty ?_
      walk_at "d"
      refine dC_isi (kit_str _) ?_
      rw [sq_str]
      walk_at "d"
      refine ifF rfl ?_
      refine ifF rfl ?_
      walk_at "d"
      refine dE_ty ?_
      walk_at "d"
      refine dC_isi (kit_int _) ?_
      rw [sq_num]
      walk_at "d"
      refine ifF rfl ?_
      refine ifF rfl ?_
      walk_at "d"
      refine ⟨hb1, fun d' M2 g dp B2 => ?_⟩
      exact rtOf.of (p d' M2 (g.up (by omega)) (by omega) (B1.trans B2))
    walk_at "d"
    refine ifB (fun h2 => ?_) (fun h2 => ?_)
    rotate_left
    · skip
      walk_at "d"
      refine dE_ty ?_
      walk_at "d"
      refine dC_isi (kit_str _) ?_
      rw [sq_str]
      walk_at "d"
      refine ifF rfl ?_
      refine ifF rfl ?_
      walk_at "d"
      refine dE_ty ?_
      walk_at "d"
      refine dC_isi (kit_int _) ?_
      rw [sq_num]
      walk_at "d"
      refine ifF rfl ?_
      refine ifF rfl ?_
      walk_at "d"
      refine ⟨hb1, fun d' M2 g dp B2 => ?_⟩
      exact rtOf.of (p d' M2 (g.up (by omega)) (by omega) (B1.trans B2))
    have hlen : 0 < ds.length := by have := of_decide_eq_true h1; omega
    obtain ⟨hl, hgs⟩ := hg.sqs
    have hdp := sq_depth t ds
    walk_at "d"
    refine dC_listM (sq_seq t ds) fun a ha => ?_
    have hMa : M a = none := by
      cases e : M a with
      | none => rfl
      | some x =>
        have n1 : a ≠ b := by rintro rfl; obtain ⟨_, e1, _⟩ := hb1; rw [ha] at e1; cases e1
        rw [B1.ne n1, e] at ha; cases ha
    have hab : b ≠ a := by rintro rfl; obtain ⟨_, e1, _⟩ := hb1; rw [ha] at e1; cases e1
    have hb1' : BI (mset M1 a ds) b := by obtain ⟨x, e1, e2⟩ := hb1; exact ⟨x, by rw [mset_ne hab]; exact e1, e2⟩
    walk_at "d"
    refine dC_len (ds := ds) (.inr (.inr ⟨a, rfl, mset_same⟩)) ?_
    walk_at "d"
    refine ⟨by omega, by omega, hb1', fun i M2 i0 i1 B2 => ?_⟩
    have hb2 := B2.bi
    have hm2 : M2 a = some ds := by rw [B2.ne (Ne.symm hab), mset_same]
    have hf2 : ∀ c, c ≠ a → c ≠ b → M2 c = M c := fun c ca cb => by rw [B2.ne cb, mset_ne ca, B1.ne cb]
    clear B2 hb1' hb1 B1 ha
    walk_at "e"
    refine dS_cut (fun δ M' => ∃ (r : SV) (es : List PyData) (x5 : Option SV), δ = [some (.m b), some (.d (sq t ds)), some (.d (.int kd)), some r, some (.d (.int i)), x5] ∧ SeqL M' r es ∧ (∀ c, r = .m c → c = a) ∧ Rw n ds es ∧ BI M' b ∧ ∀ c, c ≠ a → c ≠ b → M' c = M c) ?_ ?_
    · walk_at "d"
      refine ifB (fun h3 => ?_) (fun h3 => ?_)
      · walk_at "d"
        refine dU_slL (.inr ⟨a, rfl, hm2⟩) ?_
        walk_at "d"
        refine dU_slL (.inr ⟨a, rfl, hm2⟩) ?_
        rw [cut_lo i0 (by omega), cut_hi (by omega) (by omega)]
        refine dR_cat (.inl rfl) (.inl rfl) (by rw [List.length_take, List.length_drop]; omega) ?_
        walk_at "d"
        refine ⟨_, _, _, rfl, .inl rfl, (fun c e => by cases e), Rw.sub hgs (by rw [List.length_append, List.length_take, List.length_drop]; omega) fun d hd => ?_, hb2, hf2⟩
        rcases List.mem_append.mp hd with hd | hd
        · exact List.mem_of_mem_take hd
        · exact List.mem_of_mem_drop hd
      walk_at "d"
      refine ifB (fun h4 => ?_) (fun h4 => ?_)
      · walk_at "d"
        refine dU_slL (.inr ⟨a, rfl, hm2⟩) ?_
        walk_at "d"
        refine dU_slL (.inr ⟨a, rfl, hm2⟩) ?_
        rw [cut_lo (by omega) (by omega), cut_hi (by omega) (by omega)]
        refine dR_cat (.inl rfl) (.inl rfl) (by rw [List.length_take, List.length_drop]; omega) ?_
        walk_at "d"
        refine ⟨_, _, _, rfl, .inl rfl, (fun c e => by cases e), Rw.sub hgs (by rw [List.length_append, List.length_take, List.length_drop]; omega) fun d hd => ?_, hb2, hf2⟩
        rcases List.mem_append.mp hd with hd | hd
        · exact List.mem_of_mem_take hd
        · exact List.mem_of_mem_drop hd
      walk_at "d"
      refine ifB (fun h5 => ?_) (fun h5 => ?_)
      · walk_at "d"
        refine dC_len (ds := ds) (.inr (.inr ⟨a, rfl, hm2⟩)) ?_
        walk_at "d"
        refine ⟨by omega, by omega, hb2, fun o M3 o0 o1 B3 => ?_⟩
        have hb3 := B3.bi
        have hm3 : M3 a = some ds := by rw [B3.ne (Ne.symm hab)]; exact hm2
        have hf3 : ∀ c, c ≠ a → c ≠ b → M3 c = M c := fun c ca cb => by rw [B3.ne cb]; exact hf2 c ca cb
        obtain ⟨x, hx, hxm⟩ := atI_nat' (es := ds) o0 o1
        obtain ⟨y, hy, hym⟩ := atI_nat' (es := ds) i0 i1
        walk_at "d"
        refine dR_ixL (.inr ⟨a, rfl, hm3⟩) hx ?_
        walk_at "d"
        refine dR_ixL (.inr ⟨a, rfl, hm3⟩) hy ?_
        walk_at "d"
        refine dG_sub (a := a) (j := i.toNat) (ds := ds) ?_
        walk_at "d"
        refine ⟨rfl, ?_⟩
        walk_at "d"
        refine ⟨by rw [show ((i.toNat : Nat) : Int) = i by omega], hm3, by omega, ?_⟩
        walk_at "d"
        refine dG_sub (a := a) (j := o.toNat) (ds := ds.set i.toNat x) ?_
        walk_at "d"
        refine ⟨rfl, ?_⟩
        walk_at "d"
        refine ⟨by rw [show ((o.toNat : Nat) : Int) = o by omega], mset_same, by rw [List.length_set]; omega, ?_⟩
        walk_at "d"
        refine ⟨_, _, _, rfl, .inr ⟨a, rfl, mset_same⟩, (fun c e => by cases e; rfl), Rw.sub hgs (by rw [List.length_set, List.length_set]; omega) fun d hd => ?_, ?_, fun c ca cb => by rw [mset_ne ca, mset_ne ca]; exact hf3 c ca cb⟩
        · rcases List.mem_or_eq_of_mem_set hd with hd | rfl
          · rcases List.mem_or_eq_of_mem_set hd with hd | rfl
            · exact hd
            · exact hxm
          · exact hym
        · obtain ⟨z, e1, e2⟩ := hb3
          exact ⟨z, by rw [mset_ne hab, mset_ne hab]; exact e1, e2⟩
      walk_at "d"
      refine ifB (fun h6 => ?_) (fun h6 => ?_)
      · have hR : Rw n ds ds := Rw.sub hgs (by omega) fun d hd => hd
        walk_at "d"
        refine dE_ty ?_
        walk_at "d"
        refine dC_isi (kit_tup _) ?_
        rw [sq_tup]
        walk_at "d"
        refine ifB (fun h7 => ?_) (fun h7 => ?_)
        · refine dE_varF rfl hm2 ?_
          obtain ⟨M0, B0, S0⟩ := bag_only (M' := mdel M2 a) hMa (by obtain ⟨z, e1, e2⟩ := hb2; exact ⟨z, by rw [mdel_ne hab]; exact e1, e2⟩) fun c ca cb => by rw [mdel_ne ca]; exact hf2 c ca cb
          exact ⟨M0, p (.list ds) M0 (.list ds hR.len hR.gn) (by rw [PyData.depth]; have := hR.dp; omega) B0, S0⟩
        · walk_at "d"
          refine dC_tuple (.inr ⟨a, rfl, hm2⟩) ?_
          obtain ⟨M0, B0, S0⟩ := bag_only hMa hb2 hf2
          exact ⟨M0, p (.tuple ds) M0 (.tuple ds hR.len hR.gn) (by rw [PyData.depth]; have := hR.dp; omega) B0, S0⟩
      obtain ⟨y, hy, hym⟩ := atI_nat' (es := ds) i0 i1
      walk_at "d"
      refine dR_ixL (.inr ⟨a, rfl, hm2⟩) hy ?_
      walk_at "d"
      refine ⟨b, n, y, rfl, by have := depth_mem hym; omega, hn, hgs y hym, hb2, fun d' M3 g' dp' B3 => ?_⟩
      have hb3 := B3.bi
      have hm3 : M3 a = some ds := by rw [B3.ne (Ne.symm hab)]; exact hm2
      have hf3 : ∀ c, c ≠ a → c ≠ b → M3 c = M c := fun c ca cb => by rw [B3.ne cb]; exact hf2 c ca cb
      refine dG_sub (a := a) (j := i.toNat) (ds := ds) ?_
      walk_at "d"
      refine ⟨rfl, ?_⟩
      walk_at "d"
      refine ⟨by rw [show ((i.toNat : Nat) : Int) = i by omega], hm3, by omega, ?_⟩
      refine ⟨_, _, _, rfl, .inr ⟨a, rfl, mset_same⟩, (fun c e => by cases e; rfl), ⟨by rw [List.length_set]; omega, fun d hd => ?_, depth_all fun d hd => ?_⟩, ?_, fun c ca cb => by rw [mset_ne ca]; exact hf3 c ca cb⟩
      · rcases List.mem_or_eq_of_mem_set hd with hd | rfl
        · exact (hgs d hd).up (by omega)
        · exact g'
      · rcases List.mem_or_eq_of_mem_set hd with hd | rfl
        · have := depth_mem hd; omega
        · have := depth_mem hym; omega
      · obtain ⟨z, e1, e2⟩ := hb3
        exact ⟨z, by rw [mset_ne hab]; exact e1, e2⟩
    · rintro δ M' ⟨r, es, x5, rfl, hs, hra, hR, hb', hf'⟩
      walk_at "d"
      refine dE_ty ?_
      walk_at "d"
      refine dC_isi (kit_tup _) ?_
      rw [sq_tup]
      walk_at "d"
      refine ifB (fun h7 => ?_) (fun h7 => ?_)
      · walk_at "d"
        refine dC_tuple hs ?_
        obtain ⟨M0, B0, S0⟩ := bag_only hMa hb' hf'
        exact ⟨M0, p (.tuple es) M0 (.tuple es hR.len hR.gn) (by rw [PyData.depth]; have := hR.dp; omega) B0, S0⟩
      · rcases hs with rfl | ⟨c, rfl, hm⟩
        · refine dE_var rfl ?_
          obtain ⟨M0, B0, S0⟩ := bag_only hMa hb' hf'
          exact ⟨M0, p (.list es) M0 (.list es hR.len hR.gn) (by rw [PyData.depth]; have := hR.dp; omega) B0, S0⟩
        · obtain rfl := hra c rfl
          refine dE_varF rfl hm ?_
          obtain ⟨M0, B0, S0⟩ := bag_only (M' := mdel M' c) hMa (by obtain ⟨z, e1, e2⟩ := hb'; exact ⟨z, by rw [mdel_ne hab]; exact e1, e2⟩) fun k ca cb => by rw [mdel_ne ca]; exact hf' k ca cb
          exact ⟨M0, p (.list es) M0 (.list es hR.len hR.gn) (by rw [PyData.depth]; have := hR.dp; omega) B0, S0⟩
  · rw [hno]
    refine ifF rfl ?_
    refine ifF rfl ?_
    walk_at "d"
    refine dE_ty ?_
    walk_at "d"
    refine dC_isi (kit_str d) ?_
    walk_at "d"
    have oddly : ∀ d' M2, Gn 0 d' → d'.depth ≤ 2 → BS M1 b M2 → rtOf P (.d d') M2 := fun d' M2 g dp B2 => rtOf.of (p d' M2 (g.up (by omega)) (by omega) (B1.trans B2))
    cases hs : isStr d with
    | true =>
      cases d with
      | str x =>
        refine ifT rfl ?_
        walk_at "d"
        refine ifB (fun h1 => ?_) (fun h1 => ?_)
        · have hk : 1 < kd := of_decide_eq_true h1
          cases hg with
          | str _ hl hc =>
            have h2n : 2 ^ (n + 1) = 2 ^ n * 2 := Nat.pow_succ 2 n
            have h2p : 0 < 2 ^ n := Nat.pow_pos (by decide)
            have h2h : 2 ^ n ≤ 2 ^ 7 := Nat.pow_le_pow_right (by decide) hn
            have ca : ∀ c ∈ (Str.ofString "a").cps.toList, c < 128 := by decide
            have cb : ∀ c ∈ (Str.ofString " ").cps.toList, c < 128 := by decide
            have cz : ∀ c ∈ (Str.ofString "z").cps.toList, c < 128 := by decide
            have la : (Str.ofString "a").length = 1 := by decide
            have lb : (Str.ofString " ").length = 1 := by decide
            have lz : (Str.ofString "z").length = 1 := by decide
            walk_at "d"
            refine dE_lst ?_
            walk_at "d"
            refine dR_addS (by omega) ?_
            walk_at "d"
            refine dU_slS (by omega) ?_
            walk_at "d"
            refine dR_addS (by omega) ?_
            walk_at "d"
            refine dE_upper ?_
            walk_at "d"
            refine ⟨x, rfl, by omega, ?_⟩
            walk_at "d"
            refine dR_addS (by omega) ?_
            walk_at "d"
            refine dR_addS (by omega) ?_
            walk_at "d"
            obtain ⟨d', hd, hdm'⟩ := atI_nat' (α := PyData) (es := [.str (x ++ Str.ofString "a"), .str (cutS x none (some (-1))), .str (x ++ Str.ofString " "), .str (Txt.upper x), .str (x ++ x), .str (Str.ofString "z" ++ x), .str (Str.ofString "")]) (i := kd - 2) (by omega) (by show kd - 2 < 7; omega)
            refine dR_ixL (.inl rfl) hd ?_
            have hall : Gn (n + 1) d' ∧ d'.depth = 0 := by
              have a1 := asc_app hc ca
              have a2 := asc_cut (lo := none) (hi := some (-1)) hc
              have a3 := asc_app hc cb
              have a4 := asc_upper hc
              have a5 := asc_app hc hc
              have a6 := asc_app cz hc
              simp only [List.mem_cons, List.not_mem_nil, or_false] at hdm'
              rcases hdm' with rfl | rfl | rfl | rfl | rfl | rfl | rfl
              · exact ⟨.str _ (by omega) a1.2, rfl⟩
              · exact ⟨.str _ (by omega) a2.2, rfl⟩
              · exact ⟨.str _ (by omega) a3.2, rfl⟩
              · exact ⟨.str _ (by omega) a4.2, rfl⟩
              · exact ⟨.str _ (by omega) a5.2, rfl⟩
              · exact ⟨.str _ (by omega) a6.2, rfl⟩
              · exact ⟨.str _ (Nat.zero_le _) (by decide), rfl⟩
            exact rtOf.of (p d' M1 hall.1 (by omega) B1)
        · walk_at "d"
          refine dE_ty ?_
          walk_at "d"
          refine dC_isi (kit_int _) ?_
          walk_at "d"
          refine ifF rfl ?_
          refine ifF rfl ?_
          walk_at "d"
          exact ⟨hb1, oddly⟩
      | _ => cases hs
    | false =>
      refine ifF rfl ?_
      refine ifF rfl ?_
      walk_at "d"
      refine dE_ty ?_
      walk_at "d"
      refine dC_isi (kit_int _) ?_
      walk_at "d"
      cases hm : isNum d with
      | true =>
        refine ifT rfl ?_
        walk_at "d"
        refine ifB (fun h1 => ?_) (fun h1 => ?_)
        · have hk : 1 < kd := of_decide_eq_true h1
          obtain ⟨i, hi, hz, h0, hlog⟩ := num_of hm hg
          have hlog' : ∀ i, d = .int i → i.natAbs.log2 < 1920 := fun i e => by have := hlog i e; omega
          walk_at "d"
          refine dE_lst ?_
          walk_at "d"
          refine dR_num hi ?_
          walk_at "d"
          refine dR_num hi ?_
          walk_at "d"
          refine dU_negN hi ?_
          walk_at "d"
          refine dR_num hi ?_
          walk_at "d"
          refine dC_strN hm hlog' ?_
          walk_at "d"
          refine dR_num hi ?_
          walk_at "d"
          obtain ⟨d', hd, hdm'⟩ := atI_nat' (α := PyData) (es := [.int (i + 1), .int (i - 1), .int (-i), .int (i + 1000), .str (strNu d), .int (i + 50), .tuple [d]]) (i := kd - 2) (by omega) (by show kd - 2 < 7; omega)
          refine dR_ixL (.inl rfl) hd ?_
          have sm : ∀ j : Int, j.natAbs < 2 ^ 20 → Sz (200 + n) j := fun j h => Sz.up (m := 20) h (by omega)
          have hall : Gn (n + 1) d' ∧ d'.depth ≤ 1 := by
            simp only [List.mem_cons, List.not_mem_nil, or_false] at hdm'
            rcases hdm' with rfl | rfl | rfl | rfl | rfl | rfl | rfl
            · exact ⟨.int _ (hz.add (sm _ (by decide))), Nat.zero_le _⟩
            · exact ⟨.int _ (hz.sub (sm _ (by decide))), Nat.zero_le _⟩
            · exact ⟨.int _ (by show (-i).natAbs < _; rw [Int.natAbs_neg]; exact Sz.up hz (by omega)), Nat.zero_le _⟩
            · exact ⟨.int _ (hz.add (sm _ (by decide))), Nat.zero_le _⟩
            · have := asc_num hm hlog'
              have h2p : 0 < 2 ^ (n + 1) := Nat.pow_pos (by decide)
              exact ⟨.str _ (by omega) this.2, Nat.zero_le _⟩
            · exact ⟨.int _ (hz.add (sm _ (by decide))), Nat.zero_le _⟩
            · refine ⟨.tuple _ (by show 1 ≤ _; omega) fun e he => ?_, ?_⟩
              · obtain rfl := List.mem_singleton.mp he
                exact hg.up (by omega)
              · rw [PyData.depth, PyData.depthAll, PyData.depthAll, h0]
                decide
          exact rtOf.of (p d' M1 hall.1 (by omega) B1)
        · walk_at "d"
          exact ⟨hb1, oddly⟩
      | false =>
        refine ifF rfl ?_
        refine ifF rfl ?_
        walk_at "d"
        exact ⟨hb1, oddly⟩
end
end K2

namespace K2
open PySem L2 Sd Ma
local macro_rules | `(tactic| walk_at "d1") => `(tactic| first
  | ((with_reducible refine' dE_var ?dv ?_); (case dv => rfl))
  | with_reducible refine' dE_int ?_
  | with_reducible refine' dE_str ?_
  | with_reducible refine' dE_bl ?_
  | with_reducible refine' dE_non ?_
  | ((with_reducible refine' dE_nt ?dv ?_); (case dv => assumption))
  | with_reducible refine' dE_ref ?_
  | with_reducible refine' dE_op ?_
  | with_reducible refine' dE_un ?_
  | with_reducible refine' dE_cmp ?_
  | with_reducible refine' dE_isN ?_
  | with_reducible refine' dE_notN ?_
  | with_reducible refine' dE_call ?_
  | with_reducible refine' dE_cb ?_
  | with_reducible refine' dE_kw ?_
  | with_reducible refine' dE_tup ?_
  | with_reducible refine' dE_if ?_
  | with_reducible refine' dE_and ?_
  | with_reducible refine' dE_or ?_
  | with_reducible refine' dE_not ?_
  | with_reducible refine' dE_sl ?_
  | with_reducible refine' dO_none ?_
  | with_reducible refine' dO_some ?_
  | with_reducible refine' dA_cons ?_
  | with_reducible refine' dA_nil ?_
  | with_reducible refine' dT_B ?_
  | with_reducible refine' dT_test ?_
  | with_reducible refine' dT_and ?_
  | with_reducible refine' dT_or ?_
  | with_reducible refine' dT_not ?_
  | with_reducible refine' dT_yes ?_
  | with_reducible refine' dR_I0i ?_
  | with_reducible refine' dU_neg ?_
  | ((with_reducible refine' dR_ixT ?dv ?_); (case dv => rfl))
  | with_reducible refine' dS_seq ?_
  | with_reducible refine' dS_next ?_
  | with_reducible refine' dS_ret ?_
  | with_reducible refine' dS_drop ?_
  | with_reducible refine' dS_if ?_
  | with_reducible refine' dS_asg ?_
  | with_reducible refine' dS_par ?_
  | with_reducible refine' dG_name ?_
  | ((with_reducible refine' dG_tup ?dv ?_); (case dv => rfl); (dsimp only [List.map]))
  | with_reducible refine' dGs_cons ?_
  | with_reducible refine' dGs_nil ?_
  | with_reducible refine' dC_abs ?_
  | with_reducible refine' dC_max2 ?_
  | with_reducible refine' dC_min2 ?_
  | with_reducible refine' rtOf.of ?_
  | with_reducible refine' ex_cmp ?_
  | with_reducible refine' ex_bool ?_
  | with_reducible refine' ex_int ?_
  | with_reducible refine' ex_list ?_
  | with_reducible refine' ex_tup ?_
  | with_reducible refine' ex_d ?_
  | with_reducible refine' ex_m ?_
  | with_reducible refine' ex_par ?_
  | with_reducible refine' ex_rg1 ?_
  | with_reducible refine' ex_rg2 ?_
  | ((with_reducible refine' ex_dat ?dv ?dw ?_); (case dv => rfl); (case dw => exact Nat.le_of_ble_eq_true rfl))
  | ((fail_if_success (with_reducible show ∃ _, _)); (fail_if_success (with_reducible show _ ∧ _)); refine ⟨_, _, rfl, ?_⟩)
  | ((fail_if_success (with_reducible show ∃ _, _)); (fail_if_success (with_reducible show _ ∧ _)); refine ⟨_, rfl, ?_⟩)
  | fail)
local macro_rules | `(tactic| walk_at "d") => `(tactic| repeat' walk_at "d1")
local macro_rules | `(tactic| walk_at "e1") => `(tactic| first
  | ((with_reducible refine' dE_var ?dv ?_); (case dv => rfl))
  | with_reducible refine' dE_int ?_
  | with_reducible refine' dE_str ?_
  | with_reducible refine' dE_bl ?_
  | with_reducible refine' dE_non ?_
  | ((with_reducible refine' dE_nt ?dv ?_); (case dv => assumption))
  | with_reducible refine' dE_ref ?_
  | with_reducible refine' dE_op ?_
  | with_reducible refine' dE_un ?_
  | with_reducible refine' dE_cmp ?_
  | with_reducible refine' dE_isN ?_
  | with_reducible refine' dE_notN ?_
  | with_reducible refine' dE_call ?_
  | with_reducible refine' dE_cb ?_
  | with_reducible refine' dE_kw ?_
  | with_reducible refine' dE_tup ?_
  | with_reducible refine' dE_if ?_
  | with_reducible refine' dE_and ?_
  | with_reducible refine' dE_or ?_
  | with_reducible refine' dE_not ?_
  | with_reducible refine' dE_sl ?_
  | with_reducible refine' dO_none ?_
  | with_reducible refine' dO_some ?_
  | with_reducible refine' dA_cons ?_
  | with_reducible refine' dA_nil ?_
  | with_reducible refine' dT_B ?_
  | with_reducible refine' dT_test ?_
  | with_reducible refine' dT_and ?_
  | with_reducible refine' dT_or ?_
  | with_reducible refine' dT_not ?_
  | with_reducible refine' dT_yes ?_
  | with_reducible refine' dR_I0i ?_
  | with_reducible refine' dU_neg ?_
  | ((with_reducible refine' dR_ixT ?dv ?_); (case dv => rfl))
  | with_reducible refine' dS_next ?_
  | with_reducible refine' dS_ret ?_
  | with_reducible refine' dS_drop ?_
  | with_reducible refine' dS_if ?_
  | with_reducible refine' dS_asg ?_
  | with_reducible refine' dS_par ?_
  | with_reducible refine' dG_name ?_
  | ((with_reducible refine' dG_tup ?dv ?_); (case dv => rfl); (dsimp only [List.map]))
  | with_reducible refine' dGs_cons ?_
  | with_reducible refine' dGs_nil ?_
  | with_reducible refine' dC_abs ?_
  | with_reducible refine' dC_max2 ?_
  | with_reducible refine' dC_min2 ?_
  | with_reducible refine' rtOf.of ?_
  | with_reducible refine' ex_cmp ?_
  | with_reducible refine' ex_bool ?_
  | with_reducible refine' ex_int ?_
  | with_reducible refine' ex_list ?_
  | with_reducible refine' ex_tup ?_
  | with_reducible refine' ex_d ?_
  | with_reducible refine' ex_m ?_
  | with_reducible refine' ex_par ?_
  | with_reducible refine' ex_rg1 ?_
  | with_reducible refine' ex_rg2 ?_
  | ((with_reducible refine' ex_dat ?dv ?dw ?_); (case dv => rfl); (case dw => exact Nat.le_of_ble_eq_true rfl))
  | ((fail_if_success (with_reducible show ∃ _, _)); (fail_if_success (with_reducible show _ ∧ _)); refine ⟨_, _, rfl, ?_⟩)
  | ((fail_if_success (with_reducible show ∃ _, _)); (fail_if_success (with_reducible show _ ∧ _)); refine ⟨_, rfl, ?_⟩)
  | fail)
local macro_rules | `(tactic| walk_at "e") => `(tactic| repeat' walk_at "e1")

theorem gn_fine {r : Rope} (h : r.Fine) (hn : r.n ∈ names6) : Gn 0 r.d := by
  have z : ∀ i : Int, 0 ≤ i → i ≤ 1000000 → Gn 0 (.int i) := fun i h0 h1 => .int i (Sz.up (m := 40) (sz_lt h0 (by omega)) (by decide))
  refine .tuple _ (show 4 ≤ 10 by decide) fun d hd => ?_
  simp only [List.mem_cons, List.not_mem_nil, or_false] at hd
  rcases hd with rfl | rfl | rfl | rfl
  · have : gBs (names6.map .str) = true := by decide +kernel
    exact gBs_ok _ this _ (List.mem_map_of_mem hn)
  · exact z _ h.a0 (by have := h.a1; omega)
  · exact z _ (by have := h.b0; omega) (by have := h.b1; omega)
  · exact z _ (by have := h.c0; omega) (by have := h.c1; omega)
theorem rope_dep (r : Rope) : r.d.depth = 1 := rfl
theorem bun_gn {ro : List Rope} (h : Bun ro) : ro.length ≤ 6 ∧ ∀ d ∈ ro.map Rope.d, Gn 0 d ∧ d.depth ≤ 1 := by
  have hl : ro.length ≤ 6 := h.len
  refine ⟨hl, fun d hd => ?_⟩
  obtain ⟨r, hr, rfl⟩ := List.mem_map.mp hd
  refine ⟨gn_fine (h.fine r hr) ?_, Nat.le_of_eq (rope_dep r)⟩
  have : r.n ∈ ro.map Rope.n := List.mem_map_of_mem hr
  rw [h.nam] at this
  exact List.mem_of_mem_take this
theorem tup_gd {ds : List PyData} {n k : Nat} (hl : ds.length ≤ 10 + n) (h : ∀ d ∈ ds, Gn n d ∧ d.depth ≤ k) : Gn n (.tuple ds) ∧ (PyData.tuple ds).depth ≤ k + 1 :=
  ⟨.tuple _ hl fun d hd => (h d hd).1, by rw [PyData.depth]; have := depth_all fun d hd => (h d hd).2; omega⟩
theorem lst_gd {ds : List PyData} {n k : Nat} (hl : ds.length ≤ 10 + n) (h : ∀ d ∈ ds, Gn n d ∧ d.depth ≤ k) : Gn n (.list ds) ∧ (PyData.list ds).depth ≤ k + 1 :=
  ⟨.list _ hl fun d hd => (h d hd).1, by rw [PyData.depth]; have := depth_all fun d hd => (h d hd).2; omega⟩
theorem gd_of {d : PyData} {n k : Nat} (h : Gn n d ∧ d.depth ≤ k) (hn : n ≤ 8 := by decide) (hk : k ≤ 20 := by decide) : Gd d := ⟨n, hn, h.1, Nat.le_trans h.2 hk⟩
def sevD (c : Nat) : PyData := .tuple [.str (Str.ofString "r" ++ ⟨#[c]⟩), .int 0, .int 1, .int 1]
def sevL : List PyData := (Str.ofString "abcdefg").cps.toList.map sevD
theorem sevL_g : gBs sevL = true := by decide +kernel
theorem sevL_d : (sevL.all fun d => decide (d.depth ≤ 1)) = true := by decide +kernel
theorem sev_ok {d : PyData} (h : d ∈ sevL) : Gn 0 d ∧ d.depth ≤ 1 := ⟨gBs_ok _ sevL_g d h, of_decide_eq_true (List.all_eq_true.mp sevL_d d h)⟩
def nums8 : List Int := [0, 1, 100, 101, 1000, 1001, 1000000, 1000001]
theorem nums_g : gBs (nums8.map .int) = true := by decide +kernel
theorem cutD_mem {ds : List PyData} {lo hi : Option Int} {d : PyData} (h : d ∈ cutD ds lo hi) : d ∈ ds := by
  unfold cutD at h
  exact List.mem_of_mem_drop (List.mem_of_mem_take h)
theorem sIx_m1 (n d : Nat) : HT.sIx n d (some (-1)) = n - 1 := by
  show (if (-1 : Int) < 0 then (-1 + (n : Int)).toNat else min (-1 : Int).toNat n) = n - 1
  rw [if_pos (by decide)]
  omega
theorem cutD_len {ds : List PyData} : (cutD ds (some (-1)) none).length = min 1 ds.length := by
  unfold cutD
  rw [HT.sIx_none, List.length_take, List.length_drop, sIx_m1]
  omega
section
variable {P : Program} {w : World} {K : PySem.W.Frag} {mg : Str → Option Value} {base : Heap} {f : Addr} {fd : FuncData}
abbrev s_law : Stmt := topS 31
theorem sc_law : FnScope ["script", "k", "bag", "bundle", "load", "seven", "numbers", "edge", "some", "thing", "turn", "told", "letter", "said"] ["script"] (defScope s_law) := ⟨rfl, rfl, rfl, by decide +kernel, rfl, by decide +kernel, by decide +kernel⟩
set_option maxRecDepth 100000 in
theorem ok_law (T : Txt mg) (F : Fun K "law" "law" s_law f fd) (c_law_bag : Has P w K mg base 1 "_law_bag" ["script", "k"] S_bag) (c_law_bundle : Has P w K mg base 3 "_law_bundle" ["bag", "most"] S_bundle)
    (c_law_load : Has P w K mg base 2 "_law_load" ["bag"] S_load) (c_law_of : Has P w K mg base 2 "_law_of" ["bag", "some"] S_of) (c_law_odd : Has P w K mg base 2 "_law_odd" ["bag"] S_odd)
    (c_is_bundle : Has P w K mg base 4 "is_bundle" ["thing"] S_isbun) (c_law_is_bundle : Has P w K mg base 3 "_law_is_bundle" ["thing"] S_isbun) (c_is_load : Has P w K mg base 3 "is_load" ["thing"] S_isload) (c_law_is_load : Has P w K mg base 2 "_law_is_load" ["thing"] S_isload)
    (c_law_spoilt : Has P w K mg base 18 "_law_spoilt" ["bag", "thing"] (S_sp 15)) : FnOk P w K mg base CX0 19 f fd ["script"] (spOf K S_law) := by
  refine ok_of F sc_law (fun rs M P h => by obtain ⟨a, rfl, _⟩ := h; rfl) fun cdv A outer s H E hr => ⟨_, (pss_cons (ps_for PassesOwn.never rfl (pi_range1 (by rfl) T.range (pa_cons (pe_op op_add pe_int (pe_callB (call_min2 rfl) (by rfl) T.min (by decide +kernel) (pa_cons (pe_callB (kcall_len K) (by rfl) T.len (by decide +kernel) (pa_cons (pv 0) pa_nil)) (pa_cons pe_int pa_nil)))) pa_nil)) (pg_name (i := 1) sc_law.nd rfl (Or.inl rfl)) (pss_cons (ps_set (i := 2) sc_law.nd rfl (Or.inr rfl) (pe_callH' c_law_bag (hr.mono (by first | decide | omega)) rfl (pa_cons (pv 0) (pa_cons (pv 1) pa_nil))))
      (pss_cons (ps_par (i := 3) (j := 4) (by rfl) sc_law.nd rfl rfl (by decide) rfl rfl (pa_cons (pe_callH' c_law_bundle (hr.mono (by first | decide | omega)) rfl (pa_cons (pv 2) (pa_cons pe_int pa_nil))) (pa_cons (pe_callH' c_law_load (hr.mono (by first | decide | omega)) rfl (pa_cons (pv 2) pa_nil)) pa_nil)) (by rfl))
      (pss_cons (ps_set (i := 5) sc_law.nd rfl (Or.inl rfl) (pe_callTy (kcall_tuple K) (by rfl) T.tuple (by decide +kernel) (pa_cons (pe_lc (own := [("letter", 12)]) (by rfl) sc_law.nd (pi_str pe_str) (blkOk_by (N := ["script", "k", "bag", "bundle", "load", "seven", "numbers", "edge", "some", "thing", "turn", "told", "letter", "said"]) (sc := defScope s_law) (own := [("letter", 12)]) (by decide +kernel)) (fun _ _ _ _ _ => (pg_name (i := 12) sc_law.nd rfl (Or.inl rfl))) (fun _ _ _ _ _ => pts_nil) (fun _ _ _ _ _ => (pe_tup (pa_cons (pe_op op_add_str pe_str (pv 12)) (pa_cons pe_int (pa_cons pe_int (pa_cons pe_int pa_nil))))))) pa_nil)))
      (pss_cons (ps_setLc (i := 6) (own := [("turn", 10)]) (by rfl) sc_law.nd rfl rfl (sw_true rfl rfl rfl (by decide +kernel)) (pi_range1 (by rfl) T.range (pa_cons pe_int pa_nil)) (blkOk_by (N := ["script", "k", "bag", "bundle", "load", "seven", "numbers", "edge", "some", "thing", "turn", "told", "letter", "said"]) (sc := defScope s_law) (own := [("turn", 10)]) (by decide +kernel)) (fun _ _ _ _ _ => (pg_name (i := 10) sc_law.nd rfl (Or.inl rfl))) (fun _ _ _ _ _ => pts_nil) (fun _ _ _ _ _ => (pe_callH' c_law_of (hr.mono (by first | decide | omega)) rfl (pa_cons (pv 2) (pa_cons (pe_lst (pa_cons pe_int (pa_cons pe_int (pa_cons pe_int (pa_cons pe_int (pa_cons pe_int (pa_cons pe_int (pa_cons pe_int (pa_cons pe_int pa_nil))))))))) pa_nil)))))
      (pss_cons (ps_set (i := 7) sc_law.nd rfl (Or.inl rfl) (pe_tup (pa_cons (pe_op (kop_catT K) (pe_tup (pa_cons pe_str pa_nil)) (pe_callTy (kcall_tuple K) (by rfl) T.tuple (by decide +kernel) (pa_cons (pv 6) pa_nil))) pa_nil)))
      (pss_cons (ps_set (i := 8) sc_law.nd rfl (Or.inl rfl) (pe_lst (pa_cons (pv 5) (pa_cons (pe_slice (ksl_tup K) (pv 5) po_none (po_some pe_int)) (pa_cons (pe_revT K (pv 3)) (pa_cons (pe_callTy (kcall_list K) (by rfl) T.list (by decide +kernel) (pa_cons (pv 3) pa_nil)) (pa_cons (pv 7) (pa_cons (pe_ix (kix_tup K) (pv 7) pe_int (fun _ _ => rfl)) (pa_cons (pe_op (kop_catT K) (pv 3) (pe_slice (ksl_tupA K) (pv 3) (po_some (pe_un un_neg pe_int)) po_none)) (pa_cons (pe_tup pa_nil) pa_nil))))))))))
      (pss_cons (ps_for PassesOwn.never rfl (kpi_list K (pe_op op_cat (pv 8) (pe_lst (pa_cons (pe_callH' c_law_odd (hr.mono (by first | decide | omega)) rfl (pa_cons (pv 2) pa_nil)) pa_nil)))) (pg_name (i := 9) sc_law.nd rfl (Or.inl rfl)) (pss_one (ps_if (PW.pt (pw_or (pt_cmpR (kop_neD K hr.units) (pe_callH' c_is_bundle (hr.mono (by first | decide | omega)) rfl (pa_cons (pv 9) pa_nil)) (pe_callH' c_law_is_bundle (hr.mono (by first | decide | omega)) rfl (pa_cons (pv 9) pa_nil)) (nomark _)) (pw_or1 (pt_cmpR (kop_neD K hr.units) (pe_callH' c_is_load (hr.mono (by first | decide | omega)) rfl (pa_cons (pv 9) pa_nil)) (pe_callH' c_law_is_load (hr.mono (by first | decide | omega)) rfl (pa_cons (pv 9) pa_nil)) (nomark _))))) (pss_one (ps_ret pe_bl)) pss_nil)))
      (pss_one (ps_for PassesOwn.never rfl (pi_range1 (by rfl) T.range (pa_cons pe_int pa_nil)) (pg_name (i := 10) sc_law.nd rfl (Or.inl rfl)) (pss_cons (ps_set (i := 11) sc_law.nd rfl (Or.inl rfl) (pe_lst (pa_cons (pe_callH' c_is_bundle (hr.mono (by first | decide | omega)) rfl (pa_cons (pv 3) pa_nil)) (pa_cons (pe_callH' c_is_load (hr.mono (by first | decide | omega)) rfl (pa_cons (pv 4) pa_nil)) pa_nil))))
      (pss_cons (ps_if (pt_cmpR (kop_neD K hr.units) (pv 11) (pe_lst (pa_cons (pe_callH' c_law_is_bundle (hr.mono (by first | decide | omega)) rfl (pa_cons (pv 3) pa_nil)) (pa_cons (pe_callH' c_law_is_load (hr.mono (by first | decide | omega)) rfl (pa_cons (pv 4) pa_nil)) pa_nil))) (nomark _)) (pss_one (ps_ret pe_bl)) pss_nil)
      (pss_cons (ps_if (pt_cmpR (kop_neD K hr.units) (pe_lc (own := [("said", 13)]) (by rfl) sc_law.nd (kpi_list K (pv 11)) (blkOk_by (N := ["script", "k", "bag", "bundle", "load", "seven", "numbers", "edge", "some", "thing", "turn", "told", "letter", "said"]) (sc := defScope s_law) (own := [("said", 13)]) (by decide +kernel)) (fun _ _ _ _ _ => (pg_name (i := 13) sc_law.nd rfl (Or.inl rfl))) (fun _ _ _ _ _ => (pts_one (pt_not (pt_val (pe_callB (kcall_isi K) (by rfl) T.isinstance (by decide +kernel) (pa_cons (pv 13) (pa_cons (pe_bltn (v := .ty "bool") (by rfl) T.bool (by decide +kernel) rfl) pa_nil))))))) (fun _ _ _ _ _ => (pv 13))) (pe_lst pa_nil) (nomark _)) (pss_one (ps_ret pe_bl)) pss_nil)
      (pss_one (ps_par (i := 3) (j := 4) (by rfl) sc_law.nd rfl rfl (by decide) rfl rfl (pa_cons (pe_callH' c_law_spoilt (hr.mono (by first | decide | omega)) rfl (pa_cons (pv 2) (pa_cons (pv 3) pa_nil))) (pa_cons (pe_callH' c_law_spoilt (hr.mono (by first | decide | omega)) rfl (pa_cons (pv 2) (pa_cons (pv 4) pa_nil))) pa_nil)) (by rfl))))))))))))))))
      (pss_one (ps_ret pe_bl))), fun rs M P h => ?_⟩
  obtain ⟨ns, rfl, hns, p⟩ := h
  walk_at "d"
  refine dS_range1 ?_
  walk_at "d"
  refine dC_lenS ?_
  walk_at "d"
  refine ⟨by split <;> omega, fun i δ M' => ∃ (x1 x2 x3 x4 x5 x6 x7 x8 x9 x10 x11 x12 x13 : Option SV), δ = [some (.l ns), x1, x2, x3, x4, x5, x6, x7, x8, x9, x10, x11, x12, x13] ∧ MSub M M',
    ⟨_, _, _, _, _, _, _, _, _, _, _, _, _, rfl, MSub.refl⟩, fun i δ M' hi hI => ?_, fun δ M' hI => ?_⟩
  · obtain ⟨x1, x2, x3, x4, x5, x6, x7, x8, x9, x10, x11, x12, x13, rfl, hM⟩ := hI
    have hi' : (i : Int) < 1000 := by split at hi <;> omega
    walk_at "d"
    refine ⟨by omega, hi', fun b ds hb hB => ?_⟩
    have hMb : M b = none := by
      cases q : M b with
      | none => rfl
      | some es => rw [hM b es q] at hb; cases hb
    walk_at "d"
    refine ⟨by decide, by decide, ⟨ds, mset_same, hB⟩, fun ro M1 hro B1 => ?_⟩
    have hM1 : MSub M M1 := msub_bs (msub_set hM hMb) hMb B1
    have hI1 := B1.bi
    clear B1 hB hb hM
    walk_at "d"
    refine ⟨hI1, fun q M2 hq0 hq1 hq2 B2 => ?_⟩
    have hM2 : MSub M M2 := msub_bs hM1 hMb B2
    have hI2 := B2.bi
    clear B2 hI1 hM1
    obtain ⟨hl6, hrg⟩ := bun_gn hro
    have gl : Gn 0 (fr q) ∧ (fr q).depth ≤ 1 := ⟨.tuple _ (show 2 ≤ 10 by decide) fun d hd => by
      simp only [List.mem_cons, List.not_mem_nil, or_false] at hd
      rcases hd with rfl | rfl
      · exact .int _ (Sz.up (m := 40) (sz_lt hq0.p0 (by omega)) (by decide))
      · exact .int _ (Sz.up (m := 40) (sz_lt (Int.le_of_lt hq0.q0) (by omega)) (by decide)), Nat.le_refl _⟩
    have gb : Gn 0 (bd ro) ∧ (bd ro).depth ≤ 2 := tup_gd (by rw [List.length_map]; omega) hrg
    walk_at "d"
    refine dE_lcS (gw_name 12) ?_
    walk_at "d"
    refine ⟨_, rfl, by decide, fun i acc M' => M' = M2 ∧ acc = ((Str.ofString "abcdefg").cps.toList.take i).map sevD, ⟨rfl, rfl⟩, fun i c acc M' hc hI => ?_, fun acc M' hI => .inl ?_⟩
    · obtain ⟨rfl, rfl⟩ := hI
      walk_at "d"
      refine ifT rfl ?_
      walk_at "d"
      refine dR_addS (Nat.le_trans (show 1 + 1 ≤ 2 by decide) (by decide)) ?_
      walk_at "d"
      refine ⟨rfl, ?_⟩
      rw [List.take_succ, Array.getElem?_toList, hc, List.map_append]
      rfl
    obtain ⟨rfl, rfl⟩ := hI
    rw [show ((Str.ofString "abcdefg").cps.toList.take (Str.ofString "abcdefg").cps.size).map sevD = sevL by rw [show (Str.ofString "abcdefg").cps.size = (Str.ofString "abcdefg").cps.toList.length from Array.length_toList.symm, List.take_length]; rfl]
    walk_at "d"
    refine dC_tuple (.inl rfl) ?_
    walk_at "d"
    refine dE_lcR (gw_name 10) ?_
    walk_at "d"
    refine ⟨by decide, fun i3 acc M4 => BS M' b M4 ∧ acc.length = i3 ∧ ∀ d ∈ acc, d ∈ nums8.map PyData.int, ⟨hI2.refl, rfl, fun d hd => by cases hd⟩, fun i3 acc M4 hi3 hI3 => ?_, fun acc M4 hI3 => .inl ?_⟩
    · obtain ⟨B4, hal, ham⟩ := hI3
      walk_at "d"
      refine ifT rfl ?_
      walk_at "d"
      refine dE_lst ?_
      walk_at "d"
      refine ⟨b, _, nums8.map .int, rfl, .inl rfl, (fun e => by cases e), by decide, by decide, B4.bi, fun d M5 hd B5 => ?_⟩
      refine ⟨_, rfl, B4.trans B5, by rw [List.length_append, hal]; rfl, fun z hz => ?_⟩
      rcases List.mem_append.mp hz with h | h
      · exact ham z h
      · rw [List.mem_singleton.mp h]; exact hd
    obtain ⟨B4, hal, ham⟩ := hI3
    have hM4 : MSub M M4 := msub_bs hM2 hMb B4
    have hI4 := B4.bi
    clear B4 hI2 hM2
    have ga : ∀ d ∈ acc, Gn 0 d ∧ d.depth ≤ 0 := fun d hd => ⟨gBs_ok _ nums_g d (ham d hd), by obtain ⟨i, _, rfl⟩ := List.mem_map.mp (ham d hd); exact Nat.le_refl _⟩
    have hal3 : acc.length = 3 := hal
    have hane : acc ≠ [] := fun e => by rw [e] at hal3; cases hal3
    walk_at "d"
    refine dC_tuple (.inl rfl) ?_
    walk_at "d"
    refine dR_catT (by simp) hane (by rw [hal3]; decide) ?_
    have ge : Gn 0 (.tuple ([PyData.str "ann"] ++ acc)) ∧ (PyData.tuple ([PyData.str "ann"] ++ acc)).depth ≤ 1 := tup_gd (by rw [List.length_append, hal3]; decide) fun d hd => by
      rcases List.mem_append.mp hd with h | h
      · rw [List.mem_singleton.mp h]; exact ⟨gB_ok _ (by decide +kernel), Nat.le_refl _⟩
      · exact ga d h
    generalize hed : PyData.tuple ([PyData.str "ann"] ++ acc) = ed at ge
    walk_at "d"
    refine dE_lst ?_
    walk_at "d"
    refine dU_slT (by decide +kernel) ?_
    walk_at "d"
    refine dE_revT ?_
    walk_at "d"
    refine dC_list (.inr (.inl rfl)) ?_
    walk_at "d"
    refine dU_slA ?_
    walk_at "d"
    have hrone : ro ≠ [] := hro.ne
    refine dR_catT (by simpa using hrone) (fun e => ?_) (by have := cutD_len (ds := ro.map Rope.d); rw [List.length_map] at this ⊢; omega) ?_
    · have h1 := cutD_len (ds := ro.map Rope.d)
      have hp : 0 < ro.length := List.length_pos_iff.mpr hrone
      rw [e, List.length_map] at h1
      simp at h1
      omega
    walk_at "d"
    refine dS_forL ?_
    walk_at "d"
    refine dE_lst ?_
    walk_at "d"
    refine ⟨hI4, fun od M5 og odp B5 => ?_⟩
    have hM5 : MSub M M5 := msub_bs hM4 hMb B5
    have hI5 := B5.bi
    clear B5 hI4 hM4
    walk_at "d"
    refine dR_cat (.inl rfl) (.inl rfl) (by show 8 + 1 ≤ 100000; decide) ?_
    have gsev : Gd (.tuple sevL) := gd_of (tup_gd (k := 1) (n := 0) (by decide) fun d hd => sev_ok hd)
    have gall : ∀ d ∈ [PyData.tuple sevL, .tuple (cutD sevL none (some 6)), .tuple (ro.map Rope.d).reverse, .list (ro.map Rope.d), .tuple [ed], ed, .tuple (ro.map Rope.d ++ cutD (ro.map Rope.d) (some (-1)) none), .tuple []] ++ [od], Gd d := fun d hd => by
      rcases List.mem_append.mp hd with hd | hd
      · simp only [List.mem_cons, List.not_mem_nil, or_false] at hd
        rcases hd with rfl | rfl | rfl | rfl | rfl | rfl | rfl | rfl
        · exact gsev
        · exact gd_of (tup_gd (k := 1) (n := 0) (by decide) fun d hd => sev_ok (cutD_mem hd))
        · exact gd_of (tup_gd (k := 1) (n := 0) (by rw [List.length_reverse, List.length_map]; omega) fun d hd => hrg d (List.mem_reverse.mp hd))
        · exact gd_of (lst_gd (k := 1) (n := 0) (by rw [List.length_map]; omega) hrg)
        · exact gd_of (tup_gd (k := 1) (n := 0) (show 1 ≤ 10 by decide) fun d hd => by rw [List.mem_singleton.mp hd]; exact ge)
        · exact gd_of ge
        · refine gd_of (tup_gd (k := 1) (n := 0) (by rw [List.length_append, cutD_len, List.length_map]; omega) fun d hd => ?_)
          rcases List.mem_append.mp hd with hd | hd
          · exact hrg d hd
          · exact hrg d (cutD_mem hd)
        · exact gd_of (tup_gd (k := 1) (n := 0) (show 0 ≤ 10 by decide) fun d hd => by cases hd)
      · rw [List.mem_singleton.mp hd]
        exact gd_of ⟨og, odp⟩
    generalize hth : [PyData.tuple sevL, .tuple (cutD sevL none (some 6)), .tuple (ro.map Rope.d).reverse, .list (ro.map Rope.d), .tuple [ed], ed, .tuple (ro.map Rope.d ++ cutD (ro.map Rope.d) (some (-1)) none), .tuple []] ++ [od] = things at gall
    refine ⟨things, by rw [← hth], fun _ δ M' => ∃ (x8 x9 : Option SV), δ = [some (.l ns), some (.d (.int (i : Int))), some (.m b), some (.d (bd ro)), some (.d (fr q)), some (.d (.tuple sevL)), some (.d (.list acc)), some (.d (.tuple [ed])), x8, x9, x10, x11, x12, x13] ∧ M' = M5, ⟨_, _, rfl, rfl⟩, fun j x δ M' hx hI => ?_, fun δ M' hI => ?_⟩
    · obtain ⟨x8, x9, rfl, rfl⟩ := hI
      have hg := gall x (List.mem_of_getElem? hx)
      walk_at "d"
      refine ⟨hg, ?_⟩
      walk_at "d"
      refine ⟨hg, ?_⟩
      walk_at "d"
      refine dR_ne_same .of .of (Shp.bool (n := 0)).shaped ?_
      walk_at "d"
      refine ifF rfl ?_
      walk_at "d"
      refine ⟨hg, ?_⟩
      walk_at "d"
      refine ⟨hg, ?_⟩
      walk_at "d"
      refine dR_ne_same .of .of (Shp.bool (n := 0)).shaped ?_
      walk_at "d"
      refine ifF rfl ?_
      walk_at "d"
      exact ⟨_, _, rfl, rfl⟩
    obtain ⟨x8, x9, rfl, rfl⟩ := hI
    clear gall hth gsev
    walk_at "d"
    refine dS_range1 ?_
    walk_at "d"
    refine ⟨by decide, fun j δ M' => ∃ (B L : PyData) (x10 x11 x12 x13 : Option SV), δ = [some (.l ns), some (.d (.int (i : Int))), some (.m b), some (.d B), some (.d L), some (.d (.tuple sevL)), some (.d (.list acc)), some (.d (.tuple [ed])), x8, x9, x10, x11, x12, x13] ∧ MSub M M' ∧ BI M' b ∧ (Gn j B ∧ B.depth ≤ 2 + 2 * j) ∧ (Gn j L ∧ L.depth ≤ 2 + 2 * j),
      ⟨_, _, _, _, _, _, rfl, hM5, hI5, gb, ⟨gl.1, Nat.le_succ_of_le gl.2⟩⟩, fun j δ M' hj hI => ?_, fun δ M' hI => ?_⟩
    · obtain ⟨B, L, x10, x11, x12, x13, rfl, hM, hb, hB, hL⟩ := hI
      have hj6 : j < 6 := by omega
      have gB' : Gd B := gd_of hB (by omega) (by omega)
      have gL' : Gd L := gd_of hL (by omega) (by omega)
      walk_at "d"
      refine dE_lst ?_
      walk_at "d"
      refine ⟨gB', ?_⟩
      walk_at "d"
      refine ⟨gL', ?_⟩
      walk_at "d"
      refine dE_lst ?_
      walk_at "d"
      refine ⟨gB', ?_⟩
      walk_at "d"
      refine ⟨gL', ?_⟩
      walk_at "d"
      refine dR_ne_same .of .of (Shp.list (n := 0) fun d hd => ?_).shaped ?_
      · simp only [List.mem_cons, List.not_mem_nil, or_false] at hd
        rcases hd with rfl | rfl <;> exact Shp.bool
      walk_at "d"
      refine ifF rfl ?_
      walk_at "d"
      refine dE_lcLf (enc := fun k => .bool k) (out := fun k => .bool k) (pt := fun _ => false) (xs := [bunB B, fracB L]) ?_
      walk_at "d"
      refine ⟨rfl, rfl, by show 2 ≤ 40000; decide, fun x hx => ?_, (fun x hx h => by cases h), .inl ?_⟩
      · walk_at "d"
        refine dE_ty ?_
        walk_at "d"
        refine dC_isi (kit_bool _) ?_
        walk_at "d"
        exact ⟨rfl, rfl⟩
      walk_at "d"
      refine dE_lst ?_
      walk_at "d"
      refine dR_ne_same (d := .list []) .of .of rfl ?_
      walk_at "d"
      refine ifF rfl ?_
      walk_at "d"
      refine ⟨b, j, B, rfl, by omega, by omega, hB.1, hb, fun B' M6 gB6 dB6 BB6 => ?_⟩
      walk_at "d"
      refine ⟨b, j, L, rfl, by omega, by omega, hL.1, BB6.bi, fun L' M7 gL7 dL7 BB7 => ?_⟩
      walk_at "d"
      exact ⟨B', L', _, _, _, _, rfl, msub_bs (msub_bs hM hMb BB6) hMb BB7, BB7.bi, ⟨gB6, by omega⟩, ⟨gL7, by omega⟩⟩
    · obtain ⟨B, L, x10, x11, x12, x13, rfl, hM, _⟩ := hI
      exact ⟨_, _, _, _, _, _, _, _, _, _, _, _, _, rfl, hM⟩
  · obtain ⟨x1, x2, x3, x4, x5, x6, x7, x8, x9, x10, x11, x12, x13, rfl, hM⟩ := hI
    exact dS_ret (dE_bl ⟨M, p, hM⟩)
end
end K2

namespace K2
open PySem L2 Sd Ma
theorem all_mk {l : PySem.W.OpenLaw} {w : World} {K : PySem.W.Frag} {h : Heap} {mg : Str → Option Value} {fa : Addr} (X : K.In h) (G : h.Ns mainGlobals mg) (hfa : mg "law" = some (.ref fa))
    {f_is_whole : Addr} {od0 an0 : Option Addr} {sl0 : Array (Option Value)} {oc0 kV0 dc0 pm0 cd0 ct0 : Value}
    {f_is_name : Addr} {od1 an1 : Option Addr} {sl1 : Array (Option Value)} {oc1 kV1 dc1 pm1 cd1 ct1 : Value}
    {f_is_fraction : Addr} {od2 an2 : Option Addr} {sl2 : Array (Option Value)} {oc2 kV2 dc2 pm2 cd2 ct2 : Value}
    {f_common_divisor : Addr} {od3 an3 : Option Addr} {sl3 : Array (Option Value)} {oc3 kV3 dc3 pm3 cd3 ct3 : Value}
    {f_is_bundle : Addr} {od4 an4 : Option Addr} {sl4 : Array (Option Value)} {oc4 kV4 dc4 pm4 cd4 ct4 : Value}
    {f_is_load : Addr} {od5 an5 : Option Addr} {sl5 : Array (Option Value)} {oc5 kV5 dc5 pm5 cd5 ct5 : Value}
    {f_is_rope : Addr} {od6 an6 : Option Addr} {sl6 : Array (Option Value)} {oc6 kV6 dc6 pm6 cd6 ct6 : Value}
    {f_is_within : Addr} {od7 an7 : Option Addr} {sl7 : Array (Option Value)} {oc7 kV7 dc7 pm7 cd7 ct7 : Value}
    {f_law_bag : Addr} {od8 an8 : Option Addr} {sl8 : Array (Option Value)} {oc8 kV8 dc8 pm8 cd8 ct8 : Value}
    {f_law_take : Addr} {od9 an9 : Option Addr} {sl9 : Array (Option Value)} {oc9 kV9 dc9 pm9 cd9 ct9 : Value}
    {f_law_of : Addr} {od10 an10 : Option Addr} {sl10 : Array (Option Value)} {oc10 kV10 dc10 pm10 cd10 ct10 : Value}
    {f_law_whole : Addr} {od11 an11 : Option Addr} {sl11 : Array (Option Value)} {oc11 kV11 dc11 pm11 cd11 ct11 : Value}
    {f_law_within : Addr} {od12 an12 : Option Addr} {sl12 : Array (Option Value)} {oc12 kV12 dc12 pm12 cd12 ct12 : Value}
    {f_law_is_name : Addr} {od13 an13 : Option Addr} {sl13 : Array (Option Value)} {oc13 kV13 dc13 pm13 cd13 ct13 : Value}
    {f_law_spoilt : Addr} {od14 an14 : Option Addr} {sl14 : Array (Option Value)} {oc14 kV14 dc14 pm14 cd14 ct14 : Value}
    {f_law_odd : Addr} {od15 an15 : Option Addr} {sl15 : Array (Option Value)} {oc15 kV15 dc15 pm15 cd15 ct15 : Value}
    {f_law_lowest : Addr} {od16 an16 : Option Addr} {sl16 : Array (Option Value)} {oc16 kV16 dc16 pm16 cd16 ct16 : Value}
    {f_law_rope : Addr} {od17 an17 : Option Addr} {sl17 : Array (Option Value)} {oc17 kV17 dc17 pm17 cd17 ct17 : Value}
    {f_law_bundle : Addr} {od18 an18 : Option Addr} {sl18 : Array (Option Value)} {oc18 kV18 dc18 pm18 cd18 ct18 : Value}
    {f_law_load : Addr} {od19 an19 : Option Addr} {sl19 : Array (Option Value)} {oc19 kV19 dc19 pm19 cd19 ct19 : Value}
    {f_law_is_rope : Addr} {od20 an20 : Option Addr} {sl20 : Array (Option Value)} {oc20 kV20 dc20 pm20 cd20 ct20 : Value}
    {f_law_is_bundle : Addr} {od21 an21 : Option Addr} {sl21 : Array (Option Value)} {oc21 kV21 dc21 pm21 cd21 ct21 : Value}
    {f_law_is_load : Addr} {od22 an22 : Option Addr} {sl22 : Array (Option Value)} {oc22 kV22 dc22 pm22 cd22 ct22 : Value}
    {f_law : Addr} {od23 an23 : Option Addr} {sl23 : Array (Option Value)} {oc23 kV23 dc23 pm23 cd23 ct23 : Value}
    {t_MOST_LETTERS : Tok}
    {t_MOST_SLACK : Tok}
    {t_MOST_STIFF : Tok}
    {t_MOST_STRONG : Tok}
    {t_MOST_ROPES : Tok}
    (a0 : PySem.W.nsIn K mainGlobals "is_whole" = some (some (.ref f_is_whole))) (l0 : K.lookup f_is_whole = some ⟨oc0, od0, .func (PySem.W.fnOf "is_whole" "is_whole" (defArgs s_is_whole) (defBody s_is_whole) (defScope s_is_whole) .none kV0 dc0 pm0 an0 cd0 ct0), sl0⟩) (c0 : PySem.W.codeIn K cd0 "is_whole" = true) (k0 : PySem.W.keepIn K (.ref f_is_whole) = true)
    (a1 : PySem.W.nsIn K mainGlobals "is_name" = some (some (.ref f_is_name))) (l1 : K.lookup f_is_name = some ⟨oc1, od1, .func (PySem.W.fnOf "is_name" "is_name" (defArgs s_is_name) (defBody s_is_name) (defScope s_is_name) .none kV1 dc1 pm1 an1 cd1 ct1), sl1⟩) (c1 : PySem.W.codeIn K cd1 "is_name" = true) (k1 : PySem.W.keepIn K (.ref f_is_name) = true)
    (a2 : PySem.W.nsIn K mainGlobals "is_fraction" = some (some (.ref f_is_fraction))) (l2 : K.lookup f_is_fraction = some ⟨oc2, od2, .func (PySem.W.fnOf "is_fraction" "is_fraction" (defArgs s_is_fraction) (defBody s_is_fraction) (defScope s_is_fraction) .none kV2 dc2 pm2 an2 cd2 ct2), sl2⟩) (c2 : PySem.W.codeIn K cd2 "is_fraction" = true) (k2 : PySem.W.keepIn K (.ref f_is_fraction) = true)
    (a3 : PySem.W.nsIn K mainGlobals "common_divisor" = some (some (.ref f_common_divisor))) (l3 : K.lookup f_common_divisor = some ⟨oc3, od3, .func (PySem.W.fnOf "common_divisor" "common_divisor" (defArgs s_common_divisor) (defBody s_common_divisor) (defScope s_common_divisor) .none kV3 dc3 pm3 an3 cd3 ct3), sl3⟩) (c3 : PySem.W.codeIn K cd3 "common_divisor" = true) (k3 : PySem.W.keepIn K (.ref f_common_divisor) = true)
    (a4 : PySem.W.nsIn K mainGlobals "is_bundle" = some (some (.ref f_is_bundle))) (l4 : K.lookup f_is_bundle = some ⟨oc4, od4, .func (PySem.W.fnOf "is_bundle" "is_bundle" (defArgs s_is_bundle) (defBody s_is_bundle) (defScope s_is_bundle) .none kV4 dc4 pm4 an4 cd4 ct4), sl4⟩) (c4 : PySem.W.codeIn K cd4 "is_bundle" = true) (k4 : PySem.W.keepIn K (.ref f_is_bundle) = true)
    (a5 : PySem.W.nsIn K mainGlobals "is_load" = some (some (.ref f_is_load))) (l5 : K.lookup f_is_load = some ⟨oc5, od5, .func (PySem.W.fnOf "is_load" "is_load" (defArgs s_is_load) (defBody s_is_load) (defScope s_is_load) .none kV5 dc5 pm5 an5 cd5 ct5), sl5⟩) (c5 : PySem.W.codeIn K cd5 "is_load" = true) (k5 : PySem.W.keepIn K (.ref f_is_load) = true)
    (a6 : PySem.W.nsIn K mainGlobals "is_rope" = some (some (.ref f_is_rope))) (l6 : K.lookup f_is_rope = some ⟨oc6, od6, .func (PySem.W.fnOf "is_rope" "is_rope" (defArgs s_is_rope) (defBody s_is_rope) (defScope s_is_rope) .none kV6 dc6 pm6 an6 cd6 ct6), sl6⟩) (c6 : PySem.W.codeIn K cd6 "is_rope" = true) (k6 : PySem.W.keepIn K (.ref f_is_rope) = true)
    (a7 : PySem.W.nsIn K mainGlobals "is_within" = some (some (.ref f_is_within))) (l7 : K.lookup f_is_within = some ⟨oc7, od7, .func (PySem.W.fnOf "is_within" "is_within" (defArgs s_is_within) (defBody s_is_within) (defScope s_is_within) .none kV7 dc7 pm7 an7 cd7 ct7), sl7⟩) (c7 : PySem.W.codeIn K cd7 "is_within" = true) (k7 : PySem.W.keepIn K (.ref f_is_within) = true)
    (a8 : PySem.W.nsIn K mainGlobals "_law_bag" = some (some (.ref f_law_bag))) (l8 : K.lookup f_law_bag = some ⟨oc8, od8, .func (PySem.W.fnOf "_law_bag" "_law_bag" (defArgs s_law_bag) (defBody s_law_bag) (defScope s_law_bag) .none kV8 dc8 pm8 an8 cd8 ct8), sl8⟩) (c8 : PySem.W.codeIn K cd8 "_law_bag" = true) (k8 : PySem.W.keepIn K (.ref f_law_bag) = true)
    (a9 : PySem.W.nsIn K mainGlobals "_law_take" = some (some (.ref f_law_take))) (l9 : K.lookup f_law_take = some ⟨oc9, od9, .func (PySem.W.fnOf "_law_take" "_law_take" (defArgs s_law_take) (defBody s_law_take) (defScope s_law_take) .none kV9 dc9 pm9 an9 cd9 ct9), sl9⟩) (c9 : PySem.W.codeIn K cd9 "_law_take" = true) (k9 : PySem.W.keepIn K (.ref f_law_take) = true)
    (a10 : PySem.W.nsIn K mainGlobals "_law_of" = some (some (.ref f_law_of))) (l10 : K.lookup f_law_of = some ⟨oc10, od10, .func (PySem.W.fnOf "_law_of" "_law_of" (defArgs s_law_of) (defBody s_law_of) (defScope s_law_of) .none kV10 dc10 pm10 an10 cd10 ct10), sl10⟩) (c10 : PySem.W.codeIn K cd10 "_law_of" = true) (k10 : PySem.W.keepIn K (.ref f_law_of) = true)
    (a11 : PySem.W.nsIn K mainGlobals "_law_whole" = some (some (.ref f_law_whole))) (l11 : K.lookup f_law_whole = some ⟨oc11, od11, .func (PySem.W.fnOf "_law_whole" "_law_whole" (defArgs s_law_whole) (defBody s_law_whole) (defScope s_law_whole) .none kV11 dc11 pm11 an11 cd11 ct11), sl11⟩) (c11 : PySem.W.codeIn K cd11 "_law_whole" = true) (k11 : PySem.W.keepIn K (.ref f_law_whole) = true)
    (a12 : PySem.W.nsIn K mainGlobals "_law_within" = some (some (.ref f_law_within))) (l12 : K.lookup f_law_within = some ⟨oc12, od12, .func (PySem.W.fnOf "_law_within" "_law_within" (defArgs s_law_within) (defBody s_law_within) (defScope s_law_within) .none kV12 dc12 pm12 an12 cd12 ct12), sl12⟩) (c12 : PySem.W.codeIn K cd12 "_law_within" = true) (k12 : PySem.W.keepIn K (.ref f_law_within) = true)
    (a13 : PySem.W.nsIn K mainGlobals "_law_is_name" = some (some (.ref f_law_is_name))) (l13 : K.lookup f_law_is_name = some ⟨oc13, od13, .func (PySem.W.fnOf "_law_is_name" "_law_is_name" (defArgs s_law_is_name) (defBody s_law_is_name) (defScope s_law_is_name) .none kV13 dc13 pm13 an13 cd13 ct13), sl13⟩) (c13 : PySem.W.codeIn K cd13 "_law_is_name" = true) (k13 : PySem.W.keepIn K (.ref f_law_is_name) = true)
    (a14 : PySem.W.nsIn K mainGlobals "_law_spoilt" = some (some (.ref f_law_spoilt))) (l14 : K.lookup f_law_spoilt = some ⟨oc14, od14, .func (PySem.W.fnOf "_law_spoilt" "_law_spoilt" (defArgs s_law_spoilt) (defBody s_law_spoilt) (defScope s_law_spoilt) .none kV14 dc14 pm14 an14 cd14 ct14), sl14⟩) (c14 : PySem.W.codeIn K cd14 "_law_spoilt" = true) (k14 : PySem.W.keepIn K (.ref f_law_spoilt) = true)
    (a15 : PySem.W.nsIn K mainGlobals "_law_odd" = some (some (.ref f_law_odd))) (l15 : K.lookup f_law_odd = some ⟨oc15, od15, .func (PySem.W.fnOf "_law_odd" "_law_odd" (defArgs s_law_odd) (defBody s_law_odd) (defScope s_law_odd) .none kV15 dc15 pm15 an15 cd15 ct15), sl15⟩) (c15 : PySem.W.codeIn K cd15 "_law_odd" = true) (k15 : PySem.W.keepIn K (.ref f_law_odd) = true)
    (a16 : PySem.W.nsIn K mainGlobals "_law_lowest" = some (some (.ref f_law_lowest))) (l16 : K.lookup f_law_lowest = some ⟨oc16, od16, .func (PySem.W.fnOf "_law_lowest" "_law_lowest" (defArgs s_law_lowest) (defBody s_law_lowest) (defScope s_law_lowest) .none kV16 dc16 pm16 an16 cd16 ct16), sl16⟩) (c16 : PySem.W.codeIn K cd16 "_law_lowest" = true) (k16 : PySem.W.keepIn K (.ref f_law_lowest) = true)
    (a17 : PySem.W.nsIn K mainGlobals "_law_rope" = some (some (.ref f_law_rope))) (l17 : K.lookup f_law_rope = some ⟨oc17, od17, .func (PySem.W.fnOf "_law_rope" "_law_rope" (defArgs s_law_rope) (defBody s_law_rope) (defScope s_law_rope) .none kV17 dc17 pm17 an17 cd17 ct17), sl17⟩) (c17 : PySem.W.codeIn K cd17 "_law_rope" = true) (k17 : PySem.W.keepIn K (.ref f_law_rope) = true)
    (a18 : PySem.W.nsIn K mainGlobals "_law_bundle" = some (some (.ref f_law_bundle))) (l18 : K.lookup f_law_bundle = some ⟨oc18, od18, .func (PySem.W.fnOf "_law_bundle" "_law_bundle" (defArgs s_law_bundle) (defBody s_law_bundle) (defScope s_law_bundle) .none kV18 dc18 pm18 an18 cd18 ct18), sl18⟩) (c18 : PySem.W.codeIn K cd18 "_law_bundle" = true) (k18 : PySem.W.keepIn K (.ref f_law_bundle) = true)
    (a19 : PySem.W.nsIn K mainGlobals "_law_load" = some (some (.ref f_law_load))) (l19 : K.lookup f_law_load = some ⟨oc19, od19, .func (PySem.W.fnOf "_law_load" "_law_load" (defArgs s_law_load) (defBody s_law_load) (defScope s_law_load) .none kV19 dc19 pm19 an19 cd19 ct19), sl19⟩) (c19 : PySem.W.codeIn K cd19 "_law_load" = true) (k19 : PySem.W.keepIn K (.ref f_law_load) = true)
    (a20 : PySem.W.nsIn K mainGlobals "_law_is_rope" = some (some (.ref f_law_is_rope))) (l20 : K.lookup f_law_is_rope = some ⟨oc20, od20, .func (PySem.W.fnOf "_law_is_rope" "_law_is_rope" (defArgs s_law_is_rope) (defBody s_law_is_rope) (defScope s_law_is_rope) .none kV20 dc20 pm20 an20 cd20 ct20), sl20⟩) (c20 : PySem.W.codeIn K cd20 "_law_is_rope" = true) (k20 : PySem.W.keepIn K (.ref f_law_is_rope) = true)
    (a21 : PySem.W.nsIn K mainGlobals "_law_is_bundle" = some (some (.ref f_law_is_bundle))) (l21 : K.lookup f_law_is_bundle = some ⟨oc21, od21, .func (PySem.W.fnOf "_law_is_bundle" "_law_is_bundle" (defArgs s_law_is_bundle) (defBody s_law_is_bundle) (defScope s_law_is_bundle) .none kV21 dc21 pm21 an21 cd21 ct21), sl21⟩) (c21 : PySem.W.codeIn K cd21 "_law_is_bundle" = true) (k21 : PySem.W.keepIn K (.ref f_law_is_bundle) = true)
    (a22 : PySem.W.nsIn K mainGlobals "_law_is_load" = some (some (.ref f_law_is_load))) (l22 : K.lookup f_law_is_load = some ⟨oc22, od22, .func (PySem.W.fnOf "_law_is_load" "_law_is_load" (defArgs s_law_is_load) (defBody s_law_is_load) (defScope s_law_is_load) .none kV22 dc22 pm22 an22 cd22 ct22), sl22⟩) (c22 : PySem.W.codeIn K cd22 "_law_is_load" = true) (k22 : PySem.W.keepIn K (.ref f_law_is_load) = true)
    (a23 : PySem.W.nsIn K mainGlobals "law" = some (some (.ref f_law))) (l23 : K.lookup f_law = some ⟨oc23, od23, .func (PySem.W.fnOf "law" "law" (defArgs s_law) (defBody s_law) (defScope s_law) .none kV23 dc23 pm23 an23 cd23 ct23), sl23⟩) (c23 : PySem.W.codeIn K cd23 "law" = true) (k23 : PySem.W.keepIn K (.ref f_law) = true)
    (z_MOST_LETTERS : PySem.W.nsIn K mainGlobals "MOST_LETTERS" = some (some (.int 8 t_MOST_LETTERS)))
    (z_MOST_SLACK : PySem.W.nsIn K mainGlobals "MOST_SLACK" = some (some (.int 1000 t_MOST_SLACK)))
    (z_MOST_STIFF : PySem.W.nsIn K mainGlobals "MOST_STIFF" = some (some (.int 100 t_MOST_STIFF)))
    (z_MOST_STRONG : PySem.W.nsIn K mainGlobals "MOST_STRONG" = some (some (.int 1000000 t_MOST_STRONG)))
    (z_MOST_ROPES : PySem.W.nsIn K mainGlobals "MOST_ROPES" = some (some (.int 6 t_MOST_ROPES)))
    (z_len : PySem.W.nsIn K mainGlobals "len" = some none)
    (z_abs : PySem.W.nsIn K mainGlobals "abs" = some none)
    (z_max : PySem.W.nsIn K mainGlobals "max" = some none)
    (z_min : PySem.W.nsIn K mainGlobals "min" = some none)
    (z_sum : PySem.W.nsIn K mainGlobals "sum" = some none)
    (z_sorted : PySem.W.nsIn K mainGlobals "sorted" = some none)
    (z_tuple : PySem.W.nsIn K mainGlobals "tuple" = some none)
    (z_range : PySem.W.nsIn K mainGlobals "range" = some none)
    (z_list : PySem.W.nsIn K mainGlobals "list" = some none)
    (z_isinstance : PySem.W.nsIn K mainGlobals "isinstance" = some none)
    (z_bool : PySem.W.nsIn K mainGlobals "bool" = some none)
    (z_set : PySem.W.nsIn K mainGlobals "set" = some none)
    (z_dict : PySem.W.nsIn K mainGlobals "dict" = some none)
    (z_int : PySem.W.nsIn K mainGlobals "int" = some none)
    (z_str : PySem.W.nsIn K mainGlobals "str" = some none)
    (z_all : PySem.W.nsIn K mainGlobals "all" = some none)
    (z_zip : PySem.W.nsIn K mainGlobals "zip" = some none)
    (z_any : PySem.W.nsIn K mainGlobals "any" = some none)
    (z_enumerate : PySem.W.nsIn K mainGlobals "enumerate" = some none) :
    ∃ fd : FuncData, (∀ (s : Shared) (v : Value), BindsTo s fd ⟨[v], []⟩ [("script", v)]) ∧ ∀ base : Heap, K.In base → base.Ns mainGlobals mg → FnOk l.prog w K mg base CX0 19 fa fd ["script"] (spOf K S_law) := by
  have e := hfa.symm.trans (PySem.W.mg_of X G a23)
  cases e
  have T : Txt mg := ⟨PySem.W.mg_none_of X G z_len, PySem.W.mg_none_of X G z_abs, PySem.W.mg_none_of X G z_max, PySem.W.mg_none_of X G z_min, PySem.W.mg_none_of X G z_sum, PySem.W.mg_none_of X G z_sorted, PySem.W.mg_none_of X G z_tuple, PySem.W.mg_none_of X G z_range, PySem.W.mg_none_of X G z_list, PySem.W.mg_none_of X G z_isinstance, PySem.W.mg_none_of X G z_bool, PySem.W.mg_none_of X G z_set, PySem.W.mg_none_of X G z_dict, PySem.W.mg_none_of X G z_int, PySem.W.mg_none_of X G z_str, PySem.W.mg_none_of X G z_all, PySem.W.mg_none_of X G z_zip, PySem.W.mg_none_of X G z_any, PySem.W.mg_none_of X G z_enumerate⟩
  have C : Cst mg := ⟨⟨_, PySem.W.mg_of X G z_MOST_LETTERS⟩, ⟨_, PySem.W.mg_of X G z_MOST_SLACK⟩, ⟨_, PySem.W.mg_of X G z_MOST_STIFF⟩, ⟨_, PySem.W.mg_of X G z_MOST_STRONG⟩, ⟨_, PySem.W.mg_of X G z_MOST_ROPES⟩⟩
  have d_is_whole : Df K mg "is_whole" s_is_whole f_is_whole ["thing"] := Df.mk' X G a0 l0 c0 k0 fun _ _ _ _ _ _ us hl => match us, hl with | [_], _ => rfl
  have d_is_name : Df K mg "is_name" s_is_name f_is_name ["thing"] := Df.mk' X G a1 l1 c1 k1 fun _ _ _ _ _ _ us hl => match us, hl with | [_], _ => rfl
  have d_is_fraction : Df K mg "is_fraction" s_is_fraction f_is_fraction ["thing"] := Df.mk' X G a2 l2 c2 k2 fun _ _ _ _ _ _ us hl => match us, hl with | [_], _ => rfl
  have d_common_divisor : Df K mg "common_divisor" s_common_divisor f_common_divisor ["one", "other"] := Df.mk' X G a3 l3 c3 k3 fun _ _ _ _ _ _ us hl => match us, hl with | [_, _], _ => rfl
  have d_is_bundle : Df K mg "is_bundle" s_is_bundle f_is_bundle ["thing"] := Df.mk' X G a4 l4 c4 k4 fun _ _ _ _ _ _ us hl => match us, hl with | [_], _ => rfl
  have d_is_load : Df K mg "is_load" s_is_load f_is_load ["thing"] := Df.mk' X G a5 l5 c5 k5 fun _ _ _ _ _ _ us hl => match us, hl with | [_], _ => rfl
  have d_is_rope : Df K mg "is_rope" s_is_rope f_is_rope ["thing"] := Df.mk' X G a6 l6 c6 k6 fun _ _ _ _ _ _ us hl => match us, hl with | [_], _ => rfl
  have d_is_within : Df K mg "is_within" s_is_within f_is_within ["thing", "least", "most"] := Df.mk' X G a7 l7 c7 k7 fun _ _ _ _ _ _ us hl => match us, hl with | [_, _, _], _ => rfl
  have d_law_bag : Df K mg "_law_bag" s_law_bag f_law_bag ["script", "k"] := Df.mk' X G a8 l8 c8 k8 fun _ _ _ _ _ _ us hl => match us, hl with | [_, _], _ => rfl
  have d_law_take : Df K mg "_law_take" s_law_take f_law_take ["bag", "many"] := Df.mk' X G a9 l9 c9 k9 fun _ _ _ _ _ _ us hl => match us, hl with | [_, _], _ => rfl
  have d_law_of : Df K mg "_law_of" s_law_of f_law_of ["bag", "some"] := Df.mk' X G a10 l10 c10 k10 fun _ _ _ _ _ _ us hl => match us, hl with | [_, _], _ => rfl
  have d_law_whole : Df K mg "_law_whole" s_law_whole f_law_whole ["thing"] := Df.mk' X G a11 l11 c11 k11 fun _ _ _ _ _ _ us hl => match us, hl with | [_], _ => rfl
  have d_law_within : Df K mg "_law_within" s_law_within f_law_within ["thing", "least", "most"] := Df.mk' X G a12 l12 c12 k12 fun _ _ _ _ _ _ us hl => match us, hl with | [_, _, _], _ => rfl
  have d_law_is_name : Df K mg "_law_is_name" s_law_is_name f_law_is_name ["thing"] := Df.mk' X G a13 l13 c13 k13 fun _ _ _ _ _ _ us hl => match us, hl with | [_], _ => rfl
  have d_law_spoilt : Df K mg "_law_spoilt" s_law_spoilt f_law_spoilt ["bag", "thing"] := Df.mk' X G a14 l14 c14 k14 fun _ _ _ _ _ _ us hl => match us, hl with | [_, _], _ => rfl
  have d_law_odd : Df K mg "_law_odd" s_law_odd f_law_odd ["bag"] := Df.mk' X G a15 l15 c15 k15 fun _ _ _ _ _ _ us hl => match us, hl with | [_], _ => rfl
  have d_law_lowest : Df K mg "_law_lowest" s_law_lowest f_law_lowest ["top", "bottom"] := Df.mk' X G a16 l16 c16 k16 fun _ _ _ _ _ _ us hl => match us, hl with | [_, _], _ => rfl
  have d_law_rope : Df K mg "_law_rope" s_law_rope f_law_rope ["bag", "name"] := Df.mk' X G a17 l17 c17 k17 fun _ _ _ _ _ _ us hl => match us, hl with | [_, _], _ => rfl
  have d_law_bundle : Df K mg "_law_bundle" s_law_bundle f_law_bundle ["bag", "most"] := Df.mk' X G a18 l18 c18 k18 fun _ _ _ _ _ _ us hl => match us, hl with | [_, _], _ => rfl
  have d_law_load : Df K mg "_law_load" s_law_load f_law_load ["bag"] := Df.mk' X G a19 l19 c19 k19 fun _ _ _ _ _ _ us hl => match us, hl with | [_], _ => rfl
  have d_law_is_rope : Df K mg "_law_is_rope" s_law_is_rope f_law_is_rope ["thing"] := Df.mk' X G a20 l20 c20 k20 fun _ _ _ _ _ _ us hl => match us, hl with | [_], _ => rfl
  have d_law_is_bundle : Df K mg "_law_is_bundle" s_law_is_bundle f_law_is_bundle ["thing"] := Df.mk' X G a21 l21 c21 k21 fun _ _ _ _ _ _ us hl => match us, hl with | [_], _ => rfl
  have d_law_is_load : Df K mg "_law_is_load" s_law_is_load f_law_is_load ["thing"] := Df.mk' X G a22 l22 c22 k22 fun _ _ _ _ _ _ us hl => match us, hl with | [_], _ => rfl
  refine ⟨PySem.W.fnOf "law" "law" (defArgs s_law) (defBody s_law) (defScope s_law) .none kV23 dc23 pm23 an23 cd23 ct23, fun s v => .of_eq rfl, fun base _ _ => ?_⟩
  have h_cd : Has l.prog w K mg base 1 "common_divisor" ["one", "other"] S_cd := d_common_divisor.has fun fd F => ok_common_divisor F
  have h_bag : Has l.prog w K mg base 1 "_law_bag" ["script", "k"] S_bag := d_law_bag.has fun fd F => ok_law_bag T F
  have h_take : Has l.prog w K mg base 1 "_law_take" ["bag", "many"] S_take := d_law_take.has fun fd F => ok_law_take F
  have h_of : Has l.prog w K mg base 2 "_law_of" ["bag", "some"] S_of := d_law_of.has fun fd F => ok_law_of T F h_take
  have h_low : Has l.prog w K mg base 1 "_law_lowest" ["top", "bottom"] S_lowest := d_law_lowest.has fun fd F => ok_law_lowest T F
  have h_rope : Has l.prog w K mg base 2 "_law_rope" ["bag", "name"] S_rope := d_law_rope.has fun fd F => ok_law_rope F h_take
  have h_bun : Has l.prog w K mg base 3 "_law_bundle" ["bag", "most"] S_bundle := d_law_bundle.has fun fd F => ok_law_bundle T F h_take h_of h_rope
  have h_load : Has l.prog w K mg base 2 "_law_load" ["bag"] S_load := d_law_load.has fun fd F => ok_law_load F h_take h_low
  have h_iw : Has l.prog w K mg base 1 "is_whole" ["thing"] S_isI := d_is_whole.has fun fd F => ok_is_whole T F
  have h_liw : Has l.prog w K mg base 1 "_law_whole" ["thing"] S_isI := d_law_whole.has fun fd F => ok_law_whole T F
  have h_wi : Has l.prog w K mg base 2 "is_within" ["thing", "least", "most"] S_inB := d_is_within.has fun fd F => ok_is_within F h_iw
  have h_lwi : Has l.prog w K mg base 1 "_law_within" ["thing", "least", "most"] S_inB := d_law_within.has fun fd F => ok_law_within T F
  have h_in : Has l.prog w K mg base 1 "is_name" ["thing"] S_name := d_is_name.has fun fd F => ok_is_name C T F
  have h_lin : Has l.prog w K mg base 1 "_law_is_name" ["thing"] S_lname := d_law_is_name.has fun fd F => ok_law_is_name T F
  have h_ifr : Has l.prog w K mg base 2 "is_fraction" ["thing"] S_frac := d_is_fraction.has fun fd F => ok_is_fraction T F h_iw h_cd
  have h_il : Has l.prog w K mg base 3 "is_load" ["thing"] S_isload := d_is_load.has fun fd F => ok_is_load F h_ifr
  have h_ir : Has l.prog w K mg base 3 "is_rope" ["thing"] S_isrope := d_is_rope.has fun fd F => ok_is_rope C T F h_in h_wi
  have h_lir : Has l.prog w K mg base 2 "_law_is_rope" ["thing"] S_isrope := d_law_is_rope.has fun fd F => ok_law_is_rope T F h_lin h_lwi
  have h_lil : Has l.prog w K mg base 2 "_law_is_load" ["thing"] S_isload := d_law_is_load.has fun fd F => ok_law_is_load T F h_liw h_low
  have h_ib : Has l.prog w K mg base 4 "is_bundle" ["thing"] S_isbun := d_is_bundle.has fun fd F => ok_is_bundle C T F h_ir
  have h_lib : Has l.prog w K mg base 3 "_law_is_bundle" ["thing"] S_isbun := d_law_is_bundle.has fun fd F => ok_law_is_bundle T F h_lir
  have h_odd : Has l.prog w K mg base 2 "_law_odd" ["bag"] S_odd := d_law_odd.has fun fd F => ok_law_odd T F h_take
  have h_sp0 : Has l.prog w K mg base 3 "_law_spoilt" ["bag", "thing"] (S_sp 0) := d_law_spoilt.has fun fd F => ok_sp0
  have h_sp1 : Has l.prog w K mg base 4 "_law_spoilt" ["bag", "thing"] (S_sp 1) := d_law_spoilt.has fun fd F => ok_law_spoilt T F h_take h_odd h_sp0
  have h_sp2 : Has l.prog w K mg base 5 "_law_spoilt" ["bag", "thing"] (S_sp 2) := d_law_spoilt.has fun fd F => ok_law_spoilt T F h_take h_odd h_sp1
  have h_sp3 : Has l.prog w K mg base 6 "_law_spoilt" ["bag", "thing"] (S_sp 3) := d_law_spoilt.has fun fd F => ok_law_spoilt T F h_take h_odd h_sp2
  have h_sp4 : Has l.prog w K mg base 7 "_law_spoilt" ["bag", "thing"] (S_sp 4) := d_law_spoilt.has fun fd F => ok_law_spoilt T F h_take h_odd h_sp3
  have h_sp5 : Has l.prog w K mg base 8 "_law_spoilt" ["bag", "thing"] (S_sp 5) := d_law_spoilt.has fun fd F => ok_law_spoilt T F h_take h_odd h_sp4
  have h_sp6 : Has l.prog w K mg base 9 "_law_spoilt" ["bag", "thing"] (S_sp 6) := d_law_spoilt.has fun fd F => ok_law_spoilt T F h_take h_odd h_sp5
  have h_sp7 : Has l.prog w K mg base 10 "_law_spoilt" ["bag", "thing"] (S_sp 7) := d_law_spoilt.has fun fd F => ok_law_spoilt T F h_take h_odd h_sp6
  have h_sp8 : Has l.prog w K mg base 11 "_law_spoilt" ["bag", "thing"] (S_sp 8) := d_law_spoilt.has fun fd F => ok_law_spoilt T F h_take h_odd h_sp7
  have h_sp9 : Has l.prog w K mg base 12 "_law_spoilt" ["bag", "thing"] (S_sp 9) := d_law_spoilt.has fun fd F => ok_law_spoilt T F h_take h_odd h_sp8
  have h_sp10 : Has l.prog w K mg base 13 "_law_spoilt" ["bag", "thing"] (S_sp 10) := d_law_spoilt.has fun fd F => ok_law_spoilt T F h_take h_odd h_sp9
  have h_sp11 : Has l.prog w K mg base 14 "_law_spoilt" ["bag", "thing"] (S_sp 11) := d_law_spoilt.has fun fd F => ok_law_spoilt T F h_take h_odd h_sp10
  have h_sp12 : Has l.prog w K mg base 15 "_law_spoilt" ["bag", "thing"] (S_sp 12) := d_law_spoilt.has fun fd F => ok_law_spoilt T F h_take h_odd h_sp11
  have h_sp13 : Has l.prog w K mg base 16 "_law_spoilt" ["bag", "thing"] (S_sp 13) := d_law_spoilt.has fun fd F => ok_law_spoilt T F h_take h_odd h_sp12
  have h_sp14 : Has l.prog w K mg base 17 "_law_spoilt" ["bag", "thing"] (S_sp 14) := d_law_spoilt.has fun fd F => ok_law_spoilt T F h_take h_odd h_sp13
  have h_sp15 : Has l.prog w K mg base 18 "_law_spoilt" ["bag", "thing"] (S_sp 15) := d_law_spoilt.has fun fd F => ok_law_spoilt T F h_take h_odd h_sp14
  exact ok_law T (fun_mk (st := s_law) l23 c23 k23) h_bag h_bun h_load h_of h_odd h_ib h_lib h_il h_lil h_sp15
theorem walk {l : PySem.W.OpenLaw} {q : Program} {loose : List Str} {XP : (Str → Option Value) → Heap → Prop} {YP : World → Heap → Prop} {d : DefRec} {K : Params → PySem.W.Frag} (hn : l.most = some 63) (hdf : d.params.defaults = [])
    (hY : ∀ (w : World) (h : Heap), YP w h → (K w.params).In h)
    (F : ∀ (w : World) (mg : Str → Option Value) (fa : Addr) (h : Heap), (K w.params).In h → h.Ns mainGlobals mg → mg d.name = some (.ref fa) →
      ∃ fd : FuncData, (∀ (s : Shared) (u : Value), BindsTo s fd ⟨[u], []⟩ [("script", u)]) ∧ ∀ base : Heap, (K w.params).In base → base.Ns mainGlobals mg → FnOk l.prog w (K w.params) mg base CX0 19 fa fd ["script"] (spOf (K w.params) S_law)) :
    PySem.W.WalkO q loose XP YP l.row.toRowW d [] (fun f vs => PySem.call f vs) :=
  L2.walk_of (n := 63) (k := 19) (x := "script") (CX := fun _ => CX0) (sp := fun w => spOf (K w.params) S_law) hn (by decide) hdf ⟨rfl, by decide, by decide⟩ hY F
    (fun w H a ns hl _ hS => ⟨[.l ns], H, fun _ => none, fun r _ => r = .d (.bool true), ⟨Ex.refl H, fun b ds e => by cases e⟩, .cons ⟨a, rfl, hS⟩ .nil, ⟨ns, rfl, hl, rfl⟩, fun v r H' M' H2 p _ _ vv => by subst p; cases vv; rfl⟩) fun _ _ _ _ _ z => z
end K2

open PySem PySem.W PyProof.Rows in
set_option maxRecDepth 100000 in
set_option maxHeartbeats 0 in
theorem PySem.Challenge.cw_strandpull_k01_bundles_and_loads_told_holds : PySem.Challenge.rw_strandpull_k01_bundles_and_loads_told.Holds := by
  w_on; o_law; k_head; (case hw => w_witness2)
  k_fill
  refine K2.walk (l := PySem.Challenge.rw_strandpull_k01_bundles_and_loads_told) rfl rfl (fun w h Y => PySem.W.kIn_of Y) ?F
  case F =>
    intro w mg fa h KX G hmg
    refine' K2.all_mk KX G hmg ?a0 ?l0 ?c0 ?k0 ?a1 ?l1 ?c1 ?k1 ?a2 ?l2 ?c2 ?k2 ?a3 ?l3 ?c3 ?k3 ?a4 ?l4 ?c4 ?k4 ?a5 ?l5 ?c5 ?k5 ?a6 ?l6 ?c6 ?k6 ?a7 ?l7 ?c7 ?k7 ?a8 ?l8 ?c8 ?k8 ?a9 ?l9 ?c9 ?k9 ?a10 ?l10 ?c10 ?k10 ?a11 ?l11 ?c11 ?k11 ?a12 ?l12 ?c12 ?k12 ?a13 ?l13 ?c13 ?k13 ?a14 ?l14 ?c14 ?k14 ?a15 ?l15 ?c15 ?k15 ?a16 ?l16 ?c16 ?k16 ?a17 ?l17 ?c17 ?k17 ?a18 ?l18 ?c18 ?k18 ?a19 ?l19 ?c19 ?k19 ?a20 ?l20 ?c20 ?k20 ?a21 ?l21 ?c21 ?k21 ?a22 ?l22 ?c22 ?k22 ?a23 ?l23 ?c23 ?k23 ?z_MOST_LETTERS ?z_MOST_SLACK ?z_MOST_STIFF ?z_MOST_STRONG ?z_MOST_ROPES ?z_len ?z_abs ?z_max ?z_min ?z_sum ?z_sorted ?z_tuple ?z_range ?z_list ?z_isinstance ?z_bool ?z_set ?z_dict ?z_int ?z_str ?z_all ?z_zip ?z_any ?z_enumerate
    (case a0 => k_is)
    (case l0 => k_is)
    (case c0 => k_is)
    (case k0 => k_is)
    (case a1 => k_is)
    (case l1 => k_is)
    (case c1 => k_is)
    (case k1 => k_is)
    (case a2 => k_is)
    (case l2 => k_is)
    (case c2 => k_is)
    (case k2 => k_is)
    (case a3 => k_is)
    (case l3 => k_is)
    (case c3 => k_is)
    (case k3 => k_is)
    (case a4 => k_is)
    (case l4 => k_is)
    (case c4 => k_is)
    (case k4 => k_is)
    (case a5 => k_is)
    (case l5 => k_is)
    (case c5 => k_is)
    (case k5 => k_is)
    (case a6 => k_is)
    (case l6 => k_is)
    (case c6 => k_is)
    (case k6 => k_is)
    (case a7 => k_is)
    (case l7 => k_is)
    (case c7 => k_is)
    (case k7 => k_is)
    (case a8 => k_is)
    (case l8 => k_is)
    (case c8 => k_is)
    (case k8 => k_is)
    (case a9 => k_is)
    (case l9 => k_is)
    (case c9 => k_is)
    (case k9 => k_is)
    (case a10 => k_is)
    (case l10 => k_is)
    (case c10 => k_is)
    (case k10 => k_is)
    (case a11 => k_is)
    (case l11 => k_is)
    (case c11 => k_is)
    (case k11 => k_is)
    (case a12 => k_is)
    (case l12 => k_is)
    (case c12 => k_is)
    (case k12 => k_is)
    (case a13 => k_is)
    (case l13 => k_is)
    (case c13 => k_is)
    (case k13 => k_is)
    (case a14 => k_is)
    (case l14 => k_is)
    (case c14 => k_is)
    (case k14 => k_is)
    (case a15 => k_is)
    (case l15 => k_is)
    (case c15 => k_is)
    (case k15 => k_is)
    (case a16 => k_is)
    (case l16 => k_is)
    (case c16 => k_is)
    (case k16 => k_is)
    (case a17 => k_is)
    (case l17 => k_is)
    (case c17 => k_is)
    (case k17 => k_is)
    (case a18 => k_is)
    (case l18 => k_is)
    (case c18 => k_is)
    (case k18 => k_is)
    (case a19 => k_is)
    (case l19 => k_is)
    (case c19 => k_is)
    (case k19 => k_is)
    (case a20 => k_is)
    (case l20 => k_is)
    (case c20 => k_is)
    (case k20 => k_is)
    (case a21 => k_is)
    (case l21 => k_is)
    (case c21 => k_is)
    (case k21 => k_is)
    (case a22 => k_is)
    (case l22 => k_is)
    (case c22 => k_is)
    (case k22 => k_is)
    (case a23 => k_is)
    (case l23 => k_is)
    (case c23 => k_is)
    (case k23 => k_is)
    (case z_MOST_LETTERS => k_is)
    (case z_MOST_SLACK => k_is)
    (case z_MOST_STIFF => k_is)
    (case z_MOST_STRONG => k_is)
    (case z_MOST_ROPES => k_is)
    (case z_len => k_is)
    (case z_abs => k_is)
    (case z_max => k_is)
    (case z_min => k_is)
    (case z_sum => k_is)
    (case z_sorted => k_is)
    (case z_tuple => k_is)
    (case z_range => k_is)
    (case z_list => k_is)
    (case z_isinstance => k_is)
    (case z_bool => k_is)
    (case z_set => k_is)
    (case z_dict => k_is)
    (case z_int => k_is)
    (case z_str => k_is)
    (case z_all => k_is)
    (case z_zip => k_is)
    (case z_any => k_is)
    (case z_enumerate => k_is)
