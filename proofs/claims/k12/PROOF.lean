import PyProof.Rows.All
import Wide.All
import OpenK.AllK
import Wide.FinOn
import HandS.ForMost
import HandS.Wide
import HandS.SortKw
import KE.SortKeyHeap
import KE.SortData
import HandS.Dict
import HandS.TupAny
import HandS.Style
import HandS.IsInst
import PyProof.AutoSeq1
import HandS.Set
import HandS.SetFor
import HandS.Strs
import HandS.SetBool
import HandS.Deep
import HandS.Star
import HandS.Text
import HandS.Zip
import PyProof.Rows.IntBool
import PyProof.CallStr
import PyProof.StrLawsIn
import PySem.Challenge.RW_strandpull_k12_whole_measures_change_not
set_option Elab.async false
set_option linter.all false
set_option maxRecDepth 100000
set_option maxHeartbeats 8000000
/-! Sd: values as data. H the part of the heap that never changes any more, M the lists that may still change. -/
namespace Sd
open PySem L2

def Ex (H H' : Hp) : Prop := ∀ a o, H a = some o → H' a = some o
theorem Ex.refl (H : Hp) : Ex H H := fun _ _ h => h
theorem Ex.trans {H H1 H2 : Hp} (a : Ex H H1) (b : Ex H1 H2) : Ex H H2 := fun x o h => b x o (a x o h)
theorem Ex.new {H : Hp} {p : Addr} {o : HO} (h : H p = none) : Ex H (upd H p o) := fun a u e => by
  rw [upd_ne (ne_of_none e h)]
  exact e

mutual
inductive Dq (K : PySem.W.Frag) (H : Hp) : V → PyData → Prop
  | non : Dq K H .non .none
  | bl (b : Bool) : Dq K H (.bl b) (.bool b)
  | int (i : Int) : Dq K H (.int i) (.int i)
  | str (x : Str) : Dq K H (.str x) (.str x)
  | lst {a : Addr} {xs : List V} {ds : List PyData} : H a = some (.lst xs) → DqAll K H xs ds → Dq K H (.ref a) (.list ds)
  | tup {a : Addr} {xs : List V} {ds : List PyData} : SqT K H a xs → DqAll K H xs ds → Dq K H (.ref a) (.tuple ds)
inductive DqAll (K : PySem.W.Frag) (H : Hp) : List V → List PyData → Prop
  | nil : DqAll K H [] []
  | cons {v : V} {vs : List V} {d : PyData} {ds : List PyData} : Dq K H v d → DqAll K H vs ds → DqAll K H (v :: vs) (d :: ds)
end
theorem sqTx {K : PySem.W.Frag} {H H' : Hp} {a : Addr} {xs : List V} (e : Ex H H') (h : SqT K H a xs) : SqT K H' a xs := by
  rcases h with (h | ⟨o, h⟩) | h
  · exact .inl (.inl (e _ _ h))
  · exact .inl (.inr ⟨o, e _ _ h⟩)
  · exact .inr h
mutual
theorem Dq.mono {H H' : Hp} (e : Ex H H') : ∀ (d : PyData) (v : V), Dq K H v d → Dq K H' v d
  | .none, _, h => by cases h; exact .non
  | .bool b, _, h => by cases h; exact .bl _
  | .int i, _, h => by cases h; exact .int _
  | .str x, _, h => by cases h; exact .str _
  | .list ds, _, h => by
    cases h with
    | lst h1 h2 => exact .lst (e _ _ h1) (DqAll.mono e ds _ h2)
  | .tuple ds, _, h => by
    cases h with
    | tup h1 h2 => exact .tup (sqTx e h1) (DqAll.mono e ds _ h2)
  | .dict _, _, h => by cases h
theorem DqAll.mono {H H' : Hp} (e : Ex H H') : ∀ (ds : List PyData) (vs : List V), DqAll K H vs ds → DqAll K H' vs ds
  | [], _, h => by cases h; exact .nil
  | d :: ds, _, h => by
    cases h with
    | cons h1 h2 => exact .cons (Dq.mono e d _ h1) (DqAll.mono e ds _ h2)
end
mutual
theorem Dq.dp {K : PySem.W.Frag} {H : Hp} : ∀ (d : PyData) (v : V), Dq K H v d → Dp K H v d
  | .none, _, h => by cases h; exact .non
  | .bool b, _, h => by cases h; exact .bl _
  | .int i, _, h => by cases h; exact .int _
  | .str x, _, h => by cases h; exact .str _
  | .list ds, _, h => by
    cases h with
    | lst h1 h2 => exact .lst (SqL.of h1) (DqAll.dp ds _ h2)
  | .tuple ds, _, h => by
    cases h with
    | tup h1 h2 => exact .tup h1 (DqAll.dp ds _ h2)
  | .dict _, _, h => by cases h
theorem DqAll.dp {K : PySem.W.Frag} {H : Hp} : ∀ (ds : List PyData) (vs : List V), DqAll K H vs ds → DpAll K H vs ds
  | [], _, h => by cases h; exact .nil
  | d :: ds, _, h => by
    cases h with
    | cons h1 h2 => exact .cons (Dq.dp d _ h1) (DqAll.dp ds _ h2)
end
theorem DqAll.length {H : Hp} : ∀ {ds : List PyData} {vs : List V}, DqAll K H vs ds → vs.length = ds.length
  | [], _, h => by cases h; rfl
  | d :: ds, _, h => by
    cases h with
    | cons h1 h2 => rw [List.length_cons, List.length_cons, DqAll.length h2]
theorem DqAll.get {H : Hp} : ∀ {ds : List PyData} {vs : List V} {i : Nat} {v : V}, DqAll K H vs ds → vs[i]? = some v → ∃ d, ds[i]? = some d ∧ Dq K H v d
  | [], _, _, _, h, e => by cases h; simp at e
  | d :: ds, _, i, v, h, e => by
    cases h with
    | cons h1 h2 =>
      cases i with
      | zero => simp at e; subst e; exact ⟨d, rfl, h1⟩
      | succ i => simp at e; obtain ⟨d', q1, q2⟩ := DqAll.get h2 e; exact ⟨d', by simpa using q1, q2⟩
theorem DqAll.getR {H : Hp} : ∀ {ds : List PyData} {vs : List V} {i : Nat} {d : PyData}, DqAll K H vs ds → ds[i]? = some d → ∃ v, vs[i]? = some v ∧ Dq K H v d
  | [], _, _, _, h, e => by simp at e
  | d0 :: ds, _, i, d, h, e => by
    cases h with
    | cons h1 h2 =>
      cases i with
      | zero => simp at e; subst e; exact ⟨_, rfl, h1⟩
      | succ i => simp at e; obtain ⟨d', q1, q2⟩ := DqAll.getR h2 e; exact ⟨d', by simpa using q1, q2⟩
theorem DqAll.append {H : Hp} : ∀ {xs ys : List V} {ds es : List PyData}, DqAll K H xs ds → DqAll K H ys es → DqAll K H (xs ++ ys) (ds ++ es)
  | _, _, [], _, h, k => by cases h; exact k
  | _, _, d :: ds, _, h, k => by
    cases h with
    | cons h1 h2 => exact .cons h1 (DqAll.append h2 k)
theorem DqAll.take {H : Hp} : ∀ (n : Nat) {xs : List V} {ds : List PyData}, DqAll K H xs ds → DqAll K H (xs.take n) (ds.take n)
  | 0, _, _, _ => by simp only [List.take_zero]; exact .nil
  | n + 1, _, [], h => by cases h; exact .nil
  | n + 1, _, d :: ds, h => by
    cases h with
    | cons h1 h2 => exact .cons h1 (DqAll.take n h2)
theorem DqAll.drop {H : Hp} : ∀ (n : Nat) {xs : List V} {ds : List PyData}, DqAll K H xs ds → DqAll K H (xs.drop n) (ds.drop n)
  | 0, _, _, h => h
  | n + 1, _, [], h => by cases h; exact .nil
  | n + 1, _, d :: ds, h => by
    cases h with
    | cons h1 h2 => exact DqAll.drop n h2
theorem DqAll.set {H : Hp} {v : V} {d : PyData} (hv : Dq K H v d) : ∀ (n : Nat) {xs : List V} {ds : List PyData}, DqAll K H xs ds → DqAll K H (xs.set n v) (ds.set n d)
  | _, _, [], h => by cases h; exact .nil
  | 0, _, d :: ds, h => by
    cases h with
    | cons h1 h2 => exact .cons hv h2
  | n + 1, _, d :: ds, h => by
    cases h with
    | cons h1 h2 => exact .cons h1 (DqAll.set hv n h2)
theorem DqAll.ints {H : Hp} : ∀ {xs : List V} {ns : List Int}, DqAll K H xs (ns.map .int) → xs = ns.map V.int
  | _, [], h => by cases h; rfl
  | _, n :: ns, h => by
    cases h with
    | cons h1 h2 =>
      cases h1
      rw [DqAll.ints h2]; rfl
theorem DqAll.ofInts {H : Hp} : ∀ (ns : List Int), DqAll K H (ns.map V.int) (ns.map .int)
  | [] => .nil
  | n :: ns => .cons (.int n) (DqAll.ofInts ns)

/-- a value: data; a list that may change, by its address; the script, by its ints; a built-in class; a dict of texts that does not change -/
inductive SV where
  | d (x : PyData) | m (a : Addr) | l (ns : List Int) | t (n : String) | q (ps : List (Str × PyData)) | k (q : Int × Int)
abbrev Mem := Addr → Option (List PyData)
def mset (M : Mem) (a : Addr) (ds : List PyData) : Mem := fun b => if b = a then some ds else M b
theorem mset_same {M : Mem} {a : Addr} {ds : List PyData} : mset M a ds a = some ds := by unfold mset; rw [if_pos rfl]
theorem mset_ne {M : Mem} {a b : Addr} {ds : List PyData} (h : b ≠ a) : mset M a ds b = M b := by unfold mset; rw [if_neg h]
theorem mset_mset {M : Mem} {a : Addr} {ds es : List PyData} : mset (mset M a ds) a es = mset M a es := by
  funext b; unfold mset; split <;> rfl

def SVOk (K : PySem.W.Frag) (H : Hp) (v : V) : SV → Prop
  | .d x => Dq K H v x
  | .m a => v = .ref a
  | .l ns => ∃ a, v = .ref a ∧ SqL K H a (ns.map V.int)
  | .t n => v = .ty n
  | .q ps => ∃ a vs, v = .ref a ∧ H a = some (.dK ((ps.map fun p => (Sum.inr p.1 : Key)).zip vs)) ∧ DqAll K H vs (ps.map Prod.snd)
  | .k q => ∃ a, v = .ref a ∧ H a = some (.tup [.int q.1, .int q.2])
/-- something stands there, and it is no tuple -/
def NT (o : Option HO) : Prop := o ≠ none ∧ ∀ ys, o ≠ some (.tup ys)
@[simp] theorem nt_lst {vs : List V} : NT (some (.lst vs)) := ⟨by simp, by simp⟩
@[simp] theorem nt_set {S : Int → Bool} {n : Nat} : NT (some (.set S n)) := ⟨by simp, by simp⟩
@[simp] theorem nt_dT {kvs : List (List Key × V)} : NT (some (.dT kvs)) := ⟨by simp, by simp⟩
@[simp] theorem nt_frz {o : Obj} {u : HO} : NT (some (.frz o u)) := ⟨by simp, by simp⟩
structure WOk (K : PySem.W.Frag) (H : Hp) (M : Mem) (H1 : Hp) : Prop where
  ex : Ex H H1
  cell : ∀ a ds, M a = some ds → H a = none ∧ ∃ vs, H1 a = some (.lst vs) ∧ DqAll K H vs ds
structure Step (H H1 : Hp) (M : Mem) (H' H2 : Hp) (M' : Mem) : Prop where
  pure : Ex H H'
  keep : ∀ a o, H1 a = some o → M a = none → H2 a = some o
  new : ∀ a, H a = none → M a = none → NT (H1 a) → H' a = none ∧ M' a = none
theorem Step.refl {H H1 : Hp} {M : Mem} : Step H H1 M H H1 M := ⟨Ex.refl _, fun _ _ h _ => h, fun _ h h' _ => ⟨h, h'⟩⟩
theorem Step.trans {H H1 H' H2 H'' H3 : Hp} {M M' M'' : Mem} (w : WOk K H M H1) (w' : WOk K H' M' H2) (a : Step H H1 M H' H2 M') (b : Step H' H2 M' H'' H3 M'') : Step H H1 M H'' H3 M'' := by
  refine ⟨a.pure.trans b.pure, fun x o hx hm => ?_, fun x hx hm hn => ?_⟩
  · have h2 := a.keep x o hx hm
    refine b.keep x o h2 ?_
    cases q : M' x with
    | none => rfl
    | some ds =>
      exfalso
      obtain ⟨hn, vs, hv, _⟩ := w'.cell x ds q
      have hx' : H1 x = some (.lst vs) := by rw [hx, ← h2, hv]
      cases q2 : H x with
      | none =>
        have := (a.new x q2 hm (by rw [hx']; simp)).2
        rw [q] at this; cases this
      | some u =>
        rw [a.pure x u q2] at hn; cases hn
  · obtain ⟨h1, h2⟩ := a.new x hx hm hn
    refine b.new x h1 h2 ?_
    cases q : H1 x with
    | none => exact absurd q hn.1
    | some o => rw [a.keep x o q hm]; rw [q] at hn; exact hn
theorem SVOk.mono {K : PySem.W.Frag} {H H' : Hp} {v : V} (e : Ex H H') : ∀ {r : SV}, SVOk K H v r → SVOk K H' v r
  | .d x, h => Dq.mono e x v h
  | .m a, h => h
  | .l ns, ⟨a, h1, h2⟩ => ⟨a, h1, Same.seq e h2⟩
  | .t n, h => h
  | .q ps, ⟨a, vs, h1, h2, h3⟩ => ⟨a, vs, h1, e _ _ h2, DqAll.mono e _ _ h3⟩
  | .k q, ⟨a, h1, h2⟩ => ⟨a, h1, e _ _ h2⟩

abbrev DSt := List (Option SV)
structure EnvOk (K : PySem.W.Frag) (H : Hp) (σ : St) (δ : DSt) : Prop where
  len : σ.length = δ.length
  at' : ∀ (i : Nat) (r : SV), δ[i]? = some (some r) → ∃ v, σ[i]? = some (some v) ∧ SVOk K H v r
theorem EnvOk.mono {K : PySem.W.Frag} {H H' : Hp} {σ : St} {δ : DSt} (e : Ex H H') (h : EnvOk K H σ δ) : EnvOk K H' σ δ := ⟨h.len, fun i r q => by
  obtain ⟨v, h1, h2⟩ := h.at' i r q
  exact ⟨v, h1, h2.mono e⟩⟩
theorem EnvOk.set {K : PySem.W.Frag} {H : Hp} {σ : St} {δ : DSt} {v : V} {r : SV} (h : EnvOk K H σ δ) (i : Nat) (hv : SVOk K H v r) : EnvOk K H (σ.set i (some v)) (δ.set i (some r)) := by
  refine ⟨by rw [List.length_set, List.length_set, h.len], fun j r' q => ?_⟩
  by_cases e : i = j
  · subst e
    have hl : i < δ.length := by
      have := (List.getElem?_eq_some_iff.mp q).1
      rwa [List.length_set] at this
    rw [List.getElem?_set_self hl] at q
    cases q
    exact ⟨v, by rw [List.getElem?_set_self (by rw [h.len]; exact hl)], hv⟩
  · rw [List.getElem?_set_ne e] at q ⊢
    exact h.at' j r' q
def wipeD (δ : DSt) : List Nat → DSt
  | [] => δ
  | v :: vs => (wipeD δ vs).set v none
theorem EnvOk.wipe {K : PySem.W.Frag} {H : Hp} {σ : St} {δ : DSt} (h : EnvOk K H σ δ) : ∀ vs : List Nat, EnvOk K H (wipe σ vs) (wipeD δ vs)
  | [] => h
  | v :: vs => by
    have ih := EnvOk.wipe h vs
    refine ⟨by unfold L2.wipe wipeD; rw [List.length_set, List.length_set, ih.len], fun j r q => ?_⟩
    unfold L2.wipe
    unfold wipeD at q
    by_cases e : v = j
    · subst e
      by_cases hl : v < (wipeD δ vs).length
      · rw [List.getElem?_set_self hl] at q; cases q
      · rw [List.getElem?_eq_none (by rw [List.length_set]; omega)] at q; cases q
    · rw [List.getElem?_set_ne e] at q ⊢
      exact ih.at' j r q

/-! ### readings over data -/
section
variable (K : PySem.W.Frag)
def dE (te : TE) (δ : DSt) (M : Mem) (P : SV → Mem → Prop) : Prop := ∀ (σ : St) (H H1 : Hp), EnvOk K H σ δ → WOk K H M H1 → ∀ Q : VK,
  (∀ v r H' M' H2, P r M' → Step H H1 M H' H2 M' → WOk K H' M' H2 → SVOk K H' v r → Q v H2) → te σ H1 Q
def dT (tt : TT) (δ : DSt) (M : Mem) (P : Bool → Mem → Prop) : Prop := ∀ (σ : St) (H H1 : Hp), EnvOk K H σ δ → WOk K H M H1 → ∀ Q : Bool → Hp → Prop,
  (∀ b H' M' H2, P b M' → Step H H1 M H' H2 M' → WOk K H' M' H2 → Q b H2) → tt σ H1 Q
inductive SVsOk (H : Hp) : List V → List SV → Prop
  | nil : SVsOk H [] []
  | cons {v : V} {vs : List V} {r : SV} {rs : List SV} : SVOk K H v r → SVsOk H vs rs → SVsOk H (v :: vs) (r :: rs)
def dA (ta : TA) (δ : DSt) (M : Mem) (P : List SV → Mem → Prop) : Prop := ∀ (σ : St) (H H1 : Hp), EnvOk K H σ δ → WOk K H M H1 → ∀ Q : List V → Hp → Prop,
  (∀ vs rs H' M' H2, P rs M' → Step H H1 M H' H2 M' → WOk K H' M' H2 → SVsOk K H' vs rs → Q vs H2) → ta σ H1 Q
def dO (to : TO) (δ : DSt) (M : Mem) (P : Option Int → Mem → Prop) : Prop := ∀ (σ : St) (H H1 : Hp), EnvOk K H σ δ → WOk K H M H1 → ∀ Q : Option Int → Hp → Prop,
  (∀ o H' M' H2, P o M' → Step H H1 M H' H2 M' → WOk K H' M' H2 → Q o H2) → to σ H1 Q
/-- an operation on two values; on a list of values -/
def dR (r : R2) (x y : SV) (M : Mem) (P : SV → Mem → Prop) : Prop := ∀ (v w : V) (H H1 : Hp), SVOk K H v x → SVOk K H w y → WOk K H M H1 → ∀ Q : VK,
  (∀ v r H' M' H2, P r M' → Step H H1 M H' H2 M' → WOk K H' M' H2 → SVOk K H' v r → Q v H2) → r v w H1 Q
def dU (r : V → Hp → VK → Prop) (x : SV) (M : Mem) (P : SV → Mem → Prop) : Prop := ∀ (v : V) (H H1 : Hp), SVOk K H v x → WOk K H M H1 → ∀ Q : VK,
  (∀ v r H' M' H2, P r M' → Step H H1 M H' H2 M' → WOk K H' M' H2 → SVOk K H' v r → Q v H2) → r v H1 Q
def dC (r : List V → Hp → VK → Prop) (xs : List SV) (M : Mem) (P : SV → Mem → Prop) : Prop := ∀ (vs : List V) (H H1 : Hp), SVsOk K H vs xs → WOk K H M H1 → ∀ Q : VK,
  (∀ v r H' M' H2, P r M' → Step H H1 M H' H2 M' → WOk K H' M' H2 → SVOk K H' v r → Q v H2) → r vs H1 Q
end
section
variable {K : PySem.W.Frag} {δ : DSt} {M : Mem} {P : SV → Mem → Prop} {PB : Bool → Mem → Prop} {PA : List SV → Mem → Prop}
theorem SVsOk.mono {H H' : Hp} (e : Ex H H') : ∀ {vs : List V} {rs : List SV}, SVsOk K H vs rs → SVsOk K H' vs rs
  | _, _, .nil => .nil
  | _, _, .cons h t => .cons (h.mono e) (SVsOk.mono e t)
theorem dE.mono {te : TE} {P' : SV → Mem → Prop} (h : dE K te δ M P) (k : ∀ r M', P r M' → P' r M') : dE K te δ M P' := fun σ H H1 e w Q q => h σ H H1 e w Q fun v r H' M' H2 p => q v r H' M' H2 (k r M' p)
theorem dT.mono {te : TT} {P' : Bool → Mem → Prop} (h : dT K te δ M PB) (k : ∀ r M', PB r M' → P' r M') : dT K te δ M P' := fun σ H H1 e w Q q => h σ H H1 e w Q fun v H' M' H2 p => q v H' M' H2 (k v M' p)

theorem dE_var {i : Nat} {r : SV} (h : δ[i]? = some (some r)) (p : P r M) : dE K (tVar i) δ M P := fun σ H H1 e w Q q => by
  obtain ⟨v, h1, h2⟩ := e.at' i r h
  exact ⟨v, h1, q v r H M H1 p Step.refl w h2⟩
theorem dE_int {i : Int} (p : P (.d (.int i)) M) : dE K (tC (.int i)) δ M P := fun σ H H1 e w Q q => q _ _ H M H1 p Step.refl w (.int i)
theorem dE_str {x : Str} (p : P (.d (.str x)) M) : dE K (tC (.str x)) δ M P := fun σ H H1 e w Q q => q _ _ H M H1 p Step.refl w (.str x)
theorem dE_bl {b : Bool} (p : P (.d (.bool b)) M) : dE K (tC (.bl b)) δ M P := fun σ H H1 e w Q q => q _ _ H M H1 p Step.refl w (.bl b)
theorem dE_non (p : P (.d .none) M) : dE K (tC .non) δ M P := fun σ H H1 e w Q q => q _ _ H M H1 p Step.refl w .non
theorem dE_op {r : R2} {ta tb : TE} (h : dE K ta δ M fun x M1 => dE K tb δ M1 fun y M2 => dR K r x y M2 P) : dE K (tOp r ta tb) δ M P := fun σ H H1 e w Q q =>
  h σ H H1 e w _ fun v x H' M' H2 hb s1 w1 vx => hb σ H' H2 (e.mono s1.pure) w1 _ fun u y H'' M'' H3 hr s2 w2 vy => hr v u H'' H3 (vx.mono s2.pure) vy w2 Q fun z r H3' M3 H4 p s3 w3 vz =>
    q z r H3' M3 H4 p ((s1.trans w w1 s2).trans w w2 s3) w3 vz
theorem dE_un {r : V → Hp → VK → Prop} {ta : TE} (h : dE K ta δ M fun x M1 => dU K r x M1 P) : dE K (tUn r ta) δ M P := fun σ H H1 e w Q q =>
  h σ H H1 e w _ fun v x H' M' H2 hb s1 w1 vx => hb v H' H2 vx w1 Q fun z r H3' M3 H4 p s3 w3 vz => q z r H3' M3 H4 p (s1.trans w w1 s3) w3 vz
theorem dA_nil (p : PA [] M) : dA K tNil δ M PA := fun σ H H1 e w Q q => q _ _ H M H1 p Step.refl w .nil
theorem dA_cons {ta : TE} {tr : TA} (h : dE K ta δ M fun x M1 => dA K tr δ M1 fun xs M2 => PA (x :: xs) M2) : dA K (tCons ta tr) δ M PA := fun σ H H1 e w Q q =>
  h σ H H1 e w _ fun v x H' M' H2 hb s1 w1 vx => hb σ H' H2 (e.mono s1.pure) w1 _ fun vs xs H'' M'' H3 p s2 w2 vxs => q _ _ H'' M'' H3 p (s1.trans w w1 s2) w2 (.cons (vx.mono s2.pure) vxs)
theorem dE_cb {r : List V → Hp → VK → Prop} {ta : TA} (h : dA K ta δ M fun xs M1 => dC K r xs M1 P) : dE K (tCB r ta) δ M P := fun σ H H1 e w Q q =>
  h σ H H1 e w _ fun vs xs H' M' H2 hc s1 w1 vxs => hc vs H' H2 vxs w1 Q fun z r H3' M3 H4 p s3 w3 vz => q z r H3' M3 H4 p (s1.trans w w1 s3) w3 vz
/-- what a new object brings -/
theorem laid_ok {H H1 : Hp} {p : Addr} {o : HO} (w : WOk K H M H1) (hp : H1 p = none) : WOk K (upd H p o) M (upd H1 p o) ∧ Step H H1 M (upd H p o) (upd H1 p o) M := by
  have hpH : H p = none := by
    cases q : H p with
    | none => rfl
    | some u => rw [w.ex p u q] at hp; cases hp
  have hpM : M p = none := by
    cases q : M p with
    | none => rfl
    | some ds => obtain ⟨_, vs, h2, _⟩ := w.cell p ds q; rw [h2] at hp; cases hp
  refine ⟨⟨fun a u h => ?_, fun a ds h => ?_⟩, ⟨Ex.new hpH, fun a u h _ => ?_, fun a h1 h2 h3 => ?_⟩⟩
  · by_cases e : a = p
    · subst e; rw [upd_same] at h ⊢; exact h
    · rw [upd_ne e] at h ⊢; exact w.ex a u h
  · obtain ⟨h1, vs, h2, h3⟩ := w.cell a ds h
    have e : a ≠ p := by rintro rfl; rw [h2] at hp; cases hp
    exact ⟨by rw [upd_ne e]; exact h1, vs, by rw [upd_ne e]; exact h2, h3.mono (Ex.new hpH)⟩
  · rw [upd_ne (ne_of_none h hp)]; exact h
  · have e : a ≠ p := by rintro rfl; exact h3.1 hp
    exact ⟨by rw [upd_ne e]; exact h1, h2⟩
/-- a new list that may still change -/
theorem laid_m {H H1 : Hp} {p : Addr} {vs : List V} {ds : List PyData} (w : WOk K H M H1) (hp : H1 p = none) (hd : DqAll K H vs ds) : M p = none ∧ WOk K H (mset M p ds) (upd H1 p (.lst vs)) ∧ Step H H1 M H (upd H1 p (.lst vs)) (mset M p ds) := by
  have hpH : H p = none := by
    cases q : H p with
    | none => rfl
    | some u => rw [w.ex p u q] at hp; cases hp
  have hpM : M p = none := by
    cases q : M p with
    | none => rfl
    | some ds => obtain ⟨_, vs, h2, _⟩ := w.cell p ds q; rw [h2] at hp; cases hp
  refine ⟨hpM, ⟨fun a u h => ?_, fun a es h => ?_⟩, ⟨Ex.refl _, fun a u h _ => ?_, fun a h1 h2 h3 => ?_⟩⟩
  · rw [upd_ne (ne_of_none h hpH)]; exact w.ex a u h
  · by_cases e : a = p
    · subst e; rw [mset_same] at h; cases h
      exact ⟨hpH, vs, upd_same, hd⟩
    · rw [mset_ne e] at h
      obtain ⟨h1, us, h2, h3⟩ := w.cell a es h
      exact ⟨h1, us, by rw [upd_ne e]; exact h2, h3⟩
  · rw [upd_ne (ne_of_none h hp)]; exact h
  · have e : a ≠ p := by rintro rfl; exact h3.1 hp
    exact ⟨h1, by rw [mset_ne e]; exact h2⟩
/-- a list that changes -/
theorem wrote_ok {H H1 : Hp} {p : Addr} {vs : List V} {ds es : List PyData} (w : WOk K H M H1) (hm : M p = some ds) (hd : DqAll K H vs es) : WOk K H (mset M p es) (upd H1 p (.lst vs)) ∧ Step H H1 M H (upd H1 p (.lst vs)) (mset M p es) := by
  obtain ⟨hpH, us0, hp0, _⟩ := w.cell p ds hm
  refine ⟨⟨fun a u h => ?_, fun a fs h => ?_⟩, ⟨Ex.refl _, fun a u h hn => ?_, fun a h1 h2 h3 => ?_⟩⟩
  · rw [upd_ne (ne_of_none h hpH)]; exact w.ex a u h
  · by_cases e : a = p
    · subst e; rw [mset_same] at h; cases h
      exact ⟨hpH, vs, upd_same, hd⟩
    · rw [mset_ne e] at h
      obtain ⟨h1, us, h2, h3⟩ := w.cell a fs h
      exact ⟨h1, us, by rw [upd_ne e]; exact h2, h3⟩
  · have e : a ≠ p := by rintro rfl; rw [hm] at hn; cases hn
    rw [upd_ne e]; exact h
  · have e : a ≠ p := by rintro rfl; rw [hm] at h2; cases h2
    exact ⟨h1, by rw [mset_ne e]; exact h2⟩
end
end Sd

namespace Sd
open PySem L2
section
variable {K : PySem.W.Frag} {δ : DSt} {M : Mem} {P : SV → Mem → Prop} {PB : Bool → Mem → Prop} {PA : List SV → Mem → Prop} {ta tb te : TE} {tt tu : TT}
/-! ### ints -/
theorem dR_I0i {f : Int → Int → Int} {i j : Int} (p : P (.d (.int (f i j))) M) : dR K (rI0 fun i j => .int (f i j)) (.d (.int i)) (.d (.int j)) M P := fun v w H H1 hv hw wk Q q => by
  cases hv; cases hw
  exact ⟨i, j, rfl, rfl, q _ _ H M H1 p Step.refl wk (.int _)⟩
theorem dR_Ii {C : Int → Int → Prop} {f : Int → Int → Int} {i j : Int} (hc : C i j) (p : P (.d (.int (f i j))) M) : dR K (rI C fun i j => .int (f i j)) (.d (.int i)) (.d (.int j)) M P := fun v w H H1 hv hw wk Q q => by
  cases hv; cases hw
  exact ⟨i, j, rfl, rfl, hc, q _ _ H M H1 p Step.refl wk (.int _)⟩
theorem dU_neg {f : Int → Int} {i : Int} (p : P (.d (.int (f i))) M) : dU K (rU fun i => .int (f i)) (.d (.int i)) M P := fun v H H1 hv wk Q q => by
  cases hv
  exact ⟨i, rfl, q _ _ H M H1 p Step.refl wk (.int _)⟩
theorem dE_cmp {p : Int → Int → Bool} (h : dE K ta δ M fun x M1 => dE K tb δ M1 fun y M2 => ∃ i j, x = .d (.int i) ∧ y = .d (.int j) ∧ P (.d (.bool (p i j))) M2) : dE K (tCmp p ta tb) δ M P := fun σ H H1 e w Q q =>
  h σ H H1 e w _ fun v x H' M' H2 hb s1 w1 vx => hb σ H' H2 (e.mono s1.pure) w1 _ fun u y H'' M'' H3 hr s2 w2 vy => by
    obtain ⟨i, j, rfl, rfl, pp⟩ := hr
    cases vx; cases vy
    exact ⟨i, j, rfl, rfl, q _ _ H'' M'' H3 pp (s1.trans w w1 s2) w2 (.bl _)⟩
/-! ### None -/
def isNon : SV → Bool
  | .d .none => true
  | _ => false
theorem isNon_ok {H : Hp} {v : V} : ∀ {x : SV}, SVOk K H v x → decide (v = .non) = isNon x
  | .d .none, h => by cases h; rfl
  | .d (.bool _), h => by cases h; rfl
  | .d (.int _), h => by cases h; rfl
  | .d (.str _), h => by cases h; rfl
  | .d (.list _), h => by cases h; rfl
  | .d (.tuple _), h => by cases h; rfl
  | .d (.dict _), h => by cases h
  | .m a, h => by cases h; rfl
  | .l ns, ⟨a, e, _⟩ => by subst e; rfl
  | .t n, h => by cases h; rfl
  | .q ps, ⟨a, vs, e, _⟩ => by subst e; rfl
  | .k q, ⟨a, e, _⟩ => by subst e; rfl
theorem dE_isN (h : dE K ta δ M fun x M1 => P (.d (.bool (isNon x))) M1) : dE K (tIsN ta) δ M P := fun σ H H1 e w Q q =>
  h σ H H1 e w _ fun v x H' M' H2 hb s1 w1 vx => by
    show Q (.bl (decide (v = .non))) H2
    rw [isNon_ok vx]
    exact q _ _ H' M' H2 hb s1 w1 (.bl _)
theorem dE_notN (h : dE K ta δ M fun x M1 => P (.d (.bool (!isNon x))) M1) : dE K (tNotN ta) δ M P := fun σ H H1 e w Q q =>
  h σ H H1 e w _ fun v x H' M' H2 hb s1 w1 vx => by
    show Q (.bl (!decide (v = .non))) H2
    rw [isNon_ok vx]
    exact q _ _ H' M' H2 hb s1 w1 (.bl _)
/-! ### tests -/
theorem dT_B (h : dE K te δ M fun x M1 => ∃ b, x = .d (.bool b) ∧ PB b M1) : dT K (tB te) δ M PB := fun σ H H1 e w Q q =>
  h σ H H1 e w _ fun v x H' M' H2 hb s1 w1 vx => by
    obtain ⟨b, rfl, p⟩ := hb
    cases vx
    exact ⟨b, rfl, q b H' M' H2 p s1 w1⟩
theorem dT_test (h : dE K te δ M fun x M1 => ∃ b, x = .d (.bool b) ∧ PB b M1) : dT K (tTest te) δ M PB := fun σ H H1 e w Q q =>
  h σ H H1 e w _ fun v x H' M' H2 hb s1 w1 vx => by
    obtain ⟨b, rfl, p⟩ := hb
    cases vx
    exact ⟨b, rfl, q b H' M' H2 p s1 w1⟩
theorem dT_and (h : dT K tt δ M fun b M1 => if b = true then dT K tu δ M1 PB else PB false M1) : dT K (tAnd tt tu) δ M PB := fun σ H H1 e w Q q =>
  h σ H H1 e w _ fun b H' M' H2 hb s1 w1 => by
    cases b with
    | true => exact hb σ H' H2 (e.mono s1.pure) w1 _ fun c H'' M'' H3 p s2 w2 => q c H'' M'' H3 p (s1.trans w w1 s2) w2
    | false => exact q false H' M' H2 hb s1 w1
theorem dT_or (h : dT K tt δ M fun b M1 => if b = true then PB true M1 else dT K tu δ M1 PB) : dT K (tOr tt tu) δ M PB := fun σ H H1 e w Q q =>
  h σ H H1 e w _ fun b H' M' H2 hb s1 w1 => by
    cases b with
    | false => exact hb σ H' H2 (e.mono s1.pure) w1 _ fun c H'' M'' H3 p s2 w2 => q c H'' M'' H3 p (s1.trans w w1 s2) w2
    | true => exact q true H' M' H2 hb s1 w1
theorem dT_not (h : dT K tt δ M fun b M1 => PB (!b) M1) : dT K (tNot tt) δ M PB := fun σ H H1 e w Q q =>
  h σ H H1 e w _ fun b H' M' H2 hb s1 w1 => q _ H' M' H2 hb s1 w1
theorem dE_if (h : dT K tt δ M fun b M1 => if b = true then dE K ta δ M1 P else dE K tb δ M1 P) : dE K (tIf tt ta tb) δ M P := fun σ H H1 e w Q q =>
  h σ H H1 e w _ fun b H' M' H2 hb s1 w1 => by
    cases b with
    | true => exact hb σ H' H2 (e.mono s1.pure) w1 _ fun v r H'' M'' H3 p s2 w2 vv => q v r H'' M'' H3 p (s1.trans w w1 s2) w2 vv
    | false => exact hb σ H' H2 (e.mono s1.pure) w1 _ fun v r H'' M'' H3 p s2 w2 vv => q v r H'' M'' H3 p (s1.trans w w1 s2) w2 vv
theorem dE_and (h : dE K ta δ M fun x M1 => ∃ b, x = .d (.bool b) ∧ if b = true then dE K tb δ M1 P else P (.d (.bool false)) M1) : dE K (tAndV ta tb) δ M P := fun σ H H1 e w Q q =>
  h σ H H1 e w _ fun v x H' M' H2 hb s1 w1 vx => by
    obtain ⟨b, rfl, p⟩ := hb
    cases vx
    refine ⟨b, rfl, ?_⟩
    cases b with
    | true => exact p σ H' H2 (e.mono s1.pure) w1 _ fun v r H'' M'' H3 p s2 w2 vv => q v r H'' M'' H3 p (s1.trans w w1 s2) w2 vv
    | false => exact q _ _ H' M' H2 p s1 w1 (.bl _)
theorem dE_or (h : dE K ta δ M fun x M1 => ∃ b, x = .d (.bool b) ∧ if b = true then P (.d (.bool true)) M1 else dE K tb δ M1 P) : dE K (tOrV ta tb) δ M P := fun σ H H1 e w Q q =>
  h σ H H1 e w _ fun v x H' M' H2 hb s1 w1 vx => by
    obtain ⟨b, rfl, p⟩ := hb
    cases vx
    refine ⟨b, rfl, ?_⟩
    cases b with
    | false => exact p σ H' H2 (e.mono s1.pure) w1 _ fun v r H'' M'' H3 p s2 w2 vv => q v r H'' M'' H3 p (s1.trans w w1 s2) w2 vv
    | true => exact q _ _ H' M' H2 p s1 w1 (.bl _)
theorem dE_not (h : dE K ta δ M fun x M1 => ∃ b, x = .d (.bool b) ∧ P (.d (.bool (!b))) M1) : dE K (tNotV ta) δ M P := fun σ H H1 e w Q q =>
  h σ H H1 e w _ fun v x H' M' H2 hb s1 w1 vx => by
    obtain ⟨b, rfl, p⟩ := hb
    cases vx
    exact ⟨b, rfl, q _ _ H' M' H2 p s1 w1 (.bl _)⟩
theorem ifT {a : Bool} {X Y : Prop} (h : a = true) (x : X) : if a = true then X else Y := by rw [if_pos h]; exact x
theorem ifF {a : Bool} {X Y : Prop} (h : a = false) (y : Y) : if a = true then X else Y := by rw [if_neg (by rw [h]; decide)]; exact y
theorem ifB {a : Bool} {X Y : Prop} (x : a = true → X) (y : a = false → Y) : if a = true then X else Y := by
  cases a with
  | true => exact x rfl
  | false => exact y rfl
/-! ### data that is a list or a tuple, as it stands -/
/-- a list or tuple with these items -/
def Seq (M : Mem) (r : SV) (ds : List PyData) : Prop := r = .d (.list ds) ∨ r = .d (.tuple ds) ∨ ∃ a, r = .m a ∧ M a = some ds
theorem Seq.sq {H H1 : Hp} {v : V} {r : SV} {ds : List PyData} (s : Seq M r ds) (w : WOk K H M H1) (h : SVOk K H v r) : ∃ a vs, v = .ref a ∧ (H1 a = some (.lst vs) ∨ SqT K H1 a vs) ∧ DqAll K H vs ds := by
  rcases s with rfl | rfl | ⟨a, rfl, hm⟩
  · cases h with
    | lst h1 h2 => exact ⟨_, _, rfl, .inl (w.ex _ _ h1), h2⟩
  · cases h with
    | tup h1 h2 => exact ⟨_, _, rfl, .inr (sqTx w.ex h1), h2⟩
  · obtain ⟨_, vs, h1, h2⟩ := w.cell a ds hm
    exact ⟨a, vs, h, .inl h1, h2⟩
def SeqL (M : Mem) (r : SV) (ds : List PyData) : Prop := r = .d (.list ds) ∨ ∃ a, r = .m a ∧ M a = some ds
theorem SeqL.sq {H H1 : Hp} {v : V} {r : SV} {ds : List PyData} (s : SeqL M r ds) (w : WOk K H M H1) (h : SVOk K H v r) : ∃ a vs, v = .ref a ∧ H1 a = some (.lst vs) ∧ DqAll K H vs ds := by
  rcases s with rfl | ⟨a, rfl, hm⟩
  · cases h with
    | lst h1 h2 => exact ⟨_, _, rfl, w.ex _ _ h1, h2⟩
  · obtain ⟨_, vs, h1, h2⟩ := w.cell a ds hm
    exact ⟨a, vs, h, h1, h2⟩
theorem Seq.d_list {ds : List PyData} : Seq M (.d (.list ds)) ds := .inl rfl
theorem Seq.d_tup {ds : List PyData} : Seq M (.d (.tuple ds)) ds := .inr (.inl rfl)
theorem Seq.of_m {a : Addr} {ds : List PyData} (h : M a = some ds) : Seq M (.m a) ds := .inr (.inr ⟨a, rfl, h⟩)
theorem SeqL.d_list {ds : List PyData} : SeqL M (.d (.list ds)) ds := .inl rfl
theorem SeqL.of_m {a : Addr} {ds : List PyData} (h : M a = some ds) : SeqL M (.m a) ds := .inr ⟨a, rfl, h⟩
theorem atI_of {H : Hp} {vs : List V} {ds : List PyData} {i : Int} {d : PyData} (h : DqAll K H vs ds) (e : atI ds i = some d) : ∃ v, atI vs i = some v ∧ Dq K H v d := by
  unfold atI at e ⊢
  rw [h.length]
  cases q : ixN ds.length i with
  | none => rw [q] at e; cases e
  | some j =>
    rw [q] at e
    exact h.getR e
theorem dR_ixT {ds : List PyData} {i : Int} {d : PyData} (e : atI ds i = some d) (p : P (.d d) M) : dR K (rIxT K) (.d (.tuple ds)) (.d (.int i)) M P := fun v w H H1 hv hw wk Q q => by
  cases hw
  cases hv with
  | tup h1 h2 =>
    obtain ⟨u, e1, e2⟩ := atI_of h2 e
    exact ⟨_, _, i, u, rfl, rfl, sqTx wk.ex h1, e1, q _ _ H M H1 p Step.refl wk e2⟩
theorem dR_ixL {r : SV} {ds : List PyData} {i : Int} {d : PyData} (s : SeqL M r ds) (e : atI ds i = some d) (p : P (.d d) M) : dR K (rIxL K) r (.d (.int i)) M P := fun v w H H1 hv hw wk Q q => by
  cases hw
  obtain ⟨a, vs, rfl, h1, h2⟩ := s.sq wk hv
  obtain ⟨u, e1, e2⟩ := atI_of h2 e
  exact ⟨_, _, i, u, rfl, rfl, SqL.of h1, e1, q _ _ H M H1 p Step.refl wk e2⟩
theorem dR_ixS {ns : List Int} {i : Int} {n : Int} (e : atI ns i = some n) (p : P (.d (.int n)) M) : dR K (rIxL K) (.l ns) (.d (.int i)) M P := fun v w H H1 hv hw wk Q q => by
  cases hw
  obtain ⟨a, rfl, h1⟩ := hv
  refine ⟨a, _, i, .int n, rfl, rfl, Same.seq wk.ex h1, ?_, q _ _ H M H1 p Step.refl wk (.int _)⟩
  unfold atI at e ⊢
  rw [List.length_map]
  cases q : ixN ns.length i with
  | none => rw [q] at e; cases e
  | some j =>
    rw [q] at e
    show (ns.map V.int)[j]? = _
    have e' : ns[j]? = some n := e
    rw [List.getElem?_map, e']; rfl
/-! ### ==, != of data -/
def AsD (M : Mem) (r : SV) (d : PyData) : Prop := r = .d d ∨ ∃ a ds, r = .m a ∧ M a = some ds ∧ d = .list ds
theorem AsD.dp {H H1 : Hp} {v : V} {r : SV} {d : PyData} (s : AsD M r d) (w : WOk K H M H1) (h : SVOk K H v r) : Dp K H1 v d := by
  rcases s with rfl | ⟨a, ds, rfl, hm, rfl⟩
  · exact Dq.dp _ _ (Dq.mono w.ex _ _ h)
  · obtain ⟨_, vs, h1, h2⟩ := w.cell a ds hm
    cases h
    exact .lst (SqL.of h1) (DqAll.dp _ _ (DqAll.mono w.ex _ _ h2))
theorem AsD.of {d : PyData} : AsD M (.d d) d := .inl rfl
theorem dR_ne {x y : SV} {d e : PyData} (hx : AsD M x d) (hy : AsD M y e) (s1 : SeqAt.shaped d = true) (s2 : SeqAt.shaped e = true) (p : P (.d (.bool (!PyData.eqv d e))) M) : dR K (rNeD K) x y M P := fun v w H H1 hv hw wk Q q =>
  ⟨d, e, hx.dp wk hv, hy.dp wk hw, s1, s2, q _ _ H M H1 p Step.refl wk (.bl _)⟩
theorem dR_eq {x y : SV} {d e : PyData} (hx : AsD M x d) (hy : AsD M y e) (s1 : SeqAt.shaped d = true) (s2 : SeqAt.shaped e = true) (p : P (.d (.bool (PyData.eqv d e))) M) : dR K (rEqD K) x y M P := fun v w H H1 hv hw wk Q q =>
  ⟨d, e, hx.dp wk hv, hy.dp wk hw, s1, s2, q _ _ H M H1 p Step.refl wk (.bl _)⟩
theorem shaped_eqv {d : PyData} (s : SeqAt.shaped d = true) : PyData.eqv d d = true := SeqAt.eqv_refl d (by
  unfold SeqAt.shaped at s
  rw [Bool.and_eq_true] at s
  exact s.1)
theorem dR_ne_same {x y : SV} {d : PyData} (hx : AsD M x d) (hy : AsD M y d) (s1 : SeqAt.shaped d = true) (p : P (.d (.bool false)) M) : dR K (rNeD K) x y M P := dR_ne hx hy s1 s1 (by rw [shaped_eqv s1]; exact p)
/-! ### in -/
theorem strs_of {H : Hp} : ∀ {vs : List V} {ns : List Str}, DqAll K H vs (ns.map .str) → vs = ns.map V.str
  | _, [], h => by cases h; rfl
  | _, n :: ns, h => by
    cases h with
    | cons h1 h2 =>
      cases h1
      rw [strs_of h2]; rfl
theorem inV_strs (x : Str) : ∀ ns : List Str, inV (.str x) (ns.map V.str) = ns.contains x
  | [] => rfl
  | n :: ns => by
    have ih := inV_strs x ns
    unfold inV at ih ⊢
    rw [List.map_cons, List.any_cons, ih, List.contains_cons]
    show (n == x || _) = _
    rw [BEq.comm]
theorem flat_strs : ∀ ns : List Str, (ns.map V.str).all flatV = true
  | [] => rfl
  | n :: ns => by rw [List.map_cons, List.all_cons, flat_strs ns]; rfl
theorem dR_in {neg : Bool} {x : Str} {y : SV} {ns : List Str} (hy : Seq M y (ns.map .str)) (p : P (.d (.bool (if neg then !ns.contains x else ns.contains x))) M) : dR K (rIn K neg) (.d (.str x)) y M P := fun v w H H1 hv hw wk Q q => by
  cases hv
  obtain ⟨a, vs, rfl, h1, h2⟩ := hy.sq wk hw
  have e := strs_of h2
  subst e
  refine ⟨a, _, rfl, h1.imp SqL.of id, rfl, flat_strs ns, ?_⟩
  rw [inV_strs]
  exact q _ _ H M H1 p Step.refl wk (.bl _)
/-! ### slices -/
def cutD (xs : List PyData) (lo hi : Option Int) : List PyData := (xs.drop (HT.sIx xs.length 0 lo)).take (HT.sIx xs.length xs.length hi - HT.sIx xs.length 0 lo)
theorem cut_of {H : Hp} {vs : List V} {ds : List PyData} (h : DqAll K H vs ds) (lo hi : Option Int) : DqAll K H (cutV vs lo hi) (cutD ds lo hi) := by
  unfold cutV cutD
  rw [h.length]
  exact (h.drop _).take _
theorem dO_none {PO : Option Int → Mem → Prop} (p : PO none M) : dO K tNoPart δ M PO := fun σ H H1 e w Q q => q none H M H1 p Step.refl w
theorem dO_some {PO : Option Int → Mem → Prop} (h : dE K te δ M fun x M1 => ∃ i, x = .d (.int i) ∧ PO (some i) M1) : dO K (tPart te) δ M PO := fun σ H H1 e w Q q =>
  h σ H H1 e w _ fun v x H' M' H2 hb s1 w1 vx => by
    obtain ⟨i, rfl, p⟩ := hb
    cases vx
    exact ⟨i, rfl, q _ H' M' H2 p s1 w1⟩
theorem dE_sl {r : V → Option Int → Option Int → Hp → VK → Prop} {tl th : TO} (h : dE K te δ M fun x M1 => dO K tl δ M1 fun lo M2 => dO K th δ M2 fun hi M3 => dU K (fun v => r v lo hi) x M3 P) : dE K (tSl r te tl th) δ M P := fun σ H H1 e w Q q =>
  h σ H H1 e w _ fun v x H' M' H2 hb s1 w1 vx => hb σ H' H2 (e.mono s1.pure) w1 _ fun lo Ha Ma H3 hc s2 w2 => hc σ Ha H3 ((e.mono s1.pure).mono s2.pure) w2 _ fun hi Hb Mb H4 hd s3 w3 =>
    hd v Hb H4 ((vx.mono s2.pure).mono s3.pure) w3 Q fun z r Hz Mz H5 p s4 w4 vz => q z r Hz Mz H5 p (((s1.trans w w1 s2).trans w w2 s3).trans w w3 s4) w4 vz
/-- a slice of a list: a new list, told as data -/
theorem dU_slL {lo hi : Option Int} {x : SV} {ds : List PyData} (s : SeqL M x ds) (p : P (.d (.list (cutD ds lo hi))) M) : dU K (fun v => rSlL K v lo hi) x M P := fun v H H1 hv wk Q q => by
  obtain ⟨a, vs, rfl, h1, h2⟩ := s.sq wk hv
  refine ⟨a, vs, rfl, SqL.of h1, fun l hl => ?_⟩
  obtain ⟨w2, s2⟩ := laid_ok (o := .lst (cutV vs lo hi)) wk hl
  exact q _ _ _ M _ p s2 w2 (.lst upd_same (DqAll.mono s2.pure _ _ (cut_of h2 lo hi)))
theorem dU_slT {lo hi : Option Int} {ds : List PyData} (hn : ¬ (HT.sIx ds.length 0 lo = 0 ∧ HT.sIx ds.length ds.length hi = ds.length)) (p : P (.d (.tuple (cutD ds lo hi))) M) : dU K (fun v => rSlT K v lo hi) (.d (.tuple ds)) M P := fun v H H1 hv wk Q q => by
  cases hv with
  | tup h1 h2 =>
    refine ⟨_, _, rfl, sqTx wk.ex h1, by rw [h2.length]; exact hn, fun l hl => ?_⟩
    obtain ⟨w2, s2⟩ := laid_ok (o := .tup (cutV _ lo hi)) wk hl
    exact q _ _ _ M _ p s2 w2 (.tup (SqT.of upd_same) (DqAll.mono s2.pure _ _ (cut_of h2 lo hi)))
/-! ### +, of tuples, of lists -/
theorem dR_catT {ds es : List PyData} (h0 : ds ≠ []) (h1 : es ≠ []) (hz : ds.length + es.length ≤ 100000) (p : P (.d (.tuple (ds ++ es))) M) : dR K (rCatT K) (.d (.tuple ds)) (.d (.tuple es)) M P := fun v w H H1 hv hw wk Q q => by
  cases hv with
  | tup a1 a2 =>
    cases hw with
    | tup b1 b2 =>
      have l1 := a2.length
      have l2 := b2.length
      refine ⟨_, _, _, _, rfl, rfl, sqTx wk.ex a1, sqTx wk.ex b1, fun z => h0 (by rw [z] at l1; exact List.length_eq_zero_iff.mp l1.symm), by rw [l1, l2]; exact Nat.le_trans hz (by decide), fun z => absurd (by rw [z] at l2; exact List.length_eq_zero_iff.mp l2.symm) h1, fun _ l hl => ?_⟩
      obtain ⟨w2, s2⟩ := laid_ok (o := .tup (_ ++ _)) wk hl
      exact q _ _ _ M _ p s2 w2 (.tup (SqT.of upd_same) (DqAll.mono s2.pure _ _ (a2.append b2)))
theorem dR_cat {x y : SV} {ds es : List PyData} (hx : SeqL M x ds) (hy : SeqL M y es) (hz : ds.length + es.length ≤ 100000) (p : P (.d (.list (ds ++ es))) M) : dR K rCat x y M P := fun v w H H1 hv hw wk Q q => by
  obtain ⟨a, vs, rfl, a1, a2⟩ := hx.sq wk hv
  obtain ⟨b, us, rfl, b1, b2⟩ := hy.sq wk hw
  refine ⟨a, b, vs, us, rfl, rfl, a1, b1, by rw [a2.length, b2.length]; exact Nat.le_trans hz (by decide), fun l hl => ?_⟩
  obtain ⟨w2, s2⟩ := laid_ok (o := .lst (vs ++ us)) wk hl
  exact q _ _ _ M _ p s2 w2 (.lst upd_same (DqAll.mono s2.pure _ _ (a2.append b2)))
/-! ### displays -/
def datAll : List SV → Option (List PyData)
  | [] => some []
  | .d x :: r => (datAll r).map (x :: ·)
  | .k q :: r => (datAll r).map (.tuple [.int q.1, .int q.2] :: ·)
  | _ => none
theorem k_dat {K : PySem.W.Frag} {H : Hp} {v : V} {q : Int × Int} (h : SVOk K H v (.k q)) : Dq K H v (.tuple [.int q.1, .int q.2]) := by
  obtain ⟨a, rfl, h⟩ := h
  exact .tup (SqT.of h) (.cons (.int _) (.cons (.int _) .nil))
theorem dat_ok {H : Hp} : ∀ {vs : List V} {rs : List SV} {ds : List PyData}, SVsOk K H vs rs → datAll rs = some ds → DqAll K H vs ds
  | _, _, ds, .nil, e => by cases e; exact .nil
  | _, _, ds, .cons (r := r) (rs := rs) h t, e => by
    cases r with
    | d x =>
      cases q : datAll rs with
      | none => rw [show datAll (.d x :: rs) = (datAll rs).map (x :: ·) from rfl, q] at e; cases e
      | some es =>
        rw [show datAll (.d x :: rs) = (datAll rs).map (x :: ·) from rfl, q] at e
        cases e
        exact .cons h (dat_ok t q)
    | k x =>
      cases q : datAll rs with
      | none => rw [show datAll (.k x :: rs) = (datAll rs).map (.tuple [.int x.1, .int x.2] :: ·) from rfl, q] at e; cases e
      | some es =>
        rw [show datAll (.k x :: rs) = (datAll rs).map (.tuple [.int x.1, .int x.2] :: ·) from rfl, q] at e
        cases e
        exact .cons (k_dat h) (dat_ok t q)
    | m a => cases e
    | l ns => cases e
    | t n => cases e
    | q ps => cases e
theorem dE_tup {ts : TA} (h : dA K ts δ M fun rs M1 => ∃ ds, datAll rs = some ds ∧ ds.length ≤ 1000 ∧ P (.d (.tuple ds)) M1) : dE K (tTup ts) δ M P := fun σ H H1 e w Q q =>
  h σ H H1 e w _ fun vs rs H' M' H2 hb s1 w1 vx => by
    obtain ⟨ds, e1, e2, p⟩ := hb
    have hd := dat_ok vx e1
    refine ⟨by rw [hd.length]; exact Nat.le_trans e2 (by decide), fun l hl => ?_⟩
    obtain ⟨w2, s2⟩ := laid_ok (o := .tup vs) w1 hl
    exact q _ _ _ M' _ p (s1.trans w w1 s2) w2 (.tup (SqT.of upd_same) (DqAll.mono s2.pure _ _ hd))
theorem dE_lst {ts : TA} (h : dA K ts δ M fun rs M1 => ∃ ds, datAll rs = some ds ∧ ds.length ≤ 1000 ∧ P (.d (.list ds)) M1) : dE K (tLst ts) δ M P := fun σ H H1 e w Q q =>
  h σ H H1 e w _ fun vs rs H' M' H2 hb s1 w1 vx => by
    obtain ⟨ds, e1, e2, p⟩ := hb
    have hd := dat_ok vx e1
    refine ⟨by rw [hd.length]; exact Nat.le_trans e2 (by decide), fun l hl => ?_⟩
    obtain ⟨w2, s2⟩ := laid_ok (o := .lst vs) w1 hl
    exact q _ _ _ M' _ p (s1.trans w w1 s2) w2 (.lst upd_same (DqAll.mono s2.pure _ _ hd))
/-- a new list that will change -/
theorem dE_lstM {ts : TA} (h : dA K ts δ M fun rs M1 => ∃ ds, datAll rs = some ds ∧ ds.length ≤ 1000 ∧ ∀ a, M1 a = none → P (.m a) (mset M1 a ds)) : dE K (tLst ts) δ M P := fun σ H H1 e w Q q =>
  h σ H H1 e w _ fun vs rs H' M' H2 hb s1 w1 vx => by
    obtain ⟨ds, e1, e2, p⟩ := hb
    have hd := dat_ok vx e1
    refine ⟨by rw [hd.length]; exact Nat.le_trans e2 (by decide), fun l hl => ?_⟩
    obtain ⟨hm, w2, s2⟩ := laid_m w1 hl hd
    exact q _ _ _ _ _ (p l hm) (s1.trans w w1 s2) w2 rfl
/-! ### calls of built-ins -/
theorem dC_abs {i : Int} (p : P (.d (.int (if i < 0 then -i else i))) M) : dC K (fun xs H Q => ∃ i, xs = [.int i] ∧ Q (.int (if i < 0 then -i else i)) H) [.d (.int i)] M P := fun vs H H1 hv wk Q q => by
  cases hv with
  | cons h t => cases t; cases h; exact ⟨i, rfl, q _ _ H M H1 p Step.refl wk (.int _)⟩
theorem dC_max2 {i j : Int} (p : P (.d (.int (if j > i then j else i))) M) : dC K (fun xs H Q => ∃ i j, xs = [.int i, .int j] ∧ Q (.int (if j > i then j else i)) H) [.d (.int i), .d (.int j)] M P := fun vs H H1 hv wk Q q => by
  cases hv with
  | cons h t => cases t with
    | cons h' t => cases t; cases h; cases h'; exact ⟨i, j, rfl, q _ _ H M H1 p Step.refl wk (.int _)⟩
theorem dC_min2 {i j : Int} (p : P (.d (.int (if j < i then j else i))) M) : dC K (fun xs H Q => ∃ i j, xs = [.int i, .int j] ∧ Q (.int (if j < i then j else i)) H) [.d (.int i), .d (.int j)] M P := fun vs H H1 hv wk Q q => by
  cases hv with
  | cons h t => cases t with
    | cons h' t => cases t; cases h; cases h'; exact ⟨i, j, rfl, q _ _ H M H1 p Step.refl wk (.int _)⟩
theorem dC_len {x : SV} {ds : List PyData} (s : Seq M x ds) (p : P (.d (.int ds.length)) M) : dC K (fun xs H Q => ∃ p ys, xs = [.ref p] ∧ (SqL K H p ys ∨ SqT K H p ys) ∧ Q (.int ys.length) H) [x] M P := fun vs H H1 hv wk Q q => by
  cases hv with
  | cons h t =>
    cases t
    obtain ⟨a, vs, rfl, h1, h2⟩ := s.sq wk h
    refine ⟨a, vs, rfl, h1.imp SqL.of id, ?_⟩
    rw [h2.length]
    exact q _ _ H M H1 p Step.refl wk (.int _)
theorem dC_lenS {ns : List Int} (p : P (.d (.int ns.length)) M) : dC K (fun xs H Q => ∃ p ys, xs = [.ref p] ∧ (SqL K H p ys ∨ SqT K H p ys) ∧ Q (.int ys.length) H) [.l ns] M P := fun vs H H1 hv wk Q q => by
  cases hv with
  | cons h t =>
    cases t
    obtain ⟨a, rfl, h1⟩ := h
    refine ⟨a, _, rfl, .inl (Same.seq wk.ex h1), ?_⟩
    rw [List.length_map]
    exact q _ _ H M H1 p Step.refl wk (.int _)
theorem dC_sum {x : SV} {ns : List Int} (s : SeqL M x (ns.map .int)) (p : P (.d (.int ns.sum)) M) : dC K (rSum K) [x] M P := fun vs H H1 hv wk Q q => by
  cases hv with
  | cons h t =>
    cases t
    obtain ⟨a, vs, rfl, h1, h2⟩ := s.sq wk h
    rw [h2.ints] at h1
    exact ⟨a, ns, rfl, SqL.of h1, q _ _ H M H1 p Step.refl wk (.int _)⟩
theorem dC_tuple {x : SV} {ds : List PyData} (s : SeqL M x ds) (p : P (.d (.tuple ds)) M) :
    dC K (fun xs H Q => ∃ p ys, xs = [.ref p] ∧ ((SqL K H p ys ∧ ∀ l, H l = none → Q (.ref l) (upd H l (.tup ys))) ∨ (SqT K H p ys ∧ Q (.ref p) H))) [x] M P := fun vs H H1 hv wk Q q => by
  cases hv with
  | cons h t =>
    cases t
    obtain ⟨a, vs, rfl, h1, h2⟩ := s.sq wk h
    refine ⟨a, vs, rfl, .inl ⟨SqL.of h1, fun l hl => ?_⟩⟩
    obtain ⟨w2, s2⟩ := laid_ok (o := .tup vs) wk hl
    exact q _ _ _ M _ p s2 w2 (.tup (SqT.of upd_same) (DqAll.mono s2.pure _ _ h2))
theorem dC_list {x : SV} {ds : List PyData} (s : Seq M x ds) (p : P (.d (.list ds)) M) :
    dC K (fun xs H Q => ∃ p ys, xs = [.ref p] ∧ (SqL K H p ys ∨ SqT K H p ys) ∧ ∀ l, H l = none → Q (.ref l) (upd H l (.lst ys))) [x] M P := fun vs H H1 hv wk Q q => by
  cases hv with
  | cons h t =>
    cases t
    obtain ⟨a, vs, rfl, h1, h2⟩ := s.sq wk h
    refine ⟨a, vs, rfl, h1.imp SqL.of id, fun l hl => ?_⟩
    obtain ⟨w2, s2⟩ := laid_ok (o := .lst vs) wk hl
    exact q _ _ _ M _ p s2 w2 (.lst upd_same (DqAll.mono s2.pure _ _ h2))
theorem dC_listM {x : SV} {ds : List PyData} (s : Seq M x ds) (p : ∀ a, M a = none → P (.m a) (mset M a ds)) :
    dC K (fun xs H Q => ∃ p ys, xs = [.ref p] ∧ (SqL K H p ys ∨ SqT K H p ys) ∧ ∀ l, H l = none → Q (.ref l) (upd H l (.lst ys))) [x] M P := fun vs H H1 hv wk Q q => by
  cases hv with
  | cons h t =>
    cases t
    obtain ⟨a, vs, rfl, h1, h2⟩ := s.sq wk h
    refine ⟨a, vs, rfl, h1.imp SqL.of id, fun l hl => ?_⟩
    obtain ⟨hm, w2, s2⟩ := laid_m wk hl h2
    exact q _ _ _ _ _ (p l hm) s2 w2 rfl
end
end Sd

namespace Sd
open PySem L2
/-- a promise over data: what is asked of the arguments, and what is wanted behind -/
abbrev SpD := List SV → Mem → (SV → Mem → Prop) → Prop
def spOf (K : PySem.W.Frag) (S : SpD) : Sp := fun vs H1 Q _ => ∃ (rs : List SV) (H : Hp) (M : Mem) (P : SV → Mem → Prop), WOk K H M H1 ∧ SVsOk K H vs rs ∧ S rs M P ∧
  ∀ v r H' M' H2, P r M' → Step H H1 M H' H2 M' → WOk K H' M' H2 → SVOk K H' v r → Q v H2
structure DEnds where
  nx : DSt → Mem → Prop
  rt : SV → Mem → Prop
  bk : DSt → Mem → Prop := fun _ _ => False
  ct : DSt → Mem → Prop := fun _ _ => False
section
variable (K : PySem.W.Frag)
structure DEnds.Ok (D : DEnds) (D' : Ends) (H H1 : Hp) (M : Mem) : Prop where
  nx : ∀ δ' M' σ' H' H2, D.nx δ' M' → Step H H1 M H' H2 M' → EnvOk K H' σ' δ' → WOk K H' M' H2 → D'.nx σ' H2
  rt : ∀ r v H' M' H2, D.rt r M' → Step H H1 M H' H2 M' → WOk K H' M' H2 → SVOk K H' v r → D'.rt v H2
  bk : ∀ δ' M' σ' H' H2, D.bk δ' M' → Step H H1 M H' H2 M' → EnvOk K H' σ' δ' → WOk K H' M' H2 → D'.bk σ' H2
  ct : ∀ δ' M' σ' H' H2, D.ct δ' M' → Step H H1 M H' H2 M' → EnvOk K H' σ' δ' → WOk K H' M' H2 → D'.ct σ' H2
def dS (t : TS) (D : DEnds) (δ : DSt) (M : Mem) : Prop := ∀ (D' : Ends) (σ : St) (H H1 : Hp), EnvOk K H σ δ → WOk K H M H1 → DEnds.Ok K D D' H H1 M → t D' σ H1
def dG (g : TG) (x : SV) (δ : DSt) (M : Mem) (P : DSt → Mem → Prop) : Prop := ∀ (v : V) (σ : St) (H H1 : Hp), EnvOk K H σ δ → WOk K H M H1 → SVOk K H v x → ∀ Q : St → Hp → Prop,
  (∀ δ' M' σ' H' H2, P δ' M' → Step H H1 M H' H2 M' → EnvOk K H' σ' δ' → WOk K H' M' H2 → Q σ' H2) → g v σ H1 Q
def dGs (g : TGs) (xs : List SV) (δ : DSt) (M : Mem) (P : DSt → Mem → Prop) : Prop := ∀ (vs : List V) (σ : St) (H H1 : Hp), EnvOk K H σ δ → WOk K H M H1 → SVsOk K H vs xs → ∀ Q : St → Hp → Prop,
  (∀ δ' M' σ' H' H2, P δ' M' → Step H H1 M H' H2 M' → EnvOk K H' σ' δ' → WOk K H' M' H2 → Q σ' H2) → g vs σ H1 Q
end
section
variable {K : PySem.W.Frag} {δ : DSt} {M : Mem} {P : SV → Mem → Prop} {PB : Bool → Mem → Prop} {PD : DSt → Mem → Prop} {ta tb te : TE} {tt : TT} {t u : TS} {D : DEnds}
theorem DEnds.Ok.after {D' : Ends} {H H1 H' H2 : Hp} {M' : Mem} (o : DEnds.Ok K D D' H H1 M) (w : WOk K H M H1) (w' : WOk K H' M' H2) (s : Step H H1 M H' H2 M') : DEnds.Ok K D D' H' H2 M' :=
  ⟨fun δ' M2 σ' H3 H4 p s2 e2 w2 => o.nx δ' M2 σ' H3 H4 p (s.trans w w' s2) e2 w2, fun r v H3 M2 H4 p s2 w2 vv => o.rt r v H3 M2 H4 p (s.trans w w' s2) w2 vv,
   fun δ' M2 σ' H3 H4 p s2 e2 w2 => o.bk δ' M2 σ' H3 H4 p (s.trans w w' s2) e2 w2, fun δ' M2 σ' H3 H4 p s2 e2 w2 => o.ct δ' M2 σ' H3 H4 p (s.trans w w' s2) e2 w2⟩
theorem dE_call {S : SpD} {E : XK} {ts : TA} (h : dA K ts δ M fun rs M1 => S rs M1 P) : dE K (tCall (spOf K S) [] E ts) δ M P := fun σ H H1 e w Q q =>
  h σ H H1 e w _ fun vs rs H' M' H2 hb s1 w1 vx => ⟨rs, H', M', P, w1, by rw [List.append_nil]; exact vx, hb, fun v r H3' M3 H4 p s3 w3 vz => q v r H3' M3 H4 p (s1.trans w w1 s3) w3 vz⟩
/-! ### statements -/
theorem dS_seq (h : dS K t { D with nx := fun δ' M' => dS K u D δ' M' } δ M) : dS K (tSeq t u) D δ M := fun D' σ H H1 e w o =>
  h { D' with nx := u D' } σ H H1 e w ⟨fun δ' M' σ' H' H2 p s e' w' => p D' σ' H' H2 e' w' (o.after w w' s), o.rt, o.bk, o.ct⟩
theorem dS_next (h : D.nx δ M) : dS K tNext D δ M := fun D' σ H H1 e w o => o.nx δ M σ H H1 h Step.refl e w
theorem dS_brk (h : D.bk δ M) : dS K tBreak D δ M := fun D' σ H H1 e w o => o.bk δ M σ H H1 h Step.refl e w
theorem dS_cont (h : D.ct δ M) : dS K tCont D δ M := fun D' σ H H1 e w o => o.ct δ M σ H H1 h Step.refl e w
theorem dS_ret (h : dE K te δ M D.rt) : dS K (tRet te) D δ M := fun D' σ H H1 e w o => h σ H H1 e w _ fun v r H' M' H2 p s w' vv => o.rt r v H' M' H2 p s w' vv
theorem dS_drop (h : dE K te δ M fun _ M' => D.nx δ M') : dS K (tDrop te) D δ M := fun D' σ H H1 e w o => h σ H H1 e w _ fun v r H' M' H2 p s w' vv => o.nx δ M' σ H' H2 p s (e.mono s.pure) w'
theorem dS_if (h : dT K tt δ M fun b M' => if b = true then dS K t D δ M' else dS K u D δ M') : dS K (tIfS tt t u) D δ M := fun D' σ H H1 e w o =>
  h σ H H1 e w _ fun b H' M' H2 p s w' => by
    cases b with
    | true => exact p D' σ H' H2 (e.mono s.pure) w' (o.after w w' s)
    | false => exact p D' σ H' H2 (e.mono s.pure) w' (o.after w w' s)
theorem dS_asg {g : TG} (h : dE K te δ M fun r M' => dG K g r δ M' D.nx) : dS K (tAsg te g) D δ M := fun D' σ H H1 e w o =>
  h σ H H1 e w _ fun v r H' M' H2 p s w' vv => p v σ H' H2 (e.mono s.pure) w' vv _ fun δ' M2 σ' H3 H4 p2 s2 e2 w2 => o.nx δ' M2 σ' H3 H4 p2 (s.trans w w' s2) e2 w2
theorem dG_name {i : Nat} {r : SV} (h : PD (δ.set i (some r)) M) : dG K (gName i) r δ M PD := fun v σ H H1 e w hv Q q => q _ M _ H H1 h Step.refl (e.set i hv) w
theorem dGs_nil (h : PD δ M) : dGs K gNil [] δ M PD := fun vs σ H H1 e w hv Q q => by
  cases hv
  exact ⟨rfl, q δ M σ H H1 h Step.refl e w⟩
theorem dGs_cons {g : TG} {gs : TGs} {x : SV} {xs : List SV} (h : dG K g x δ M fun δ' M' => dGs K gs xs δ' M' PD) : dGs K (gCons g gs) (x :: xs) δ M PD := fun vs σ H H1 e w hv Q q => by
  cases hv with
  | cons h1 h2 => exact ⟨_, _, rfl, h _ σ H H1 e w h1 _ fun δ' M' σ' H' H2 p s e' w' => p _ σ' H' H2 e' w' (h2.mono s.pure) Q fun δ2 M2 σ2 H3 H4 p2 s2 e2 w2 => q δ2 M2 σ2 H3 H4 p2 (s.trans w w' s2) e2 w2⟩
theorem SVsOk.ofDq {H : Hp} : ∀ {vs : List V} {ds : List PyData}, DqAll K H vs ds → SVsOk K H vs (ds.map SV.d)
  | _, [], h => by cases h; exact .nil
  | _, d :: ds, h => by
    cases h with
    | cons h1 h2 => exact .cons h1 (SVsOk.ofDq h2)
theorem dG_tup {n : Nat} {gs : TGs} {ds : List PyData} (hn : ds.length = n) (h : dGs K gs (ds.map SV.d) δ M PD) : dG K (gTup K n gs) (.d (.tuple ds)) δ M PD := fun v σ H H1 e w hv Q q => by
  cases hv with
  | tup h1 h2 => exact ⟨_, _, rfl, sqTx w.ex h1, by rw [h2.length]; exact hn, h _ σ H H1 e w (SVsOk.ofDq h2) Q q⟩
/-- a[i] = e -/
theorem dG_sub {a : Addr} {j : Nat} {ds : List PyData} {d : PyData} (h : dE K ta δ M fun r M1 => r = .m a ∧ dE K tb δ M1 fun s M2 => s = .d (.int (j : Int)) ∧ M2 a = some ds ∧ j < ds.length ∧ PD δ (mset M2 a (ds.set j d))) : dG K (gSub ta tb rSetL) (.d d) δ M PD := fun v σ H H1 e w hv Q q =>
  h σ H H1 e w _ fun va ra H' M' H2 ⟨ea, hb⟩ s w' vva => hb σ H' H2 (e.mono s.pure) w' _ fun vb rb H'' M'' H3 ⟨eb, hm, hj, pp⟩ s2 w2 vvb => by
    subst ea; subst eb
    cases vva; cases vvb
    obtain ⟨_, vs, h1, h2⟩ := w2.cell a ds hm
    have hv' : Dq K H'' v d := Dq.mono s2.pure _ _ (Dq.mono s.pure _ _ hv)
    obtain ⟨w3, s3⟩ := wrote_ok w2 hm (DqAll.set hv' j h2)
    refine ⟨a, vs, (j : Int), j, rfl, rfl, h1, ?_, q δ _ σ _ _ pp ((s.trans w w' s2).trans w w2 s3) (((e.mono s.pure).mono s2.pure).mono s3.pure) w3⟩
    unfold ixN
    rw [if_pos (by omega), if_pos (by rw [h2.length]; omega)]
    simp
/-- a, b = e1, e2 -/
theorem dS_par {i j : Nat} {ts : TA} (h : dA K ts δ M fun rs M' => ∃ r s, rs = [r, s] ∧ D.nx ((δ.set i (some r)).set j (some s)) M') : dS K (tPar i j ts) D δ M := fun D' σ H H1 e w o =>
  h σ H H1 e w _ fun vs rs H' M' H2 p s w' vv => by
    obtain ⟨r, s', rfl, p⟩ := p
    cases vv with
    | cons h1 h2 => cases h2 with
      | cons h2 h3 => cases h3; exact ⟨_, _, rfl, o.nx _ M' _ H' H2 p s (((e.mono s.pure).set i h1).set j h2) w'⟩
theorem dS_aug {i : Nat} {f : Int → Int → Int} {a : Int} (hx : δ[i]? = some (some (.d (.int a)))) (h : dE K te δ M fun r M' => ∃ b, r = .d (.int b) ∧ D.nx (δ.set i (some (.d (.int (f a b))))) M') : dS K (tAug i te (ipI f)) D δ M := fun D' σ H H1 e w o => by
  obtain ⟨v, h1, h2⟩ := e.at' i _ hx
  cases h2
  refine ⟨_, h1, h σ H H1 e w _ fun v r H' M' H2 p s w' vv => ?_⟩
  obtain ⟨b, rfl, p⟩ := p
  cases vv
  exact ⟨a, b, rfl, rfl, o.nx _ M' _ H' H2 p s ((e.mono s.pure).set i (r := .d (.int (f a b))) (.int _)) w'⟩
/-- xs.append(e) -/
theorem dE_app (h : dE K ta δ M fun r M1 => ∃ a, r = .m a ∧ (∃ ds, M1 a = some ds) ∧ dE K te δ M1 fun s M2 => ∃ d ds, s = .d d ∧ M2 a = some ds ∧ ds.length < 100000 ∧ P (.d .none) (mset M2 a (ds ++ [d]))) :
    dE K (tBM K "list" rAppend ta (tCons te tNil)) δ M P := fun σ H H1 e w Q q =>
  h σ H H1 e w _ fun va ra H' M' H2 ⟨a, ea, ⟨ds0, hm0⟩, hb⟩ s w' vva => by
    subst ea
    cases vva
    obtain ⟨_, vs0, g1, _⟩ := w'.cell a ds0 hm0
    refine ⟨Or.inl ⟨rfl, vs0, SqL.of g1⟩, hb σ H' H2 (e.mono s.pure) w' _ fun vb rb H'' M'' H3 hp s2 w2 vvb => ?_⟩
    obtain ⟨d, ds, eb, hm, hl, pp⟩ := hp
    subst eb
    obtain ⟨_, vs, h1, h2⟩ := w2.cell a ds hm
    obtain ⟨w3, s3⟩ := wrote_ok (vs := vs ++ [vb]) w2 hm (h2.append (.cons vvb .nil))
    exact ⟨a, vs, vb, rfl, rfl, h1, by rw [h2.length]; exact Nat.lt_of_lt_of_le hl (by decide), q _ _ _ _ _ pp ((s.trans w w' s2).trans w w2 s3) w3 .non⟩
/-- xs.extend(ys) -/
theorem dE_ext (h : dE K ta δ M fun r M1 => ∃ a, r = .m a ∧ (∃ ds, M1 a = some ds) ∧ dE K te δ M1 fun s M2 => ∃ ds es, SeqL M2 s es ∧ M2 a = some ds ∧ ds.length + es.length < 100000 ∧ P (.d .none) (mset M2 a (ds ++ es))) :
    dE K (tBM K "list" rExtend ta (tCons te tNil)) δ M P := fun σ H H1 e w Q q =>
  h σ H H1 e w _ fun va ra H' M' H2 ⟨a, ea, ⟨ds0, hm0⟩, hb⟩ s w' vva => by
    subst ea
    cases vva
    obtain ⟨_, vs0, g1, _⟩ := w'.cell a ds0 hm0
    refine ⟨Or.inl ⟨rfl, vs0, SqL.of g1⟩, hb σ H' H2 (e.mono s.pure) w' _ fun vb rb H'' M'' H3 hp s2 w2 vvb => ?_⟩
    obtain ⟨ds, es, eb, hm, hl, pp⟩ := hp
    obtain ⟨_, vs, h1, h2⟩ := w2.cell a ds hm
    obtain ⟨b, us, rfl, k1, k2⟩ := eb.sq w2 vvb
    obtain ⟨w3, s3⟩ := wrote_ok (vs := vs ++ us) w2 hm (h2.append k2)
    exact ⟨a, b, vs, us, rfl, rfl, h1, k1, by rw [h2.length, k2.length]; exact Nat.le_trans (Nat.le_of_lt hl) (by decide), q _ _ _ _ _ pp ((s.trans w w' s2).trans w w2 s3) w3 .non⟩
/-! ### loops -/
/-- the heap's side of a loop's word -/
def LoopW (K : PySem.W.Frag) (H H1 : Hp) (M : Mem) (Inv : DSt → Mem → Prop) (σ : St) (H2 : Hp) : Prop := ∃ δ' M' H', Inv δ' M' ∧ Step H H1 M H' H2 M' ∧ EnvOk K H' σ δ' ∧ WOk K H' M' H2
theorem body_ok {g : TG} {x : SV} {D' : Ends} {H H1 : Hp} {I I' : DSt → Mem → Prop} {v : V} {σ' : St} {H' H2 : Hp} {δ' : DSt} {M' : Mem} (w : WOk K H M H1) (o : DEnds.Ok K D D' H H1 M)
    (s : Step H H1 M H' H2 M') (e' : EnvOk K H' σ' δ') (w' : WOk K H' M' H2) (vv : SVOk K H' v x)
    (h : dG K g x δ' M' fun δ2 M2 => dS K t { D with nx := I', ct := I', bk := D.nx } δ2 M2) :
    g v σ' H2 fun σ2 H3 => t { D' with nx := LoopW K H H1 M I', ct := LoopW K H H1 M I', bk := D'.nx } σ2 H3 :=
  h v σ' H' H2 e' w' vv _ fun δ2 M2 σ2 Ha Hb hS s2 e2 w2 => hS _ σ2 Ha Hb e2 w2
    ⟨fun δ3 M3 σ3 Hc Hd p s3 e3 w3 => ⟨δ3, M3, Hc, p, (s.trans w w' s2).trans w w2 s3, e3, w3⟩, fun r v Hc M3 Hd p s3 w3 vv => o.rt r v Hc M3 Hd p ((s.trans w w' s2).trans w w2 s3) w3 vv,
     fun δ3 M3 σ3 Hc Hd p s3 e3 w3 => o.nx δ3 M3 σ3 Hc Hd p ((s.trans w w' s2).trans w w2 s3) e3 w3, fun δ3 M3 σ3 Hc Hd p s3 e3 w3 => ⟨δ3, M3, Hc, p, (s.trans w w' s2).trans w w2 s3, e3, w3⟩⟩
theorem dS_range1 {ts : TA} {g : TG} (h : dA K ts δ M fun rs M1 => ∃ n : Int, rs = [.d (.int n)] ∧ (-100000 ≤ n ∧ n ≤ 100000) ∧ ∃ I : Nat → DSt → Mem → Prop, I 0 δ M1 ∧
      (∀ (i : Nat) δ' M', (i : Int) < n → I i δ' M' → dG K g (.d (.int (i : Int))) δ' M' fun δ2 M2 => dS K t { D with nx := I (i + 1), ct := I (i + 1), bk := D.nx } δ2 M2) ∧ ∀ δ' M', I n.toNat δ' M' → D.nx δ' M') :
    dS K (tFor (iRng1 ts) g t) D δ M := fun D' σ H H1 e w o =>
  h σ H H1 e w _ fun vs rs H' M' H2 hb s w' vv => by
    obtain ⟨n, rfl, hn, I, i0, it, ie⟩ := hb
    cases vv with
    | cons h1 h2 =>
      cases h2; cases h1
      refine ⟨n, rfl, by omega, by omega, for_range (lo := 0) (n := n.toNat) (fun i => LoopW K H H1 M (I i)) ⟨δ, M', H', i0, s, e.mono s.pure, w'⟩ (fun i σ' H3 hi p => ?_) fun σ' H3 p => ?_⟩
      · obtain ⟨δ', M2, Ha, p, s2, e2, w2⟩ := p
        rw [show (0 : Int) + (i : Int) = (i : Int) from Int.zero_add _]
        exact body_ok (I := I i) w o s2 e2 w2 (x := .d (.int (i : Int))) (.int _) (it i δ' M2 (by omega) p)
      · obtain ⟨δ', M2, Ha, p, s2, e2, w2⟩ := p
        exact o.nx δ' M2 σ' Ha H3 (ie _ _ p) s2 e2 w2
end
end Sd

namespace Sd
open PySem L2
section
variable {K : PySem.W.Frag} {δ : DSt} {M : Mem} {P : SV → Mem → Prop} {PB : Bool → Mem → Prop} {PD : DSt → Mem → Prop} {ta tb te : TE} {tt : TT} {t u : TS} {D : DEnds} {g : TG}
theorem dS_range2 {ts : TA} (h : dA K ts δ M fun rs M1 => ∃ lo n : Int, rs = [.d (.int lo), .d (.int n)] ∧ (-100000 ≤ lo ∧ lo ≤ 100000 ∧ -100000 ≤ n ∧ n ≤ 100000) ∧ ∃ I : Nat → DSt → Mem → Prop, I 0 δ M1 ∧
      (∀ (i : Nat) δ' M', lo + (i : Int) < n → I i δ' M' → dG K g (.d (.int (lo + (i : Int)))) δ' M' fun δ2 M2 => dS K t { D with nx := I (i + 1), ct := I (i + 1), bk := D.nx } δ2 M2) ∧ ∀ δ' M', I (n - lo).toNat δ' M' → D.nx δ' M') :
    dS K (tFor (iRng2 ts) g t) D δ M := fun D' σ H H1 e w o =>
  h σ H H1 e w _ fun vs rs H' M' H2 hb s w' vv => by
    obtain ⟨lo, n, rfl, hn, I, i0, it, ie⟩ := hb
    cases vv with
    | cons h1 h2 => cases h2 with
      | cons h2 h3 =>
        cases h3; cases h1; cases h2
        refine ⟨lo, n, rfl, ⟨by omega, by omega, by omega, by omega⟩, for_range (lo := lo) (n := (n - lo).toNat) (fun i => LoopW K H H1 M (I i)) ⟨δ, M', H', i0, s, e.mono s.pure, w'⟩ (fun i σ' H3 hi p => ?_) fun σ' H3 p => ?_⟩
        · obtain ⟨δ', M2, Ha, p, s2, e2, w2⟩ := p
          exact body_ok (I := I i) w o s2 e2 w2 (x := .d (.int (lo + (i : Int)))) (.int _) (it i δ' M2 (by omega) p)
        · obtain ⟨δ', M2, Ha, p, s2, e2, w2⟩ := p
          exact o.nx δ' M2 σ' Ha H3 (ie _ _ p) s2 e2 w2
theorem dS_forL {tl : TE} (h : dE K tl δ M fun r M1 => ∃ ds, r = .d (.list ds) ∧ ∃ I : Nat → DSt → Mem → Prop, I 0 δ M1 ∧
      (∀ (i : Nat) x δ' M', ds[i]? = some x → I i δ' M' → dG K g (.d x) δ' M' fun δ2 M2 => dS K t { D with nx := I (i + 1), ct := I (i + 1), bk := D.nx } δ2 M2) ∧ ∀ δ' M', I ds.length δ' M' → D.nx δ' M') :
    dS K (tFor (iList K tl) g t) D δ M := fun D' σ H H1 e w o =>
  h σ H H1 e w _ fun v r H' M' H2 hb s w' vv => by
    obtain ⟨ds, rfl, I, i0, it, ie⟩ := hb
    cases vv with
    | lst h1 h2 =>
      rename_i a xs
      refine ⟨a, rfl, ⟨xs, SqL.of (w'.ex _ _ h1)⟩, for_list (xs := xs) (fun i σ' H3 => ∃ δ' M2 Ha, I i δ' M2 ∧ Step H H1 M Ha H3 M2 ∧ EnvOk K Ha σ' δ' ∧ WOk K Ha M2 H3 ∧ Ex H' Ha) ⟨δ, M', H', i0, s, e.mono s.pure, w', Ex.refl _⟩ (fun i σ' H3 _ p => ?_) (fun i x σ' H3 hx p => ?_) fun σ' H3 p => ?_⟩
      · obtain ⟨δ', M2, Ha, p, s2, e2, w2, ex⟩ := p
        exact SqL.of (w2.ex _ _ (ex _ _ h1))
      · obtain ⟨δ', M2, Ha, p, s2, e2, w2, ex⟩ := p
        obtain ⟨d, hd, vd⟩ := h2.get hx
        refine (it i d δ' M2 hd p) x σ' Ha H3 e2 w2 (Dq.mono ex _ _ vd) _ fun δ2 M3 σ2 Hb Hc hS s3 e3 w3 => hS _ σ2 Hb Hc e3 w3
          ⟨fun δ3 M4 σ3 Hd He p s4 e4 w4 => ⟨δ3, M4, Hd, p, (s2.trans w w2 s3).trans w w3 s4, e4, w4, (ex.trans s3.pure).trans s4.pure⟩, fun r v Hd M4 He p s4 w4 vv => o.rt r v Hd M4 He p ((s2.trans w w2 s3).trans w w3 s4) w4 vv,
           fun δ3 M4 σ3 Hd He p s4 e4 w4 => o.nx δ3 M4 σ3 Hd He p ((s2.trans w w2 s3).trans w w3 s4) e4 w4, fun δ3 M4 σ3 Hd He p s4 e4 w4 => ⟨δ3, M4, Hd, p, (s2.trans w w2 s3).trans w w3 s4, e4, w4, (ex.trans s3.pure).trans s4.pure⟩⟩
      · obtain ⟨δ', M2, Ha, p, s2, e2, w2, ex⟩ := p
        rw [h2.length] at p
        exact o.nx δ' M2 σ' Ha H3 (ie _ _ p) s2 e2 w2
theorem dS_forT {tl : TE} (h : dE K tl δ M fun r M1 => ∃ ds, r = .d (.tuple ds) ∧ ∃ I : Nat → DSt → Mem → Prop, I 0 δ M1 ∧
      (∀ (i : Nat) x δ' M', ds[i]? = some x → I i δ' M' → dG K g (.d x) δ' M' fun δ2 M2 => dS K t { D with nx := I (i + 1), ct := I (i + 1), bk := D.nx } δ2 M2) ∧ ∀ δ' M', I ds.length δ' M' → D.nx δ' M') :
    dS K (tFor (iTup K tl) g t) D δ M := fun D' σ H H1 e w o =>
  h σ H H1 e w _ fun v r H' M' H2 hb s w' vv => by
    obtain ⟨ds, rfl, I, i0, it, ie⟩ := hb
    cases vv with
    | tup h1 h2 =>
      rename_i a xs
      refine ⟨a, rfl, ⟨xs, sqTx w'.ex h1⟩, for_tup (xs := xs) (fun i σ' H3 => ∃ δ' M2 Ha, I i δ' M2 ∧ Step H H1 M Ha H3 M2 ∧ EnvOk K Ha σ' δ' ∧ WOk K Ha M2 H3 ∧ Ex H' Ha) ⟨δ, M', H', i0, s, e.mono s.pure, w', Ex.refl _⟩ (fun i σ' H3 _ p => ?_) (fun i x σ' H3 hx p => ?_) fun σ' H3 p => ?_⟩
      · obtain ⟨δ', M2, Ha, p, s2, e2, w2, ex⟩ := p
        exact sqTx w2.ex (sqTx ex h1)
      · obtain ⟨δ', M2, Ha, p, s2, e2, w2, ex⟩ := p
        obtain ⟨d, hd, vd⟩ := h2.get hx
        refine (it i d δ' M2 hd p) x σ' Ha H3 e2 w2 (Dq.mono ex _ _ vd) _ fun δ2 M3 σ2 Hb Hc hS s3 e3 w3 => hS _ σ2 Hb Hc e3 w3
          ⟨fun δ3 M4 σ3 Hd He p s4 e4 w4 => ⟨δ3, M4, Hd, p, (s2.trans w w2 s3).trans w w3 s4, e4, w4, (ex.trans s3.pure).trans s4.pure⟩, fun r v Hd M4 He p s4 w4 vv => o.rt r v Hd M4 He p ((s2.trans w w2 s3).trans w w3 s4) w4 vv,
           fun δ3 M4 σ3 Hd He p s4 e4 w4 => o.nx δ3 M4 σ3 Hd He p ((s2.trans w w2 s3).trans w w3 s4) e4 w4, fun δ3 M4 σ3 Hd He p s4 e4 w4 => ⟨δ3, M4, Hd, p, (s2.trans w w2 s3).trans w w3 s4, e4, w4, (ex.trans s3.pure).trans s4.pure⟩⟩
      · obtain ⟨δ', M2, Ha, p, s2, e2, w2, ex⟩ := p
        rw [h2.length] at p
        exact o.nx δ' M2 σ' Ha H3 (ie _ _ p) s2 e2 w2
/-- over a list that may change, but does not while it is walked -/
def mdel (M : Mem) (a : Addr) : Mem := fun b => if b = a then none else M b
theorem mdel_same {a : Addr} : mdel M a a = none := by unfold mdel; rw [if_pos rfl]
theorem mdel_ne {a b : Addr} (h : b ≠ a) : mdel M a b = M b := by unfold mdel; rw [if_neg h]
theorem WOk.mdel {H H1 : Hp} {a : Addr} (w : WOk K H M H1) : WOk K H (mdel M a) H1 := ⟨w.ex, fun b ds h => by
  by_cases e : b = a
  · subst e; rw [mdel_same] at h; cases h
  · rw [mdel_ne e] at h; exact w.cell b ds h⟩
theorem dS_forM {tl : TE} (h : dE K tl δ M fun r M1 => ∃ a ds, r = .m a ∧ M1 a = some ds ∧ ∃ I : Nat → DSt → Mem → Prop, I 0 δ (mdel M1 a) ∧
      (∀ (i : Nat) x δ' M', ds[i]? = some x → I i δ' M' → dG K g (.d x) δ' M' fun δ2 M2 => dS K t { D with nx := I (i + 1), ct := I (i + 1), bk := fun _ _ => False } δ2 M2) ∧ ∀ δ' M', I ds.length δ' M' → D.nx δ' (mset M' a ds)) :
    dS K (tFor (iList K tl) g t) D δ M := fun D' σ H H1 e w o =>
  h σ H H1 e w _ fun v r H' M' H2 hb s w' vv => by
    obtain ⟨a, ds, rfl, hm, I, i0, it, ie⟩ := hb
    cases vv
    obtain ⟨hpn, xs, hp, h2⟩ := w'.cell a ds hm
    have wd : WOk K H' (mdel M' a) H2 := w'.mdel
    have back : ∀ {Ha H3 : Hp} {M2 : Mem}, Step H' H2 (mdel M' a) Ha H3 M2 → WOk K Ha M2 H3 → H3 a = some (.lst xs) ∧ Ha a = none ∧ M2 a = none ∧ Step H' H2 M' Ha H3 (mset M2 a ds) ∧ WOk K Ha (mset M2 a ds) H3 := fun {Ha H3 M2} s2 w2 => by
      have k1 := s2.keep a _ hp mdel_same
      obtain ⟨k2, k3⟩ := s2.new a hpn mdel_same (by rw [hp]; simp)
      refine ⟨k1, k2, k3, ⟨s2.pure, fun b o hb hn => s2.keep b o hb (by
        by_cases e : b = a
        · subst e; exact mdel_same
        · rw [mdel_ne e]; exact hn), fun b hb hn hh => ?_⟩, ⟨w2.ex, fun b fs hb => ?_⟩⟩
      · have e : b ≠ a := by rintro rfl; rw [hm] at hn; cases hn
        rw [mset_ne e]
        exact s2.new b hb (by rw [mdel_ne e]; exact hn) hh
      · by_cases e : b = a
        · subst e; rw [mset_same] at hb; cases hb
          exact ⟨k2, xs, k1, h2.mono s2.pure⟩
        · rw [mset_ne e] at hb; exact w2.cell b fs hb
    refine ⟨a, rfl, ⟨xs, SqL.of hp⟩, for_list (xs := xs) (fun i σ' H3 => ∃ δ' M2 Ha, I i δ' M2 ∧ Step H' H2 (mdel M' a) Ha H3 M2 ∧ EnvOk K Ha σ' δ' ∧ WOk K Ha M2 H3) ⟨δ, _, H', i0, Step.refl, e.mono s.pure, wd⟩ (fun i σ' H3 _ p => ?_) (fun i x σ' H3 hx p => ?_) fun σ' H3 p => ?_⟩
    · obtain ⟨δ', M2, Ha, p, s2, e2, w2⟩ := p
      exact SqL.of (back s2 w2).1
    · obtain ⟨δ', M2, Ha, p, s2, e2, w2⟩ := p
      obtain ⟨d, hd, vd⟩ := h2.get hx
      refine (it i d δ' M2 hd p) x σ' Ha H3 e2 w2 (Dq.mono s2.pure _ _ vd) _ fun δ2 M3 σ2 Hb Hc hS s3 e3 w3 => hS _ σ2 Hb Hc e3 w3
          ⟨fun δ3 M4 σ3 Hd He p s4 e4 w4 => ⟨δ3, M4, Hd, p, (s2.trans wd w2 s3).trans wd w3 s4, e4, w4⟩, fun r v Hd M4 He p s4 w4 vv => ?_,
           fun δ3 M4 σ3 Hd He p s4 e4 w4 => p.elim, fun δ3 M4 σ3 Hd He p s4 e4 w4 => ⟨δ3, M4, Hd, p, (s2.trans wd w2 s3).trans wd w3 s4, e4, w4⟩⟩
      have st := (s2.trans wd w2 s3).trans wd w3 s4
      obtain ⟨b1, b2, b3, b4, b5⟩ := back st w4
      refine o.rt r v Hd M4 He p (s.trans w w' ⟨b4.pure, b4.keep, fun b hb hn hh => ⟨(b4.new b hb hn hh).1, ?_⟩⟩) w4 vv
      have e : b ≠ a := by rintro rfl; rw [hm] at hn; cases hn
      have := (b4.new b hb hn hh).2
      rw [mset_ne e] at this
      exact this
    · obtain ⟨δ', M2, Ha, p, s2, e2, w2⟩ := p
      rw [h2.length] at p
      obtain ⟨b1, b2, b3, b4, b5⟩ := back s2 w2
      exact o.nx δ' _ σ' Ha H3 (ie _ _ p) (s.trans w w' b4) e2 b5
/-- while, by a word that falls -/
theorem dS_while (W : Nat → DSt → Mem → Prop) (m0 : Nat) (h0 : W m0 δ M)
    (h : ∀ m δ' M', W m δ' M' → dT K tt δ' M' fun b M2 => if b = true then dS K t { D with nx := fun δ3 M3 => ∃ m', m' < m ∧ W m' δ3 M3, ct := fun δ3 M3 => ∃ m', m' < m ∧ W m' δ3 M3, bk := D.nx } δ' M2 else D.nx δ' M2) :
    dS K (tWhile tt t) D δ M := fun D' σ H H1 e w o => by
  refine ⟨fun m σ' H2 => LoopW K H H1 M (W m) σ' H2, ⟨m0, δ, M, H, h0, Step.refl, e, w⟩, fun m σ' H2 p => ?_⟩
  obtain ⟨δ', M', H', p, s, e', w'⟩ := p
  refine h m δ' M' p σ' H' H2 e' w' _ fun b Ha M2 H3 q s2 w2 => ?_
  cases b with
  | true =>
    refine ⟨fun σ3 H4 => ∃ m', m' < m ∧ LoopW K H H1 M (W m') σ3 H4, fun σ3 H4 ⟨m', a, b⟩ => ⟨m', a, b⟩, q _ σ' Ha H3 (e'.mono s2.pure) w2
      ⟨fun δ3 M3 σ3 Hb H4 p s3 e3 w3 => ?_, fun r v Hb M3 H4 p s3 w3 vv => o.rt r v Hb M3 H4 p ((s.trans w w' s2).trans w w2 s3) w3 vv, fun δ3 M3 σ3 Hb H4 p s3 e3 w3 => o.nx δ3 M3 σ3 Hb H4 p ((s.trans w w' s2).trans w w2 s3) e3 w3, fun δ3 M3 σ3 Hb H4 p s3 e3 w3 => ?_⟩⟩
    · obtain ⟨m', hm, p⟩ := p
      exact ⟨m', hm, δ3, M3, Hb, p, (s.trans w w' s2).trans w w2 s3, e3, w3⟩
    · obtain ⟨m', hm, p⟩ := p
      exact ⟨m', hm, δ3, M3, Hb, p, (s.trans w w' s2).trans w w2 s3, e3, w3⟩
  | false => exact o.nx δ' M2 σ' Ha H3 q (s.trans w w' s2) (e'.mono s2.pure) w2
/-! ### truth of a list or tuple -/
theorem dT_tru (h : dE K ta δ M fun x M1 => ∃ ds, Seq M1 x ds ∧ PB (!ds.isEmpty) M1) : dT K (fun σ H Q => ta σ H fun x H' => ∃ k, TruV K x H' k ∧ Q k H') δ M PB := fun σ H H1 e w Q q =>
  h σ H H1 e w _ fun v x H' M' H2 hb s1 w1 vx => by
    obtain ⟨ds, sq, p⟩ := hb
    obtain ⟨a, vs, rfl, h1, h2⟩ := sq.sq w1 vx
    have el : vs.isEmpty = ds.isEmpty := by
      cases h2 <;> rfl
    refine ⟨!vs.isEmpty, ?_, by rw [el]; exact q _ H' M' H2 p s1 w1⟩
    rcases h1 with h1 | h1
    · exact .inl ⟨vs, SqL.of h1, rfl⟩
    · exact .inr (.inl ⟨vs, h1, rfl⟩)
/-! ### comprehensions -/
def GW (g : TG) (vs : List Nat) : Prop := ∀ x σ H Q, g x (wipe σ vs) H Q → g x (wipe σ vs) H fun σ2 H2 => wipe σ2 vs = wipe σ vs ∧ Q σ2 H2
theorem gw_name (j : Nat) : GW (gName j) [j] := fun x σ H Q h => ⟨by
  show (((σ.set j none).set j (some x)).set j none) = σ.set j none
  rw [List.set_set, List.set_set], h⟩
theorem gw_name2 (n i j : Nat) (hij : i ≠ j) : GW (gTup K n (gCons (gName i) (gCons (gName j) gNil))) [i, j] := fun x σ H Q h => by
  obtain ⟨a, xs, e1, e2, e3, v, r, e4, v2, r2, e5, e6, q⟩ := h
  refine ⟨a, xs, e1, e2, e3, v, r, e4, v2, r2, e5, e6, ?_, q⟩
  show (((((σ.set j none).set i none).set i (some v)).set j (some v2)).set j none).set i none = (σ.set j none).set i none
  rw [List.set_set, List.set_set]
  rw [List.set_comm _ _ hij, List.set_set, List.set_set]
def LcW (K : PySem.W.Frag) (H H1 : Hp) (M : Mem) (Dl : Addr) (I : List PyData → Mem → Prop) (n : Nat) (H2 : Hp) : Prop :=
  ∃ acc ds M' H', I ds M' ∧ ds.length ≤ n ∧ Step H H1 M H' H2 M' ∧ WOk K H' M' H2 ∧ H2 Dl = some (.lst acc) ∧ DqAll K H' acc ds ∧ H' Dl = none ∧ M' Dl = none
theorem lcw_start {H H1 : Hp} {Dl : Addr} {I : List PyData → Mem → Prop} (w : WOk K H M H1) (hD : H1 Dl = none) (i0 : I [] M) : LcW K H H1 M Dl I 0 (upd H1 Dl (.lst [])) := by
  obtain ⟨hm, w2, s2⟩ := laid_m w hD (ds := []) .nil
  have hH : H Dl = none := by
    cases q : H Dl with
    | none => rfl
    | some u => rw [w.ex Dl u q] at hD; cases hD
  refine ⟨[], [], M, H, i0, Nat.le_refl _, ⟨s2.pure, s2.keep, fun a h1 h2 h3 => ⟨h1, h2⟩⟩, ⟨w2.ex, fun a ds h => ?_⟩, upd_same, .nil, hH, hm⟩
  have e : a ≠ Dl := by rintro rfl; rw [hm] at h; cases h
  exact w2.cell a ds (by rw [mset_ne e]; exact h)
theorem lcw_turn {H H1 H2 : Hp} {Dl : Addr} {I I' : List PyData → Mem → Prop} {n : Nat} {vs : List Nat} {x : SV} {v : V} {σ : St} (hg : GW g vs) (hn : n < 50000) (w : WOk K H M H1) (e : EnvOk K H σ δ) (hD : H1 Dl = none) (p : LcW K H H1 M Dl I n H2)
    (vv : ∀ H', Ex H H' → SVOk K H' v x)
    (h : ∀ acc M', I acc M' → dG K g x (wipeD δ vs) M' fun δ2 M2 => dT K tt δ2 M2 fun b M3 => if b = true then dE K te δ2 M3 fun y M4 => ∃ d, y = .d d ∧ I' (acc ++ [d]) M4 else I' acc M3) :
    g v (wipe σ vs) H2 fun σ2 H3 => wipe σ2 vs = wipe σ vs ∧ tt σ2 H3 fun b H4 => if b = true then te σ2 H4 fun y H5 => ∃ acc, H5 Dl = some (.lst acc) ∧ acc.length < sizeLine ∧ LcW K H H1 M Dl I' (n + 1) (upd H5 Dl (.lst (acc ++ [y]))) else LcW K H H1 M Dl I' (n + 1) H4 := by
  obtain ⟨acc, ds, M', H', pi, hl, s, w', hDl, hacc, f1, f2⟩ := p
  refine hg v σ H2 _ ?_
  refine h ds M' pi v _ H' H2 ((e.mono s.pure).wipe vs) w' (vv H' s.pure) _ fun δ2 M2 σ2 Ha H3 ht s2 e2 w2 => ?_
  have k2 := s2.keep Dl _ hDl f2
  have n2 := s2.new Dl f1 f2 (by rw [hDl]; simp)
  refine ht σ2 Ha H3 e2 w2 _ fun b Hb M3 H4 hb s3 w3 => ?_
  have k3 := s3.keep Dl _ k2 n2.2
  have n3 := s3.new Dl n2.1 n2.2 (by rw [k2]; simp)
  cases b with
  | false => exact ⟨acc, ds, M3, Hb, hb, Nat.le_succ_of_le hl, (s.trans w w' s2).trans w w2 s3, w3, k3, hacc.mono (s2.pure.trans s3.pure), n3.1, n3.2⟩
  | true =>
    refine hb σ2 Hb H4 (e2.mono s3.pure) w3 _ fun y r Hc M4 H5 hy s4 w4 vy => ?_
    have k4 := s4.keep Dl _ k3 n3.2
    have n4 := s4.new Dl n3.1 n3.2 (by rw [k3]; simp)
    obtain ⟨d, rfl, hI⟩ := hy
    have ha : DqAll K Hc acc ds := hacc.mono ((s2.pure.trans s3.pure).trans s4.pure)
    have st := ((s.trans w w' s2).trans w w2 s3).trans w w3 s4
    refine ⟨acc, k4, by rw [ha.length]; exact Nat.lt_of_le_of_lt hl (Nat.lt_of_lt_of_le hn (by decide)), acc ++ [y], ds ++ [d], M4, Hc, hI, by rw [List.length_append]; show ds.length + 1 ≤ n + 1; omega, ⟨st.pure, fun a o h1 h2 => ?_, st.new⟩, ⟨fun a o h1 => ?_, fun a es h1 => ?_⟩, upd_same, ha.append (.cons vy .nil), n4.1, n4.2⟩
    · rw [upd_ne (ne_of_none h1 hD)]; exact st.keep a o h1 h2
    · rw [upd_ne (ne_of_none h1 n4.1)]; exact w4.ex a o h1
    · have e : a ≠ Dl := by rintro rfl; rw [n4.2] at h1; cases h1
      obtain ⟨q1, us, q2, q3⟩ := w4.cell a es h1
      exact ⟨q1, us, by rw [upd_ne e]; exact q2, q3⟩
/-- what a comprehension's list may be taken for -/
def Res (P : SV → Mem → Prop) (acc : List PyData) (M' : Mem) : Prop := P (.d (.list acc)) M' ∨ ∀ a, M' a = none → P (.m a) (mset M' a acc)
theorem lcw_end {H H1 H2 : Hp} {Dl : Addr} {I : List PyData → Mem → Prop} {n : Nat} {Q : VK} (w : WOk K H M H1) (hD : H1 Dl = none) (p : LcW K H H1 M Dl I n H2) (ie : ∀ acc M', I acc M' → Res P acc M')
    (q : ∀ v r H' M' H2, P r M' → Step H H1 M H' H2 M' → WOk K H' M' H2 → SVOk K H' v r → Q v H2) : Q (.ref Dl) H2 := by
  obtain ⟨acc, ds, M', H', pi, hl, s, w', hDl, hacc, f1, f2⟩ := p
  rcases ie ds M' pi with pp | pp
  · refine q _ _ (upd H' Dl (.lst acc)) M' H2 pp ⟨s.pure.trans (Ex.new f1), s.keep, fun a h1 h2 h3 => ?_⟩ ⟨fun a o h => ?_, fun a es h => ?_⟩ (.lst upd_same (hacc.mono (Ex.new f1)))
    · have e : a ≠ Dl := by rintro rfl; exact h3.1 hD
      rw [upd_ne e]; exact s.new a h1 h2 h3
    · by_cases e : a = Dl
      · subst e; rw [upd_same] at h; cases h; exact hDl
      · rw [upd_ne e] at h; exact w'.ex a o h
    · have e : a ≠ Dl := by rintro rfl; rw [f2] at h; cases h
      obtain ⟨q1, us, q2, q3⟩ := w'.cell a es h
      exact ⟨by rw [upd_ne e]; exact q1, us, q2, q3.mono (Ex.new f1)⟩
  · refine q _ _ H' (mset M' Dl ds) H2 (pp Dl f2) ⟨s.pure, s.keep, fun a h1 h2 h3 => ?_⟩ ⟨w'.ex, fun a es h => ?_⟩ rfl
    · have e : a ≠ Dl := by rintro rfl; exact h3.1 hD
      rw [mset_ne e]; exact s.new a h1 h2 h3
    · by_cases e : a = Dl
      · subst e; rw [mset_same] at h; cases h; exact ⟨f1, acc, hDl, hacc⟩
      · rw [mset_ne e] at h; exact w'.cell a es h
theorem dE_lcL {tl : TE} {vs : List Nat} (hg : GW g vs) (h : dE K tl δ M fun r M1 => ∃ ds, r = .d (.list ds) ∧ ds.length ≤ 40000 ∧ ∃ I : Nat → List PyData → Mem → Prop, I 0 [] M1 ∧
      (∀ (i : Nat) x acc M', ds[i]? = some x → I i acc M' → dG K g (.d x) (wipeD δ vs) M' fun δ2 M2 => dT K tt δ2 M2 fun b M3 => if b = true then dE K te δ2 M3 fun y M4 => ∃ d, y = .d d ∧ I (i + 1) (acc ++ [d]) M4 else I (i + 1) acc M3) ∧ ∀ acc M', I ds.length acc M' → Res P acc M') :
    dE K (tLc (iList K tl) g tt te vs) δ M P := fun σ H H1 e w Q q =>
  h σ H H1 e w _ fun v r H' M' H2 hb s w' vv => by
    obtain ⟨ds, rfl, hz, I, i0, it, ie⟩ := hb
    cases vv with
    | lst h1 h2 =>
      rename_i a xs
      refine ⟨a, rfl, ⟨xs, SqL.of (w'.ex _ _ h1)⟩, fun Dl hD => lc_list (xs := xs) (fun i => LcW K H' H2 M' Dl (I i) i) (lcw_start w' hD i0) (fun i H3 _ p => ?_) (fun i x H3 hx p => ?_) fun H3 p => ?_⟩
      · obtain ⟨_, _, _, _, _, _, s3, w3, _⟩ := p
        exact SqL.of (w3.ex _ _ (s3.pure _ _ h1))
      · obtain ⟨d, hd, vd⟩ := h2.get hx
        have hi := (List.getElem?_eq_some_iff.mp hd).1
        exact lcw_turn (x := .d d) hg (by omega) w' (e.mono s.pure) hD p (fun H' ex => Dq.mono ex _ _ vd) (fun acc M' hI => it i d acc M' hd hI)
      · rw [h2.length] at p
        exact lcw_end w' hD p ie fun v r Ha Ma Hb pp s3 w3 vr => q v r Ha Ma Hb pp (s.trans w w' s3) w3 vr
theorem dE_lcT {tl : TE} {vs : List Nat} (hg : GW g vs) (h : dE K tl δ M fun r M1 => ∃ ds, r = .d (.tuple ds) ∧ ds.length ≤ 40000 ∧ ∃ I : Nat → List PyData → Mem → Prop, I 0 [] M1 ∧
      (∀ (i : Nat) x acc M', ds[i]? = some x → I i acc M' → dG K g (.d x) (wipeD δ vs) M' fun δ2 M2 => dT K tt δ2 M2 fun b M3 => if b = true then dE K te δ2 M3 fun y M4 => ∃ d, y = .d d ∧ I (i + 1) (acc ++ [d]) M4 else I (i + 1) acc M3) ∧ ∀ acc M', I ds.length acc M' → Res P acc M') :
    dE K (tLc (iTup K tl) g tt te vs) δ M P := fun σ H H1 e w Q q =>
  h σ H H1 e w _ fun v r H' M' H2 hb s w' vv => by
    obtain ⟨ds, rfl, hz, I, i0, it, ie⟩ := hb
    cases vv with
    | tup h1 h2 =>
      rename_i a xs
      refine ⟨a, rfl, ⟨xs, sqTx w'.ex h1⟩, fun Dl hD => lc_tup (xs := xs) (fun i => LcW K H' H2 M' Dl (I i) i) (lcw_start w' hD i0) (fun i H3 _ p => ?_) (fun i x H3 hx p => ?_) fun H3 p => ?_⟩
      · obtain ⟨_, _, _, _, _, _, s3, w3, _⟩ := p
        exact sqTx w3.ex (sqTx s3.pure h1)
      · obtain ⟨d, hd, vd⟩ := h2.get hx
        have hi := (List.getElem?_eq_some_iff.mp hd).1
        exact lcw_turn (x := .d d) hg (by omega) w' (e.mono s.pure) hD p (fun H' ex => Dq.mono ex _ _ vd) (fun acc M' hI => it i d acc M' hd hI)
      · rw [h2.length] at p
        exact lcw_end w' hD p ie fun v r Ha Ma Hb pp s3 w3 vr => q v r Ha Ma Hb pp (s.trans w w' s3) w3 vr
theorem dE_lcR {ts : TA} {vs : List Nat} (hg : GW g vs) (h : dA K ts δ M fun rs M1 => ∃ n : Int, rs = [.d (.int n)] ∧ (-100000 ≤ n ∧ n ≤ 40000) ∧ ∃ I : Nat → List PyData → Mem → Prop, I 0 [] M1 ∧
      (∀ (i : Nat) acc M', (i : Int) < n → I i acc M' → dG K g (.d (.int (i : Int))) (wipeD δ vs) M' fun δ2 M2 => dT K tt δ2 M2 fun b M3 => if b = true then dE K te δ2 M3 fun y M4 => ∃ d, y = .d d ∧ I (i + 1) (acc ++ [d]) M4 else I (i + 1) acc M3) ∧ ∀ acc M', I n.toNat acc M' → Res P acc M') :
    dE K (tLc (iRng1 ts) g tt te vs) δ M P := fun σ H H1 e w Q q =>
  h σ H H1 e w _ fun vs' rs H' M' H2 hb s w' vv => by
    obtain ⟨n, rfl, hz, I, i0, it, ie⟩ := hb
    cases vv with
    | cons h1 h2 =>
      cases h2; cases h1
      refine ⟨n, rfl, by omega, by omega, fun Dl hD => lc_range (lo := 0) (n := n.toNat) (fun i => LcW K H' H2 M' Dl (I i) i) (lcw_start w' hD i0) (fun i H3 hx p => ?_) fun H3 p => ?_⟩
      · rw [show (0 : Int) + (i : Int) = (i : Int) from Int.zero_add _]
        exact lcw_turn (x := .d (.int (i : Int))) hg (by omega) w' (e.mono s.pure) hD p (fun H' ex => .int _) (fun acc M' hI => it i acc M' (by omega) hI)
      · exact lcw_end w' hD p ie fun v r Ha Ma Hb pp s3 w3 vr => q v r Ha Ma Hb pp (s.trans w w' s3) w3 vr
theorem dT_yes (h : PB true M) : dT K tYes δ M PB := fun σ H H1 e w Q q => q true H M H1 h Step.refl w
/-! ### a def -/
def startD (n : Nat) (rs : List SV) : DSt := rs.map some ++ List.replicate (n - rs.length) none
theorem SVsOk.length {H : Hp} : ∀ {vs : List V} {rs : List SV}, SVsOk K H vs rs → vs.length = rs.length
  | _, _, .nil => rfl
  | _, _, .cons _ t => by rw [List.length_cons, List.length_cons, SVsOk.length t]
theorem SVsOk.get {H : Hp} : ∀ {vs : List V} {rs : List SV} {i : Nat} {r : SV}, SVsOk K H vs rs → rs[i]? = some r → ∃ v, vs[i]? = some v ∧ SVOk K H v r
  | _, _, _, _, .nil, e => by simp at e
  | _, _, 0, _, .cons h _, e => by simp at e; subst e; exact ⟨_, rfl, h⟩
  | _, _, i + 1, r, .cons _ t, e => by
    simp at e
    obtain ⟨v, q1, q2⟩ := SVsOk.get t e
    exact ⟨v, by simpa using q1, q2⟩
theorem start_ok {H : Hp} {vs : List V} {rs : List SV} {N : List Str} (h : SVsOk K H vs rs) : EnvOk K H (L2.start N vs) (startD N.length rs) := by
  refine ⟨?_, fun i r q => ?_⟩
  · unfold L2.start startD
    rw [List.length_append, List.length_append, List.length_map, List.length_map, List.length_replicate, List.length_replicate, h.length]
  · unfold startD at q
    unfold L2.start
    by_cases hi : i < rs.length
    · rw [List.getElem?_append_left (by rw [List.length_map]; exact hi), List.getElem?_map] at q
      cases q2 : rs[i]? with
      | none => rw [q2] at q; cases q
      | some r' =>
        rw [q2] at q
        cases q
        obtain ⟨v, e1, e2⟩ := h.get q2
        refine ⟨v, ?_, e2⟩
        rw [List.getElem?_append_left (by rw [List.length_map, h.length]; exact hi), List.getElem?_map, e1]
        rfl
    · rw [List.getElem?_append_right (by rw [List.length_map]; omega)] at q
      have := List.mem_of_getElem? q
      rw [List.mem_replicate] at this
      cases this.2
def MSub (M0 M' : Mem) : Prop := ∀ a ds, M0 a = some ds → M' a = some ds
theorem MSub.refl : MSub M M := fun _ _ h => h
/-- back, the def's own lists forgotten -/
def rtOf (P : SV → Mem → Prop) (r : SV) (M' : Mem) : Prop := ∃ M0, P r M0 ∧ MSub M0 M'
theorem rtOf.of {r : SV} (h : P r M) : rtOf P r M := ⟨M, h, MSub.refl⟩
theorem msub_set {M0 : Mem} {a : Addr} {ds : List PyData} (s : MSub M0 M) (h : M0 a = none) : MSub M0 (mset M a ds) := fun b es e => by
  have n : b ≠ a := by rintro rfl; rw [h] at e; cases e
  rw [mset_ne n]
  exact s b es e
theorem ok_of {P0 : Program} {w0 : World} {mg : Str → Option Value} {base : Heap} {x qual : Str} {st : Stmt} {f : Addr} {fd : FuncData} {N ps : List Str} {k : Nat} {S : SpD} (F : Fun K x qual st f fd) (sc : FnScope N ps (defScope st)) (len : ∀ rs M P, S rs M P → rs.length = ps.length)
    (hbody : ∀ (cdv : Value) (A : Around) (outer : List Env) (s : Shared) (H : Hp) (E : XK), Room k (A.deeper (PyProof.Rows.envOfC qual (defScope st) s.heap.objs.size f cdv)) →
      ∃ t, PSs (cxOf CX0 P0 w0 K mg base N qual (defScope st) f cdv A outer s H E).nox (defBody st) t ∧ ∀ rs M P, S rs M P → dS K t { nx := fun _ M' => rtOf P (.d .none) M', rt := rtOf P } (startD N.length rs) M) :
    FnOk P0 w0 K mg base CX0 (k + 1) f fd ps (spOf K S) := by
  refine F.ok sc (fun vs H Q E h => ?_) (fun cdv A outer s H vs Q E hr h => ?_)
  · obtain ⟨rs, H', M, P, _, v, hS, _⟩ := h
    rw [v.length]
    exact len rs M P hS
  · obtain ⟨rs, H', M, P, wk, v, hS, q⟩ := h
    obtain ⟨t, h1, h2⟩ := hbody cdv A outer s H E hr
    have cut : ∀ {H2 H3 : Hp} {M0 M' : Mem}, MSub M0 M' → Step H' H M H2 H3 M' → WOk K H2 M' H3 → Step H' H M H2 H3 M0 ∧ WOk K H2 M0 H3 := fun {H2 H3 M0 M'} ms st wk => by
      refine ⟨⟨st.pure, st.keep, fun a h1 h2 h3 => ⟨(st.new a h1 h2 h3).1, ?_⟩⟩, ⟨wk.ex, fun a ds h => wk.cell a ds (ms a ds h)⟩⟩
      cases q : M0 a with
      | none => rfl
      | some ds =>
        have z := (st.new a h1 h2 h3).2
        rw [ms a ds q] at z; cases z
    refine ⟨t, h1, h2 rs M P hS _ (L2.start N vs) H' H (start_ok v) wk ⟨fun δ' M' σ' H2 H3 p st e w' => ?_, fun r v H2 M' H3 p st w' vv => ?_, fun _ _ _ _ _ p => p.elim, fun _ _ _ _ _ p => p.elim⟩⟩
    · obtain ⟨M0, p, ms⟩ := p
      obtain ⟨s1, w1⟩ := cut ms st w'
      exact q _ _ H2 M0 H3 p s1 w1 .non
    · obtain ⟨M0, p, ms⟩ := p
      obtain ⟨s1, w1⟩ := cut ms st w'
      exact q _ _ H2 M0 H3 p s1 w1 vv
/-- a promise that asks more, or wants less -/
theorem spOf.imp {S S' : SpD} (h : ∀ rs M P, S' rs M P → S rs M P) : ∀ vs H Q E, spOf K S' vs H Q E → spOf K S vs H Q E := fun vs H Q E ⟨rs, H', M, P, a, b, c, d⟩ => ⟨rs, H', M, P, a, b, h _ _ _ c, d⟩
end
end Sd

namespace Sd
open PySem L2 PyProof.Rows
/-! ### a def as others call it -/
structure Has (P : Program) (w : World) (K : PySem.W.Frag) (mg : Str → Option Value) (base : Heap) (k : Nat) (x : Str) (ps : List Str) (S : SpD) : Prop where
  ex : ∃ f fd, FnOk P w K mg base CX0 k f fd ps (spOf K S) ∧ mg x = some (.ref f) ∧ PySem.W.keepIn K (.ref f) = true ∧ Binds K fd ps []
theorem Has.imp {P : Program} {w : World} {K : PySem.W.Frag} {mg : Str → Option Value} {base : Heap} {k : Nat} {x : Str} {ps : List Str} {S S' : SpD} (h : Has P w K mg base k x ps S) (i : ∀ rs M P, S' rs M P → S rs M P) : Has P w K mg base k x ps S' := by
  obtain ⟨f, fd, a, b, c, d⟩ := h.ex
  exact ⟨f, fd, a.imp (spOf.imp i), b, c, d⟩
theorem pe_callH {X : Cx} {k : Nat} {x : Str} {ps : List Str} {S : SpD} {p pos : Pos} {e : Expr} {es : List Expr} {t : TA} (h : Has X.prog X.w X.K X.mg X.base k x ps S) (hr : Room k X.A) (hg : Gl X x) (ha : PA X (e :: es) t)
    (hdb : (x == ("__debug__" : Str)) = false := by decide) (he : starEach (e :: es) X.env = (false, eval e X.env) :: starEach es X.env := by rfl) (hpl : (backTo pos (starEach es X.env)).any (·.1) = false := by rfl) :
    PE X (.Call (.Name x p) (e :: es) [] pos) (tCall (spOf X.K S) [] E0 t) := by
  obtain ⟨f, fd, a, b, c, d⟩ := h.ex
  exact pe_call a hr hg b c d .nil pass0 ha hdb he hpl
/-! ### sorted(xs), xs a list of data -/
def rSortedD (K : PySem.W.Frag) : List V → Hp → VK → Prop := fun vs H Q => ∃ (a : Addr) (zs : List (V × PyData)), vs = [V.ref a] ∧ SqL K H a (zs.map Prod.fst) ∧ (∀ z ∈ zs, Dp K H z.1 z.2) ∧ PySem.W.AllAlike (zs.map Prod.snd) ∧ PySem.W.Sortable (zs.map Prod.snd) ∧
  (∀ z ∈ zs, z.2.depth ≤ 60) ∧ ∀ p, H p = none → Q (.ref p) (upd H p (.lst ((zs.mergeSort (PySem.W.dataLe false Prod.snd)).map Prod.fst)))
theorem each_vals : ∀ {us : List Value} {zs : List (V × PyData)}, Vals (zs.map Prod.fst) us → PySem.W.EachIs (fun v (z : V × PyData) => RelV z.1 v) us zs
  | _, [], h => by cases h; exact .nil
  | _, z :: zs, h => by
    cases h with
    | cons h1 h2 => exact .cons h1 (each_vals h2)
theorem vals_each : ∀ {us : List Value} {zs : List (V × PyData)}, PySem.W.EachIs (fun v (z : V × PyData) => RelV z.1 v) us zs → Vals (zs.map Prod.fst) us
  | _, _, .nil => .nil
  | _, _, .cons h t => .cons h (vals_each t)
theorem each_reads {X : Cx} {pins : List (Addr × Obj)} {σ : L2.St} {H : Hp} {s : Shared} (I : L2.Inv X pins σ H s) : ∀ {us : List Value} {zs : List (V × PyData)}, Vals (zs.map Prod.fst) us → (∀ z ∈ zs, Dp X.K H z.1 z.2) → PySem.W.EachIs (fun v (z : V × PyData) => ∃ as, Reads s.heap v z.2 as) us zs
  | _, [], h, _ => by cases h; exact .nil
  | _, z :: zs, h, hd => by
    cases h with
    | cons h1 h2 => exact .cons (Dp.reads I z.2 z.1 _ (hd z List.mem_cons_self) h1) (each_reads I h2 fun y hy => hd y (List.mem_cons_of_mem _ hy))
theorem cr_sortedD {X : Cx} {k : Nat} (hr : Room k X.A) : CallR X (.builtin "sorted") (rSortedD X.K) := by
  intro pins s σ H vs us Q I r h
  obtain ⟨a, zs, rfl, hs, hd, hal, hso, hdp, q⟩ := h
  obtain ⟨its, rv, hl, hz⟩ := I.list hs
  rw [Vals.ref1 r]
  have hz' : zs.length ≤ sizeLine := by rw [List.length_map] at hz; exact hz
  refine PySem.W.sorted_data (enc := Prod.snd) (R := fun v (z : V × PyData) => RelV z.1 v) (bs := zs) hl.isList (each_vals rv) (each_reads I rv hd) hal hso hz' (fun b hb => ?_) fun out h1 h2 => ?_
  · have := hr.un
    have := hdp b hb
    omega
  · obtain ⟨ep, he'⟩ := PyProof.Rows.sortedAll_at s.heap its out.toArray
    have rv2 := vals_each h2
    have hlen : ((zs.mergeSort (PySem.W.dataLe false Prod.snd)).map Prod.fst).length ≤ sizeLine := by rw [List.length_map, List.length_mergeSort]; exact hz'
    exact ⟨.ref _, upd H (s.heap.objs.size + 1) (.lst ((zs.mergeSort (PySem.W.dataLe false Prod.snd)).map Prod.fst)), I.laid (t' := s.toks) (fun _ _ => PyProof.Rows.sortedAll_old) (Nat.le_succ _) ⟨hlen, out, ep, rv2, he'⟩, rfl, q _ (I.hok.fresh (Nat.le_succ _))⟩
/-! ### sorted(xs, key=f), f a def that hands back an item of a tuple -/
/-- a call of f keeps all and gives the key -/
def KeyFn (P : Program) (w : World) (K : PySem.W.Frag) (f : Addr) (key : PyData → Option Int) : Prop := ∀ (A : Around) (s : Shared) (v : Value) (d : PyData) (as : List Addr) (n : Int), Room 1 A → K.In s.heap → s.heap.NoLimit → Reads s.heap v d as → key d = some n →
  wpAny (model P w) A (call (.ref f) [v]) (PySem.W.KeyPure (.int n) s) (fun _ _ => False) s
def rSortedF (K : PySem.W.Frag) (f : Addr) (key : PyData → Option Int) : List V → List V → Hp → VK → Prop := fun vs ks H Q => ∃ (a : Addr) (zs : List (V × PyData × Int)), vs = [V.ref a] ∧ ks = [V.ref f] ∧ SqL K H a (zs.map Prod.fst) ∧ (∀ z ∈ zs, Dp K H z.1 z.2.1 ∧ key z.2.1 = some z.2.2) ∧
  ∀ p, H p = none → Q (.ref p) (upd H p (.lst ((zs.mergeSort (PySem.W.dataLe false fun z => .int z.2.2)).map Prod.fst)))
theorem each_vals3 : ∀ {us : List Value} {zs : List (V × PyData × Int)}, Vals (zs.map Prod.fst) us → PySem.W.EachIs (fun v (z : V × PyData × Int) => RelV z.1 v) us zs
  | _, [], h => by cases h; exact .nil
  | _, z :: zs, h => by
    cases h with
    | cons h1 h2 => exact .cons h1 (each_vals3 h2)
theorem vals_each3 : ∀ {us : List Value} {zs : List (V × PyData × Int)}, PySem.W.EachIs (fun v (z : V × PyData × Int) => RelV z.1 v) us zs → Vals (zs.map Prod.fst) us
  | _, _, .nil => .nil
  | _, _, .cons h t => .cons h (vals_each3 t)
theorem cr_sortedF {X : Cx} {k : Nat} {f : Addr} {key : PyData → Option Int} (hf : KeyFn X.prog X.w X.K f key) (hr : Room k X.A) (hk : 3 ≤ k) : CallRK X (.builtin "sorted") [Str.ofString "key"] (rSortedF X.K f key) := by
  intro pins s σ H vs ks us ws Q I r rk h
  obtain ⟨a, zs, rfl, rfl, hs, hd, q⟩ := h
  obtain ⟨its, rv, hl, hz⟩ := I.list hs
  obtain ⟨u, rfl, ru⟩ := vals1 r
  obtain ⟨w1, rfl, rw1⟩ := vals1 rk
  cases ru
  cases rw1
  have hz' : zs.length ≤ sizeLine := by rw [List.length_map] at hz; exact hz
  have hr3 : Room 3 X.A := hr.mono hk
  refine PySem.W.sorted_key_data (b := false) (R := fun v (z : V × PyData × Int) => RelV z.1 v) (bs := zs) (fun z => .int z.2.2) hl.isList (each_vals3 rv) ?_ ?_ hz' (fun z hz => ?_) (PyProof.Rows.ksk_s1 _ _) (fun _ => PyProof.Rows.ksk_l1 _ _) (fun _ => PyProof.Rows.ksk_t1 _ _) (fun v z hv hzm h tk kp => ?_) fun out c h' tk kp hfr hat hlen he => ?_
  · intro d hd1 d' hd2
    obtain ⟨z1, _, rfl⟩ := List.mem_map.mp hd1
    obtain ⟨z2, _, rfl⟩ := List.mem_map.mp hd2
    rfl
  · refine .inr fun d hd1 => ?_
    obtain ⟨z1, _, rfl⟩ := List.mem_map.mp hd1
    exact ⟨fun e => PyData.noConfusion e, fun xs e => PyData.noConfusion e⟩
  · have := hr.un
    show X.A.units + 2 + 0 < cLine
    omega
  · obtain ⟨hd1, hd2⟩ := hd z hzm
    obtain ⟨as, hrd⟩ := Dp.reads I z.2.1 z.1 v hd1 hv
    exact hf X.A.in1.in1 _ v z.2.1 as z.2.2 (Room.in1 (Room.in1 hr3)) (I.kIn.keeps kp) (I.nolimit.keeps kp) (PyProof.Rows.Reads.keeps kp hrd) hd2
  · have rv2 := vals_each3 he
    have hlen2 : ((zs.mergeSort (PySem.W.dataLe false fun z => .int z.2.2)).map Prod.fst).length ≤ sizeLine := by rw [List.length_map, List.length_mergeSort]; exact hz'
    exact ⟨.ref _, upd H (s.heap.objs.size + 1) (.lst ((zs.mergeSort (PySem.W.dataLe false fun z => .int z.2.2)).map Prod.fst)), I.laid (t' := tk) kp (Nat.le_succ _) ⟨hlen2, out, c, rv2, hat⟩, rfl, q _ (I.hok.fresh (Nat.le_succ _))⟩
theorem reads_len {h : Heap} : ∀ {vs : List Value} {ds : List PyData} {as : List Addr}, ReadsAll h vs ds as → vs.length = ds.length
  | [], _, _, r => by cases r; rfl
  | v :: vs, _, _, r => by
    cases r with
    | cons _ r2 => rw [List.length_cons, List.length_cons, reads_len r2]
theorem reads_at {h : Heap} {n : Int} : ∀ {vs : List Value} {ds : List PyData} {as : List Addr} {i : Nat}, ReadsAll h vs ds as → ds[i]? = some (.int n) → ∃ u, vs[i]? = some u ∧ ∃ t, u = .int n t
  | [], _, _, _, r, e => by cases r; simp at e
  | v :: vs, _, _, i, r, e => by
    cases r with
    | cons r1 r2 =>
      cases i with
      | zero =>
        simp at e
        subst e
        cases r1
        exact ⟨_, rfl, _, rfl⟩
      | succ i =>
        simp at e
        obtain ⟨u, q1, q2⟩ := reads_at r2 e
        exact ⟨u, by simpa using q1, q2⟩
def asInt : PyData → Option Int
  | .int n => some n
  | _ => none
def itemKey (i : Nat) : PyData → Option Int
  | .tuple ds => ds[i]?.bind asInt
  | _ => none
/-- def f(x): return x[i], a tuple's item -/
theorem key_item {P : Program} {w : World} {K : PySem.W.Frag} {x qual a : Str} {st : Stmt} {f : Addr} {fd : FuncData} {i : Nat} {pn pc pb pr : Pos} {kc : Nat} (F : Fun K x qual st f fd) (S : FnScope [a] [a] (defScope st)) (hb : Binds K fd [a] [])
    (body : defBody st = [.Return (some (.Subscript (.Name a pn) (.Constant (.int (i : Int)) kc pc) pb)) pr]) (hloc : (defScope st).names.lookup a = some .local) (hi : (i : Int) < 1000) (hda : (a == ("__debug__" : Str)) = false) (hcd' : (a == ("__classdict__" : Str)) = false) :
    KeyFn P w K f (itemKey i) := by
  intro A s v d as n hr KX lim hrd hkey
  obtain ⟨oc, od, kV, doc, pm, an, cdv, ct, osl, rfl, lk, hcd⟩ := F.ex
  cases d with
  | tuple ds =>
    have hkey' : ds[i]?.bind asInt = some n := hkey
    have hn : ds[i]? = some (.int n) := by
      revert hkey'
      cases ds[i]? with
      | none => intro h; cases h
      | some e => cases e <;> intro h <;> first | (cases h; rfl) | cases h
    have hkind : ∀ y ∈ ([a] : List Str).zip [v], (defScope st).names.lookup y.1 = some .local ∨ ((defScope st).names.lookup y.1 = some .cell ∧ ((cellsFrom (s.heap.objs.size + 1) (defScope st).names []).lookup y.1).isSome = true) := fun y hy => by
      simp at hy
      subst hy
      exact .inl hloc
    refine wpAny_call (codeAny_call_function hr.depth (KX _ _ lk) rfl S.co S.gen rfl (PySem.W.codeRec_of KX hcd) (hb s [v] KX rfl _ _ _ _ ?_))
    refine wpAny_newFunctionEnv_cells S.kind hkind fun env he s1 x => ?_
    subst he
    refine ⟨lim.keeps x.toInCall.keep, codeAny_func ?_⟩
    rw [body]
    obtain ⟨h1, tk1, e1, hk1⟩ := x.done
    have hns := x.toInCall.ns
    have hm : bindL (PyProof.Rows.envOfC qual (defScope st) s.heap.objs.size f cdv).kindOf ([a].zip [v]) (fun _ => none) a = some v := bindL_get (P := [a]) (vs := [v]) (i := 0) S.nd rfl rfl hloc
    cases hrd with
    | tuple ho hc hd hra =>
      rename_i ad o vs nn
      have ht : PyProof.Rows.IsTup s1.heap ad vs := ⟨o, x.toInCall.keep _ _ ho, hc, nn, hd⟩
      obtain ⟨u, hu, t, hut⟩ := reads_at hra hn
      subst hut
      have hl : vs.size = ds.length := by rw [← Array.length_toList]; exact reads_len hra
      have hil : i < ds.length := (List.getElem?_eq_some_iff.mp hn).1
      refine wpAny_execs_cons (wpAny_Return_some (Subscript_ (wpAny_Name (wpAny_loadName_local S.kind hloc hns hm ?_) hda)))
      refine wpAny_Constant_int ?_
      refine subscriptTail_builtinR (x := .int n t) (T := "tuple") (PyProof.Rows.IsTup.typeIs (s := { s1 with toks := s1.toks + 1 }) ht) PyProof.Rows.slot_tuple_getitem.lookup (getItem_tuple (j := i) (x := .int n t) (s := { s1 with toks := s1.toks + 1 }) ht (by omega) (by omega) ?_ ?_ ⟨rfl, ?_⟩) (by rfl)
      · show seqIndex? (i : Int) vs.size = some i
        rw [hl]
        refine (ixN_seq (n := ds.length) (i := (i : Int)) (j := i) ?_).1
        unfold ixN
        rw [if_pos (by omega), if_pos (by omega)]
        simp
      · rw [← Array.getElem?_toList]; exact hu
      · subst e1
        exact ⟨h1, tk1 + 1, rfl, hk1, .int n t⟩
  | _ => cases hkey
end Sd

namespace Sd
open PySem L2
section
variable {K : PySem.W.Frag} {δ : DSt} {M : Mem} {P : SV → Mem → Prop} {ta te : TE}
theorem dE_ref {f : Addr} (p : P (.m f) M) : dE K (tC (.ref f)) δ M P := fun σ H H1 e w Q q => q _ _ H M H1 p Step.refl w rfl
theorem zip_fst {H : Hp} : ∀ {vs : List V} {ds : List PyData}, DqAll K H vs ds → (vs.zip ds).map Prod.fst = vs
  | _, [], h => by cases h; rfl
  | _, d :: ds, h => by
    cases h with
    | cons h1 h2 => rw [List.zip_cons_cons, List.map_cons, zip_fst h2]
theorem zip_snd {H : Hp} : ∀ {vs : List V} {ds : List PyData}, DqAll K H vs ds → (vs.zip ds).map Prod.snd = ds
  | _, [], h => by cases h; rfl
  | _, d :: ds, h => by
    cases h with
    | cons h1 h2 => rw [List.zip_cons_cons, List.map_cons, zip_snd h2]
theorem zip_dq {H : Hp} : ∀ {vs : List V} {ds : List PyData}, DqAll K H vs ds → ∀ z ∈ vs.zip ds, Dq K H z.1 z.2
  | _, [], h, z, hz => by cases h; simp at hz
  | _, d :: ds, h, z, hz => by
    cases h with
    | cons h1 h2 =>
      rw [List.zip_cons_cons] at hz
      rcases List.mem_cons.mp hz with rfl | hz
      · exact h1
      · exact zip_dq h2 z hz
theorem dq_of_zip {H : Hp} : ∀ {zs : List (V × PyData)}, (∀ z ∈ zs, Dq K H z.1 z.2) → DqAll K H (zs.map Prod.fst) (zs.map Prod.snd)
  | [], _ => .nil
  | z :: zs, h => .cons (h z List.mem_cons_self) (dq_of_zip fun y hy => h y (List.mem_cons_of_mem _ hy))
theorem dC_sortedD {x : SV} {ds : List PyData} (s : SeqL M x ds) (hal : PySem.W.AllAlike ds) (hso : PySem.W.Sortable ds) (hdp : ∀ d ∈ ds, d.depth ≤ 60) (p : P (.d (.list (ds.mergeSort (PySem.W.dataLe false id)))) M) : dC K (rSortedD K) [x] M P := fun vs H H1 hv wk Q q => by
  cases hv with
  | cons h t =>
    cases t
    obtain ⟨a, vs, rfl, h1, h2⟩ := s.sq wk h
    refine ⟨a, vs.zip ds, rfl, by rw [zip_fst h2]; exact SqL.of h1, fun z hz => Dq.dp _ _ (Dq.mono wk.ex _ _ (zip_dq h2 z hz)), by rw [zip_snd h2]; exact hal, by rw [zip_snd h2]; exact hso, fun z hz => hdp z.2 (by rw [← zip_snd h2]; exact List.mem_map.mpr ⟨z, hz, rfl⟩), fun l hl => ?_⟩
    obtain ⟨w2, s2⟩ := laid_ok (o := .lst (((vs.zip ds).mergeSort (PySem.W.dataLe false Prod.snd)).map Prod.fst)) wk hl
    have hd := dq_of_zip (H := H) (zs := (vs.zip ds).mergeSort (PySem.W.dataLe false Prod.snd)) fun z hz => zip_dq h2 z (List.mem_mergeSort.mp hz)
    rw [List.map_mergeSort (f := Prod.snd) (r := PySem.W.dataLe false Prod.snd) (s := PySem.W.dataLe false id) (fun a _ b _ => rfl), zip_snd h2] at hd
    exact q _ _ _ M _ p s2 w2 (.lst upd_same (DqAll.mono s2.pure _ _ hd))
def dK (K : PySem.W.Frag) (r : List V → List V → Hp → VK → Prop) (xs ks : List SV) (M : Mem) (P : SV → Mem → Prop) : Prop := ∀ (vs ws : List V) (H H1 : Hp), SVsOk K H vs xs → SVsOk K H ws ks → WOk K H M H1 → ∀ Q : VK,
  (∀ v r H' M' H2, P r M' → Step H H1 M H' H2 M' → WOk K H' M' H2 → SVOk K H' v r → Q v H2) → r vs ws H1 Q
theorem dE_kw {r : List V → List V → Hp → VK → Prop} {ts tk : TA} (h : dA K ts δ M fun xs M1 => dA K tk δ M1 fun ks M2 => dK K r xs ks M2 P) : dE K (tCKw r ts tk) δ M P := fun σ H H1 e w Q q =>
  h σ H H1 e w _ fun vs xs H' M' H2 hc s1 w1 vxs => hc σ H' H2 (e.mono s1.pure) w1 _ fun ws ks H'' M'' H3 hk s2 w2 vks => hk vs ws H'' H3 (vxs.mono s2.pure) vks w2 Q fun z r H3' M3 H4 p s3 w3 vz => q z r H3' M3 H4 p ((s1.trans w w1 s2).trans w w2 s3) w3 vz
theorem dK_sortedF {f : Addr} {key : PyData → Option Int} {kv : PyData → Int} {x : SV} {ds : List PyData} (s : SeqL M x ds) (hk : ∀ d ∈ ds, key d = some (kv d)) (p : P (.d (.list (ds.mergeSort fun a b => decide (kv a ≤ kv b)))) M) : dK K (rSortedF K f key) [x] [.m f] M P := fun vs ws H H1 hv hw wk Q q => by
  cases hv with
  | cons h t =>
    cases t
    cases hw with
    | cons h' t' =>
      cases t'
      cases h'
      obtain ⟨a, vs, rfl, h1, h2⟩ := s.sq wk h
      have hm : ((vs.zip ds).map fun z => (z.1, z.2, kv z.2)).map Prod.fst = vs := by rw [List.map_map]; exact zip_fst h2
      refine ⟨a, (vs.zip ds).map fun z => (z.1, z.2, kv z.2), rfl, rfl, by rw [hm]; exact SqL.of h1, fun z hz => ?_, fun l hl => ?_⟩
      · obtain ⟨y, hy, rfl⟩ := List.mem_map.mp hz
        exact ⟨Dq.dp _ _ (Dq.mono wk.ex _ _ (zip_dq h2 y hy)), hk y.2 (by rw [← zip_snd h2]; exact List.mem_map.mpr ⟨y, hy, rfl⟩)⟩
      · have e1 : (((vs.zip ds).map fun z => (z.1, z.2, kv z.2)).mergeSort (PySem.W.dataLe false fun z => .int z.2.2)).map Prod.fst = ((vs.zip ds).mergeSort fun a b => decide (kv a.2 ≤ kv b.2)).map Prod.fst := by
          rw [PySem.W.dataLe_int (fun z : V × PyData × Int => z.2.2), ← List.map_mergeSort (f := fun z : V × PyData => (z.1, z.2, kv z.2)) (r := fun a b => decide (kv a.2 ≤ kv b.2)) (fun a _ b _ => rfl), List.map_map]
          rfl
        rw [e1]
        obtain ⟨w2, s2⟩ := laid_ok (o := .lst (((vs.zip ds).mergeSort fun a b => decide (kv a.2 ≤ kv b.2)).map Prod.fst)) wk hl
        have hd := dq_of_zip (H := H) (zs := (vs.zip ds).mergeSort fun a b => decide (kv a.2 ≤ kv b.2)) fun z hz => zip_dq h2 z (List.mem_mergeSort.mp hz)
        rw [List.map_mergeSort (f := Prod.snd) (s := fun a b => decide (kv a ≤ kv b)) (fun a _ b _ => rfl), zip_snd h2] at hd
        exact q _ _ _ M _ p s2 w2 (.lst upd_same (DqAll.mono s2.pure _ _ hd))
end
end Sd

namespace Sd
open PySem L2
/-! the layer's rules, the written part by its own letter -/
section
variable {X : Cx} {e : Expr} {es : List Expr} {t : TA} {te : TE}
theorem kix_tup (K : PySem.W.Frag) (h : X.K = K := by rfl) : IxR X (rIxT K) := h ▸ ix_tup
theorem kix_list (K : PySem.W.Frag) (h : X.K = K := by rfl) : IxR X (rIxL K) := h ▸ ix_list
theorem ksl_list (K : PySem.W.Frag) (h : X.K = K := by rfl) : SlR X (rSlL K) := h ▸ sl_list
theorem ksl_tup (K : PySem.W.Frag) (h : X.K = K := by rfl) : SlR X (rSlT K) := h ▸ sl_tup
theorem kop_catT (K : PySem.W.Frag) (h : X.K = K := by rfl) : OpR X (binaryOp .Add) (rCatT K) := h ▸ op_catT
theorem kop_in (K : PySem.W.Frag) (h : X.K = K := by rfl) : OpR X (compareOp .In) (rIn K false) := h ▸ op_in_seq
theorem kop_notIn (K : PySem.W.Frag) (h : X.K = K := by rfl) : OpR X (compareOp .NotIn) (rIn K true) := h ▸ op_notIn_seq
theorem kop_eqD (K : PySem.W.Frag) (hu : X.A.units + 64 < cLine) (h : X.K = K := by rfl) : OpR X (compareOp .Eq) (rEqD K) := h ▸ op_eqD hu
theorem kop_neD (K : PySem.W.Frag) (hu : X.A.units + 64 < cLine) (h : X.K = K := by rfl) : OpR X (compareOp .NotEq) (rNeD K) := h ▸ op_neD hu
theorem kcall_len (K : PySem.W.Frag) (h : X.K = K := by rfl) : CallR X (.builtin "len") (fun xs H Q => ∃ p ys, xs = [.ref p] ∧ (SqL K H p ys ∨ SqT K H p ys) ∧ Q (.int ys.length) H) := by subst h; exact call_len_seq
theorem kcall_tuple (K : PySem.W.Frag) (h : X.K = K := by rfl) : CallR X (.type "tuple") (fun xs H Q => ∃ p ys, xs = [.ref p] ∧ ((SqL K H p ys ∧ ∀ l, H l = none → Q (.ref l) (upd H l (.tup ys))) ∨ (SqT K H p ys ∧ Q (.ref p) H))) := by subst h; exact call_tuple_of
theorem kcall_list (K : PySem.W.Frag) (h : X.K = K := by rfl) : CallR X (.type "list") (fun xs H Q => ∃ p ys, xs = [.ref p] ∧ (SqL K H p ys ∨ SqT K H p ys) ∧ ∀ l, H l = none → Q (.ref l) (upd H l (.lst ys))) := by subst h; exact call_list_of
theorem kcr_sum (K : PySem.W.Frag) (hc : X.calm = true := by rfl) (h : X.K = K := by rfl) : CallR X (.builtin "sum") (rSum K) := h ▸ cr_sum hc
theorem kcr_sortedD (K : PySem.W.Frag) {k : Nat} (hr : Room k X.A) (h : X.K = K := by rfl) : CallR X (.builtin "sorted") (rSortedD K) := h ▸ cr_sortedD hr
theorem kcr_sortedF (K : PySem.W.Frag) {k : Nat} {f : Addr} {key : PyData → Option Int} (hf : KeyFn X.prog X.w K f key) (hr : Room k X.A) (hk : 3 ≤ k) (h : X.K = K := by rfl) : CallRK X (.builtin "sorted") [Str.ofString "key"] (rSortedF K f key) := by subst h; exact cr_sortedF hf hr hk
theorem kpi_list (K : PySem.W.Frag) {tg iter : Expr} (he : PE X iter te) (h : X.K = K := by rfl) : PI X tg iter (iList K te) := h ▸ pi_list he
theorem kpi_tup (K : PySem.W.Frag) {tg iter : Expr} (he : PE X iter te) (h : X.K = K := by rfl) : PI X tg iter (iTup K te) := h ▸ pi_tup he
theorem kpg_tup (K : PySem.W.Frag) {k : Nat} {ts : TGs} {n : Nat} {pos : Pos} (hc : X.calm = true) (hh : PGs X es ts) (h : X.K = K := by rfl) (hn : (assignEach es X.env).length = n := by rfl) (hst : (assignEach es X.env).findIdx? (·.1) = none := by rfl) : PG X (.Tuple es k pos) (gTup K n ts) := h ▸ pg_tup hc hh hn hst
theorem kpt_truth (K : PySem.W.Frag) (he : PE X e te) (h1 : ∀ whole, isTrue e X.env whole = (do let v ← whole; standAt e.pos; holding [v] (truthy v)) := by intro _; rfl) (h : X.K = K := by rfl) : PT X e (fun σ H Q => te σ H fun x H' => ∃ k, TruV K x H' k ∧ Q k H') := by subst h; exact pt_truth he h1
theorem kpe_bm (K : PySem.W.Frag) {T : String} {r : V → List V → Hp → VK → Prop} {to : TE} (hh : PE X e (tBM X.K T r to t)) (h : X.K = K := by rfl) : PE X e (tBM K T r to t) := h ▸ hh
theorem pe_callH' {K : PySem.W.Frag} {k : Nat} {x : Str} {ps : List Str} {S : SpD} {p pos : Pos} (hh : Has X.prog X.w K X.mg X.base k x ps S) (hr : Room k X.A) (hg : Gl X x) (ha : PA X (e :: es) t) (h : X.K = K := by rfl)
    (hdb : (x == ("__debug__" : Str)) = false := by decide) (he : starEach (e :: es) X.env = (false, eval e X.env) :: starEach es X.env := by rfl) (hpl : (backTo pos (starEach es X.env)).any (·.1) = false := by rfl) :
    PE X (.Call (.Name x p) (e :: es) [] pos) (tCall (spOf K S) [] E0 t) := by subst h; exact pe_callH hh hr hg ha hdb he hpl
variable {K : PySem.W.Frag} {M : Mem} {P : SV → Mem → Prop}
theorem dR_is {x : Str} {y : SV} {ns : List Str} (hy : Seq M y (ns.map .str)) (p : P (.d (.bool (ns.contains x))) M) : dR K (rIn K false) (.d (.str x)) y M P := dR_in hy p
theorem dR_no {x : Str} {y : SV} {ns : List Str} (hy : Seq M y (ns.map .str)) (p : P (.d (.bool (!ns.contains x))) M) : dR K (rIn K true) (.d (.str x)) y M P := dR_in hy p
variable {δ : DSt} {tl : TE} {tt : TT}
theorem map_at {α β : Type} {f : α → β} {l : List α} {i : Nat} {y : β} (h : (l.map f)[i]? = some y) : ∃ x, l[i]? = some x ∧ y = f x := by
  rw [List.getElem?_map] at h
  cases q : l[i]? with
  | none => rw [q] at h; cases h
  | some x => rw [q] at h; exact ⟨x, rfl, (Option.some.inj h).symm⟩
/-- [e for x in xs if t], nothing drawn in it -/
theorem lc_turns {α : Type} {enc out : α → PyData} {pt : α → Bool} {xs : List α} {j : Nat}
    (ht : ∀ x ∈ xs, dT K tt ((wipeD δ [j]).set j (some (.d (enc x)))) M fun b M2 => b = pt x ∧ M2 = M)
    (he : ∀ x ∈ xs, pt x = true → dE K te ((wipeD δ [j]).set j (some (.d (enc x)))) M fun y M2 => y = .d (out x) ∧ M2 = M) :
    ∀ (i : Nat) (d : PyData) (acc : List PyData) (M' : Mem), (xs.map enc)[i]? = some d → (M' = M ∧ acc = ((xs.take i).filter pt).map out) →
      dG K (gName j) (.d d) (wipeD δ [j]) M' fun δ2 M2 => dT K tt δ2 M2 fun b M3 => if b = true then dE K te δ2 M3 fun y M4 => ∃ d, y = .d d ∧ (M4 = M ∧ acc ++ [d] = ((xs.take (i + 1)).filter pt).map out) else (M3 = M ∧ acc = ((xs.take (i + 1)).filter pt).map out) := by
  intro i d acc M' hx hI
  obtain ⟨rfl, rfl⟩ := hI
  obtain ⟨x, hx1, rfl⟩ := map_at hx
  have hm := List.mem_of_getElem? hx1
  have e : (xs.take (i + 1)).filter pt = (xs.take i).filter pt ++ [x].filter pt := by rw [List.take_succ, hx1, List.filter_append]; rfl
  refine dG_name ((ht x hm).mono fun b M3 hb => ?_)
  obtain ⟨rfl, rfl⟩ := hb
  refine ifB (fun h => (he x hm h).mono fun y M4 hy => ?_) (fun h => ⟨rfl, ?_⟩)
  · obtain ⟨rfl, rfl⟩ := hy
    refine ⟨_, rfl, rfl, ?_⟩
    rw [e, List.map_append, List.filter_cons, if_pos h]
    rfl
  · rw [e, List.filter_cons, if_neg (by rw [h]; decide)]
    simp
theorem dE_lcLf {α : Type} {enc out : α → PyData} {pt : α → Bool} {xs : List α} {j : Nat} (h : dE K tl δ M fun r M1 => r = .d (.list (xs.map enc)) ∧ M1 = M ∧ xs.length ≤ 40000 ∧
    (∀ x ∈ xs, dT K tt ((wipeD δ [j]).set j (some (.d (enc x)))) M fun b M2 => b = pt x ∧ M2 = M) ∧
    (∀ x ∈ xs, pt x = true → dE K te ((wipeD δ [j]).set j (some (.d (enc x)))) M fun y M2 => y = .d (out x) ∧ M2 = M) ∧ Res P ((xs.filter pt).map out) M) : dE K (tLc (iList K tl) (gName j) tt te [j]) δ M P := by
  refine dE_lcL (gw_name j) (h.mono fun r M1 hh => ?_)
  obtain ⟨rfl, rfl, hl, ht, he, hr⟩ := hh
  refine ⟨_, rfl, by rw [List.length_map]; exact hl, fun i acc M' => M' = M1 ∧ acc = ((xs.take i).filter pt).map out, ⟨rfl, rfl⟩, fun i d acc M' => lc_turns ht he i d acc M', fun acc M' hI => ?_⟩
  obtain ⟨rfl, rfl⟩ := hI
  rw [List.length_map, List.take_length]
  exact hr
theorem dE_lcTf {α : Type} {enc out : α → PyData} {pt : α → Bool} {xs : List α} {j : Nat} (h : dE K tl δ M fun r M1 => r = .d (.tuple (xs.map enc)) ∧ M1 = M ∧ xs.length ≤ 40000 ∧
    (∀ x ∈ xs, dT K tt ((wipeD δ [j]).set j (some (.d (enc x)))) M fun b M2 => b = pt x ∧ M2 = M) ∧
    (∀ x ∈ xs, pt x = true → dE K te ((wipeD δ [j]).set j (some (.d (enc x)))) M fun y M2 => y = .d (out x) ∧ M2 = M) ∧ Res P ((xs.filter pt).map out) M) : dE K (tLc (iTup K tl) (gName j) tt te [j]) δ M P := by
  refine dE_lcT (gw_name j) (h.mono fun r M1 hh => ?_)
  obtain ⟨rfl, rfl, hl, ht, he, hr⟩ := hh
  refine ⟨_, rfl, by rw [List.length_map]; exact hl, fun i acc M' => M' = M1 ∧ acc = ((xs.take i).filter pt).map out, ⟨rfl, rfl⟩, fun i d acc M' => lc_turns ht he i d acc M', fun acc M' hI => ?_⟩
  obtain ⟨rfl, rfl⟩ := hI
  rw [List.length_map, List.take_length]
  exact hr
theorem dE_lcLm {α : Type} {enc out : α → PyData} {xs : List α} {j : Nat} (h : dE K tl δ M fun r M1 => r = .d (.list (xs.map enc)) ∧ M1 = M ∧ xs.length ≤ 40000 ∧
    (∀ x ∈ xs, dE K te ((wipeD δ [j]).set j (some (.d (enc x)))) M fun y M2 => y = .d (out x) ∧ M2 = M) ∧ Res P (xs.map out) M) : dE K (tLc (iList K tl) (gName j) tYes te [j]) δ M P := by
  refine dE_lcLf (pt := fun _ => true) (enc := enc) (out := out) (xs := xs) (h.mono fun r M1 hh => ?_)
  obtain ⟨h1, h2, h3, h4, h5⟩ := hh
  exact ⟨h1, h2, h3, fun x _ => dT_yes ⟨rfl, rfl⟩, fun x hx _ => h4 x hx, by rw [List.filter_eq_self.mpr fun _ _ => rfl]; exact h5⟩
theorem dE_lcTm {α : Type} {enc out : α → PyData} {xs : List α} {j : Nat} (h : dE K tl δ M fun r M1 => r = .d (.tuple (xs.map enc)) ∧ M1 = M ∧ xs.length ≤ 40000 ∧
    (∀ x ∈ xs, dE K te ((wipeD δ [j]).set j (some (.d (enc x)))) M fun y M2 => y = .d (out x) ∧ M2 = M) ∧ Res P (xs.map out) M) : dE K (tLc (iTup K tl) (gName j) tYes te [j]) δ M P := by
  refine dE_lcTf (pt := fun _ => true) (enc := enc) (out := out) (xs := xs) (h.mono fun r M1 hh => ?_)
  obtain ⟨h1, h2, h3, h4, h5⟩ := hh
  exact ⟨h1, h2, h3, fun x _ => dT_yes ⟨rfl, rfl⟩, fun x hx _ => h4 x hx, by rw [List.filter_eq_self.mpr fun _ _ => rfl]; exact h5⟩
end
theorem ex_cmp {i j : Int} {R : Int → Int → Prop} (h : R i j) : ∃ i' j', SV.d (.int i) = SV.d (.int i') ∧ SV.d (.int j) = SV.d (.int j') ∧ R i' j' := ⟨i, j, rfl, rfl, h⟩
theorem ex_bool {b : Bool} {R : Bool → Prop} (h : R b) : ∃ b', SV.d (.bool b) = SV.d (.bool b') ∧ R b' := ⟨b, rfl, h⟩
theorem ex_int {i : Int} {R : Int → Prop} (h : R i) : ∃ i', SV.d (.int i) = SV.d (.int i') ∧ R i' := ⟨i, rfl, h⟩
theorem ex_d {d : PyData} {R : PyData → Prop} (h : R d) : ∃ d', SV.d d = SV.d d' ∧ R d' := ⟨d, rfl, h⟩
theorem ex_list {ds : List PyData} {R : List PyData → Prop} (h : R ds) : ∃ ds', SV.d (.list ds) = SV.d (.list ds') ∧ R ds' := ⟨ds, rfl, h⟩
theorem ex_tup {ds : List PyData} {R : List PyData → Prop} (h : R ds) : ∃ ds', SV.d (.tuple ds) = SV.d (.tuple ds') ∧ R ds' := ⟨ds, rfl, h⟩
theorem ex_m {a : Addr} {R : Addr → Prop} (h : R a) : ∃ a', SV.m a = SV.m a' ∧ R a' := ⟨a, rfl, h⟩
theorem ex_par {x y : SV} {R : SV → SV → Prop} (h : R x y) : ∃ r s, [x, y] = [r, s] ∧ R r s := ⟨x, y, rfl, h⟩
theorem ex_rg1 {i : Int} {R : Int → Prop} (h : R i) : ∃ i', [SV.d (.int i)] = [SV.d (.int i')] ∧ R i' := ⟨i, rfl, h⟩
theorem ex_rg2 {i j : Int} {R : Int → Int → Prop} (h : R i j) : ∃ i' j', [SV.d (.int i), SV.d (.int j)] = [SV.d (.int i'), SV.d (.int j')] ∧ R i' j' := ⟨i, j, rfl, h⟩
theorem ex_dat {rs : List SV} {ds : List PyData} {R : List PyData → Prop} (e : datAll rs = some ds) (l : ds.length ≤ 1000) (h : R ds) : ∃ ds', datAll rs = some ds' ∧ ds'.length ≤ 1000 ∧ R ds' := ⟨ds, e, l, h⟩
end Sd

namespace Sd
open PySem L2
/-- a def of the top, as the head leaves it -/
structure Df (K : PySem.W.Frag) (mg : Str → Option Value) (x : Str) (st : Stmt) (f : Addr) (ps : List Str) : Prop where
  ex : ∃ fd, Fun K x x st f fd ∧ mg x = some (.ref f) ∧ Binds K fd ps []
theorem Df.has {P : Program} {w : World} {K : PySem.W.Frag} {mg : Str → Option Value} {base : Heap} {x : Str} {st : Stmt} {f : Addr} {ps : List Str} {k : Nat} {S : SpD} (d : Df K mg x st f ps)
    (h : ∀ fd, Fun K x x st f fd → FnOk P w K mg base CX0 k f fd ps (spOf K S)) : Has P w K mg base k x ps S := by
  obtain ⟨fd, h1, h2, h3⟩ := d.ex
  exact ⟨f, fd, h fd h1, h2, h1.kp, h3⟩
theorem Df.mk' {K : PySem.W.Frag} {h : Heap} {mg : Str → Option Value} {x : Str} {st : Stmt} {f : Addr} {ps : List Str} {oc : Value} {od an : Option Addr} {osl : Array (Option Value)} {kV doc pm cdv ct : Value} (X : K.In h) (G : h.Ns mainGlobals mg)
    (a : PySem.W.nsIn K mainGlobals x = some (some (.ref f))) (l : K.lookup f = some ⟨oc, od, .func (PySem.W.fnOf x x (defArgs st) (defBody st) (defScope st) .none kV doc pm an cdv ct), osl⟩)
    (c : PySem.W.codeIn K cdv x = true) (k : PySem.W.keepIn K (.ref f) = true)
    (b : ∀ (kV doc pm : Value) (an : Option Addr) (cdv ct : Value) (us : List Value), us.length = ps.length → bindArgs (PySem.W.fnOf x x (defArgs st) (defBody st) (defScope st) .none kV doc pm an cdv ct) ⟨us, []⟩ = pure (ps.zip us)) : Df K mg x st f ps :=
  ⟨_, fun_mk l c k, PySem.W.mg_of X G a, (fun_mk (st := st) l c k).binds b⟩
/-- the module's nought -/
structure Nt (K : PySem.W.Frag) (mg : Str → Option Value) (a : Addr) : Prop where
  m : mg "NOUGHT" = some (.ref a)
  d : ∀ H, Dq K H (.ref a) (.tuple [.int 0, .int 1])
theorem Nt.mk' {K : PySem.W.Frag} {h : Heap} {mg : Str → Option Value} {a : Addr} {od : Option Addr} {t0 t1 : Tok} {n : Nat} {sl : Array (Option Value)} (X : K.In h) (G : h.Ns mainGlobals mg)
    (z : PySem.W.nsIn K mainGlobals "NOUGHT" = some (some (.ref a))) (l : K.lookup a = some ⟨.type "tuple", od, .seq #[.int 0 t0, .int 1 t1] n, sl⟩) : Nt K mg a :=
  ⟨PySem.W.mg_of X G z, fun H => .tup (xs := [.int 0, .int 1]) (.inr ⟨_, _, n, l, rfl, rfl, (by decide : 2 ≤ sizeLine), .cons ⟨_, rfl⟩ (.cons ⟨_, rfl⟩ .nil)⟩) (.cons (.int 0) (.cons (.int 1) .nil))⟩
theorem dE_nt {K : PySem.W.Frag} {δ : DSt} {M : Mem} {P : SV → Mem → Prop} {mg : Str → Option Value} {a : Addr} (n : Nt K mg a) (p : P (.d (.tuple [.int 0, .int 1])) M) : dE K (tC (.ref a)) δ M P := fun σ H H1 e w Q q => q _ _ H M H1 p Step.refl w (n.d H)
end Sd

namespace Sd
open PySem L2 PyProof.Rows
set_option maxRecDepth 8000 in
theorem extend_tup (l : Addr) (items : Array Value) (n : Nat) (b : Addr) (items2 : Array Value) (n2 : Nat) (dd : Option Addr) (sl : Array (Option Value))
    (hs0 : ¬(!items.isEmpty && Builtin.List.listTooLong (items.size + items2.size)) = true) (hs1 : items.size ≤ sizeLine) (hs2 : items.size + items2.size ≤ sizeLine + 1) :
    Meets (Builtin.«list.extend» ⟨[.ref l, .ref b], []⟩) (fun _ R s => s.heap.get? l = some { cls := .type "list", dict := none, data := .seq items n, slots := #[] } ∧ s.heap.get? b = some { cls := .type "tuple", dict := dd, data := .seq items2 n2, slots := sl } ∧
      R (.ok (.ret Value.none)) { s with heap := s.heap.update l (Obj.mapSeq fun x => x ++ items2), toks := s.toks }) :=
  .of_wp fun prog w A R s h => by
    obtain ⟨hp, g, d, tk, os⟩ := s
    obtain ⟨hl, hb, h⟩ := h
    have f1 := PySem.AutoSeq1.idx_int
    have f2 := PySem.AutoSeq1.sub_tuple_tuple
    have f3 := PySem.AutoSeq1.sub_list_list
    have f4 := PySem.AutoSeq1.sub_tuple_list
    have f5 := PySem.AutoSeq1.sub_list_tuple
    have hz' : (items ++ items2).size ≤ sizeLine + 1 := by rw [Array.size_append]; exact hs2
    wp_walk using (wpAny_updateSeq hl rfl (hz := hs1) (_hz' := hz')), (PySem.AutoSeq1.wpAny_loadPart' hl), (PySem.AutoSeq1.wpAny_loadPart' hb)
    exact ⟨_, rfl, h⟩
/-- xs.extend(t), t a tuple -/
def rExtT (K : PySem.W.Frag) : V → List V → Hp → VK → Prop := fun x vs H Q => ∃ l b xs zs, x = .ref l ∧ vs = [.ref b] ∧ H l = some (.lst xs) ∧ SqT K H b zs ∧ xs.length + zs.length ≤ sizeLine ∧ Q .non (upd H l (.lst (xs ++ zs)))
theorem mt_extT {X : Cx} (K : PySem.W.Frag) (hK : X.K = K := by rfl) : MtM X "list.extend" (rExtT K) := by
  subst hK
  intro pins s σ H x vs v us Q I rx rv h
  obtain ⟨l, b, xs, zs, rfl, rfl, hH, hB, hz, q⟩ := h
  cases rx
  obtain ⟨u, rfl, ru⟩ := rv.one
  cases ru
  obtain ⟨z, its, n, r, hl, e⟩ := I.lstM hH
  obtain ⟨its2, r2, ⟨⟨cls, dd, data, sl⟩, e2, hc, n2, hd⟩, z2⟩ := I.tuple hB
  obtain rfl : cls = .type "tuple" := hc
  obtain rfl : data = .seq its2.toArray n2 := hd
  have hl2 := r2.length
  have hsz : its.toArray.size + its2.toArray.size ≤ sizeLine := by rw [List.size_toArray, List.size_toArray]; omega
  have hlong : ¬ (!its.toArray.isEmpty && Builtin.List.listTooLong (its.toArray.size + its2.toArray.size)) = true := by
    rw [notLongL hsz, Bool.and_false]
    exact Bool.false_ne_true
  refine call_meets F.slot_list_extend ⟨_, e, rfl⟩ F.entry_list_extend (F.args_list_extend_2 _ _)
    (extend_tup l its.toArray n b its2.toArray n2 dd sl hlong (by rw [List.size_toArray]; omega) (by omega)) ⟨e, e2, ?_⟩
  refine ⟨.non, _, I.lset (its' := its ++ its2) hH e (by simp) (r.append r2) ?_, rfl, q⟩
  rw [List.length_append]
  omega
section
variable {K : PySem.W.Frag} {δ : DSt} {M : Mem} {P : SV → Mem → Prop} {ta te : TE}
theorem dE_extT (h : dE K ta δ M fun r M1 => ∃ a, r = .m a ∧ (∃ ds, M1 a = some ds) ∧ dE K te δ M1 fun s M2 => ∃ ds es, s = .d (.tuple es) ∧ M2 a = some ds ∧ ds.length + es.length < 100000 ∧ P (.d .none) (mset M2 a (ds ++ es))) :
    dE K (tBM K "list" (rExtT K) ta (tCons te tNil)) δ M P := fun σ H H1 e w Q q =>
  h σ H H1 e w _ fun va ra H' M' H2 ⟨a, ea, ⟨ds0, hm0⟩, hb⟩ s w' vva => by
    subst ea
    cases vva
    obtain ⟨_, vs0, g1, _⟩ := w'.cell a ds0 hm0
    refine ⟨Or.inl ⟨rfl, vs0, SqL.of g1⟩, hb σ H' H2 (e.mono s.pure) w' _ fun vb rb H'' M'' H3 hp s2 w2 vvb => ?_⟩
    obtain ⟨ds, es, rfl, hm, hl, pp⟩ := hp
    obtain ⟨_, vs, h1, h2⟩ := w2.cell a ds hm
    cases vvb with
    | tup k1 k2 =>
      obtain ⟨w3, s3⟩ := wrote_ok (vs := vs ++ _) w2 hm (h2.append k2)
      exact ⟨a, _, vs, _, rfl, rfl, h1, sqTx w2.ex k1, by rw [h2.length, k2.length]; exact Nat.le_trans (Nat.le_of_lt hl) (by decide), q _ _ _ _ _ pp ((s.trans w w' s2).trans w w2 s3) w3 .non⟩
/-- a list that will not change any more -/
theorem dE_varF {i : Nat} {a : Addr} {ds : List PyData} (h : δ[i]? = some (some (.m a))) (hm : M a = some ds) (p : P (.d (.list ds)) (mdel M a)) : dE K (tVar i) δ M P := fun σ H H1 e w Q q => by
  obtain ⟨v, h1, h2⟩ := e.at' i _ h
  obtain rfl : v = .ref a := h2
  obtain ⟨hn, vs, k1, k2⟩ := w.cell a ds hm
  refine ⟨_, h1, q _ _ (upd H a (.lst vs)) (mdel M a) H1 p ⟨Ex.new hn, fun b o e _ => e, fun b h1 h2 h3 => ?_⟩ ⟨fun b o e => ?_, fun b es e => ?_⟩ (.lst upd_same (k2.mono (Ex.new hn)))⟩
  · have n : b ≠ a := by rintro rfl; rw [hm] at h2; cases h2
    exact ⟨by rw [upd_ne n]; exact h1, by rw [mdel_ne n]; exact h2⟩
  · by_cases n : b = a
    · subst n; rw [upd_same] at e; cases e; exact k1
    · rw [upd_ne n] at e; exact w.ex b o e
  · by_cases n : b = a
    · subst n; rw [mdel_same] at e; cases e
    · rw [mdel_ne n] at e
      obtain ⟨g1, us, g2, g3⟩ := w.cell b es e
      exact ⟨by rw [upd_ne n]; exact g1, us, g2, g3.mono (Ex.new hn)⟩
theorem mdel_mset {a : Addr} {ds : List PyData} (h : M a = none) : mdel (mset M a ds) a = M := by
  funext c
  unfold mdel mset
  split
  · rename_i e; rw [e, h]
  · rfl
/-! ### isinstance -/
theorem dE_ty {n : String} (p : P (.t n) M) : dE K (tC (.ty n)) δ M P := fun σ H H1 e w Q q => q _ _ H M H1 p Step.refl w rfl
def tyName : PyData → String
  | .none => "NoneType"
  | .bool _ => "bool"
  | .int _ => "int"
  | .str _ => "str"
  | .list _ => "list"
  | .tuple _ => "tuple"
  | .dict _ => "dict"
theorem ty_ok {H : Hp} {v : V} : ∀ {d : PyData}, Dq K H v d → TyX K H v (.type (tyName d))
  | .none, h => by cases h; exact .base .non
  | .bool _, h => by cases h; exact .base (.bl _)
  | .int _, h => by cases h; exact .base (.int _)
  | .str _, h => by cases h; exact .base (.str _)
  | .list _, h => by
    cases h with
    | lst h1 h2 => exact .base (.lst h1)
  | .tuple _, h => by
    cases h with
    | tup h1 h2 =>
      rcases h1 with (h1 | ⟨o, h1⟩) | ⟨o, its, n, h1, h3, _⟩
      · exact .base (.tup h1)
      · exact .fTuple h1
      · exact .kTuple h1 h3
  | .dict _, h => by cases h
theorem dC_isi {d : PyData} {n : String} {b : Bool} (e : kitB (tyName d) n = some b) (p : P (.d (.bool b)) M) : dC K (rIsi K) [.d d, .t n] M P := fun vs H H1 hv wk Q q => by
  cases hv with
  | cons h t => cases t with
    | cons h' t =>
      cases t
      obtain rfl : _ = V.ty n := h'
      exact ⟨_, _, _, _, b, rfl, .ty n, ty_ok (K := K) (Dq.mono wk.ex _ _ h), kit_ty e, q _ _ H M H1 p Step.refl wk (.bl _)⟩
theorem kcall_isi {X : Cx} (K : PySem.W.Frag) (h : X.K = K := by rfl) : CallR X (.builtin "isinstance") (rIsi K) := h ▸ call_isi
/-- a promise whose new list is taken as it is -/
theorem spOf.frz {S S' : SpD} (h : ∀ rs M P, S' rs M P → ∃ ds, P (.d (.list ds)) M ∧ S rs M (fun r M' => ∃ a, M a = none ∧ r = .m a ∧ M' = mset M a ds)) : ∀ vs H Q E, spOf K S' vs H Q E → spOf K S vs H Q E := fun vs H1 Q E ⟨rs, H, M, P, w, v, hS, q⟩ => by
  obtain ⟨ds, p, hS⟩ := h rs M P hS
  refine ⟨rs, H, M, _, w, v, hS, fun u r H' M' H2 hr s w' vu => ?_⟩
  obtain ⟨a, ha, rfl, rfl⟩ := hr
  obtain rfl : u = .ref a := vu
  obtain ⟨hn, vs, k1, k2⟩ := w'.cell a ds mset_same
  refine q _ _ (upd H' a (.lst vs)) M H2 p ⟨s.pure.trans (Ex.new hn), s.keep, fun b h1 h2 h3 => ?_⟩ ⟨fun b o e => ?_, fun b es e => ?_⟩ (.lst upd_same (k2.mono (Ex.new hn)))
  · obtain ⟨g1, g2⟩ := s.new b h1 h2 h3
    have n : b ≠ a := by rintro rfl; rw [mset_same] at g2; cases g2
    exact ⟨by rw [upd_ne n]; exact g1, h2⟩
  · by_cases n : b = a
    · subst n; rw [upd_same] at e; cases e; exact k1
    · rw [upd_ne n] at e; exact w'.ex b o e
  · have n : b ≠ a := by rintro rfl; rw [ha] at e; cases e
    obtain ⟨g1, us, g2, g3⟩ := w'.cell b es (by rw [mset_ne n]; exact e)
    exact ⟨by rw [upd_ne n]; exact g1, us, g2, g3.mono (Ex.new hn)⟩
theorem Has.frz {P : Program} {w : World} {mg : Str → Option Value} {base : Heap} {k : Nat} {x : Str} {ps : List Str} {S S' : SpD} (h : Has P w K mg base k x ps S) (i : ∀ rs M P, S' rs M P → ∃ ds, P (.d (.list ds)) M ∧ S rs M (fun r M' => ∃ a, M a = none ∧ r = .m a ∧ M' = mset M a ds)) : Has P w K mg base k x ps S' := by
  obtain ⟨f, fd, a, b, c, d⟩ := h.ex
  exact ⟨f, fd, a.imp (spOf.frz i), b, c, d⟩
theorem dS_cut {t u : TS} {D : DEnds} (Mid : DSt → Mem → Prop) (h : dS K t { D with nx := Mid } δ M) (k : ∀ δ' M', Mid δ' M' → dS K u D δ' M') : dS K (tSeq t u) D δ M := fun D' σ H H1 e w o =>
  h { D' with nx := u D' } σ H H1 e w ⟨fun δ' M' σ' H' H2 p s e' w' => k δ' M' p D' σ' H' H2 e' w' (o.after w w' s), o.rt, o.bk, o.ct⟩
end
end Sd

/-! Sd: sorted(set(texts)) -/
namespace Sd
open PySem L2 PySem.Spec PyProof.Rows
def txtOf : Value → Str
  | .str x _ => x
  | _ => ⟨#[]⟩
def RowT (w : World) (r : Int × Value) : Prop := ∃ x t, r = ((hashStr w x, Value.str x t) : Int × Value)
/-- what a table of texts keeps: xs the texts that came -/
structure TabT (w : World) (rs : Array (Int × Value)) (tb : SetTable) (xs : List Str) : Prop where
  row : ∀ r ∈ rs.toList, RowT w r
  nd : (rs.toList.map fun r => txtOf r.2).Nodup
  mem : ∀ x, x ∈ (rs.toList.map fun r => txtOf r.2) ↔ x ∈ xs
  few : rs.size ≤ xs.length
  low : rs.size < scanBound
  fit : tb.fits rs.size = true
  ris : Ris tb.place.toList
  led : w.params.followText "set-order" = true ∨ tb.led = true
structure SetT (w : World) (h : Heap) (a : Addr) (xs : List Str) : Prop where
  ex : ∃ ob rs ep tb, h.get? a = some ob ∧ ob.ExactSet ∧ ob.data = .set rs ep tb ∧ TabT w rs tb xs
theorem SetT.at {w : World} {h h' : Heap} {a : Addr} {xs : List Str} (z : SetT w h a xs) (k : ∀ o, h.get? a = some o → h'.get? a = some o) : SetT w h' a xs := by
  obtain ⟨ob, rs, ep, tb, e, r⟩ := z.ex
  exact ⟨ob, rs, ep, tb, k ob e, r⟩
theorem SetT.same {w : World} {h : Heap} {a : Addr} {xs ys : List Str} (z : SetT w h a xs) (m : ∀ x, x ∈ ys ↔ x ∈ xs) (l : xs.length ≤ ys.length) : SetT w h a ys := by
  obtain ⟨ob, rs, ep, tb, e1, e2, e3, q⟩ := z.ex
  exact ⟨ob, rs, ep, tb, e1, e2, e3, { q with mem := fun x => (q.mem x).trans (m x).symm, few := Nat.le_trans q.few l }⟩
theorem TabT.perm {w : World} {rs rs' : Array (Int × Value)} {tb tb' : SetTable} {xs : List Str} (q : TabT w rs tb xs) (p : rs'.toList.Perm rs.toList) (f : tb'.fits rs'.size = true) (r : Ris tb'.place.toList) (l : tb'.led = tb.led) : TabT w rs' tb' xs := by
  have z : rs'.size = rs.size := by rw [← Array.length_toList, p.length_eq, Array.length_toList]
  exact ⟨fun e he => q.row e (p.mem_iff.mp he), (p.map _).nodup_iff.mpr q.nd, fun x => (p.map _).mem_iff.trans (q.mem x), by rw [z]; exact q.few, by rw [z]; exact q.low, f, r, by rw [l]; exact q.led⟩
theorem TabT.more {w : World} {rs rs' : Array (Int × Value)} {tb tb' : SetTable} {xs : List Str} {x : Str} {u : Tok} (q : TabT w rs tb xs) (hx : x ∉ xs) (room : xs.length + 1 < scanBound) (p : rs'.toList.Perm ((hashStr w x, Value.str x u) :: rs.toList))
    (f : tb'.fits rs'.size = true) (r : Ris tb'.place.toList) (l : tb'.led = tb.led) : TabT w rs' tb' (xs ++ [x]) := by
  have z : rs'.size = rs.size + 1 := by rw [← Array.length_toList, p.length_eq, List.length_cons, Array.length_toList]
  have pk : (rs'.toList.map fun r => txtOf r.2).Perm (x :: rs.toList.map fun r => txtOf r.2) := p.map fun r => txtOf r.2
  have lw := q.few
  refine ⟨fun e he => ?_, pk.nodup_iff.mpr (List.nodup_cons.mpr ⟨fun m => hx ((q.mem x).mp m), q.nd⟩), fun y => ?_, by rw [z, List.length_append]; exact Nat.add_le_add_right q.few 1, by omega, f, r, by rw [l]; exact q.led⟩
  · rcases List.mem_cons.mp (p.mem_iff.mp he) with e1 | e1
    · exact ⟨x, u, e1⟩
    · exact q.row e e1
  · rw [pk.mem_iff, List.mem_cons, List.mem_append, List.mem_singleton, q.mem y]
    exact Or.comm
section
variable {P : Program} {w : World} {A : Around} {E : Value → Shared → Prop}
theorem TabT.elems {rs : Array (Int × Value)} {tb : SetTable} {xs : List Str} (q : TabT w rs tb xs) : ElemsOf (PySem.strKind P w) rs.toList := fun e he => by
  obtain ⟨x, t, rfl⟩ := q.row e he
  exact ⟨⟨x, strKind_is P w x t, rfl⟩, rfl⟩
theorem TabT.is {rs : Array (Int × Value)} {tb : SetTable} {xs : List Str} (q : TabT w rs tb xs) {e : Int × Value} (he : e ∈ rs.toList) (x : Str) : (PySem.strKind P w).is x e.2 = true ↔ txtOf e.2 = x := by
  obtain ⟨y, t, rfl⟩ := q.row e he
  show (PySem.strKind P w).is x (.str y t) = true ↔ y = x
  constructor
  · intro h
    exact (PySem.strKind P w).inj _ _ _ (strKind_is P w y t) h
  · rintro rfl
    exact strKind_is P w y t
/-- the table, as it is put down, and laid anew where it is too full -/
theorem put_txt {s : Shared} {a : Addr} {ob : Obj} {rs0 rs : Array (Int × Value)} {ep : Nat} {tb0 tb : SetTable} {xs : List Str} {gv : Bool → Sem Unit} (hgv : ∀ (b : Bool) (s1 : Shared) (Q1 : Unit → Shared → Prop), Q1 () s1 → wpAny (model P w) A (gv b) Q1 E s1)
    (e1 : s.heap.get? a = some ob) (e2 : ob.ExactSet) (e3 : ob.data = .set rs0 ep tb0) (q : TabT w rs tb xs) {wd : Bool} {R : Option Bool → Shared → Prop}
    (hR : ∀ h', Heap.SameBut a s.heap h' → SetT w h' a xs → R (some true) { s with heap := h' }) :
    wpAny (model P w) A (storeSet a rs tb >>= fun _ => if (!wd && tb.tooFull) = true then gv (relayAll tb rs (SetTable.grown rs.size)).2.2 >>= fun _ =>
      storeSet a (relayAll tb rs (SetTable.grown rs.size)).1 (relayAll tb rs (SetTable.grown rs.size)).2.1 >>= fun _ => pure (some true) else pure (some true)) R E s := by
  refine wpAny_bind (wpAny_storeSet_of e1 e3 ?_ (fits_of_scanBound q.low))
  have k1 := store_at (es' := rs) (t' := tb) e1 e3
  have b1 := Heap.SameBut.update s.heap a (Obj.putSet rs tb)
  by_cases c : (!wd && tb.tooFull) = true
  · rw [if_pos c]
    have q2 := q.perm (relayAll_perm tb rs (SetTable.grown rs.size)) (relayAll_fits tb rs (SetTable.grown rs.size)) (relayAll_ris tb rs (SetTable.grown rs.size)) (relayAll_led tb rs (SetTable.grown rs.size))
    refine wpAny_bind (hgv _ _ _ (wpAny_bind (wpAny_storeSet_of k1 rfl (wpAny_pure ?_) (fits_of_scanBound q2.low))))
    exact hR _ (b1.trans (Heap.SameBut.update _ a _)) ⟨_, _, _, _, store_at k1 rfl, e2, rfl, q2⟩
  · rw [if_neg c]
    exact wpAny_pure (hR _ b1 ⟨_, _, _, _, k1, e2, rfl, q⟩)
theorem add_txt {s : Shared} {a : Addr} {xs : List Str} {x : Str} {u : Tok} {Q : Bool → Shared → Prop} (z : SetT w s.heap a xs) (room : xs.length + 1 < scanBound)
    (hQ : ∀ (b : Bool) h', Heap.SameBut a s.heap h' → SetT w h' a (xs ++ [x]) → Q b { s with heap := h' }) : wpAny (model P w) A (setAddHashed a (.str x u) (hashStr w x)) Q E s := by
  obtain ⟨ob, rs, ep, tb, e1, e2, e3, q⟩ := z.ex
  have el : ElemsOf (PySem.strKind P w) rs.toList := q.elems
  unfold setAddHashed setAddHashedIn
  refine wpAny_holding (wpAny_bind (wpAny_setState_of e1 e3 q.fit ?_))
  dsimp only
  rw [byScan_of (x := .str x u) rfl q.low el, if_pos rfl]
  unfold setAddByScan
  refine wpAny_bind (wpAny_bind (wpAny_rule (wpAny_bind (wpAny_setScan_of (strKind_is P w x u) e1 e3 q.fit el ?_))))
  cases hf : List.findIdx? (fun e => (PySem.strKind P w).is x e.2) rs.toList with
  | some j =>
    obtain ⟨hj, pj, _⟩ := List.findIdx?_eq_some_iff_getElem.mp hf
    have mx : x ∈ xs := (q.mem x).mp (List.mem_map.mpr ⟨_, List.getElem_mem hj, (q.is (List.getElem_mem hj) x).mp pj⟩)
    refine wpAny_pure (wpAny_pure (hQ false s.heap (Heap.SameBut.refl a s.heap) (z.same (fun y => ?_) (by rw [List.length_append]; exact Nat.le_add_right _ _))))
    rw [List.mem_append, List.mem_singleton]
    exact ⟨fun m => m.elim id fun e => e ▸ mx, .inl⟩
  | none =>
    have nx : x ∉ xs := fun m => by
      obtain ⟨e, he, ee⟩ := List.mem_map.mp ((q.mem x).mpr m)
      have c := List.findIdx?_eq_none_iff.mp hf e he
      rw [(q.is (P := P) he x).mpr ee] at c
      cases c
    have pm := layNew_perm tb rs (hashStr w x) (.str x u)
    rw [Array.toList_push] at pm
    have q1 := q.more nx room (pm.trans (List.perm_append_singleton _ _)) (layNew_fits tb rs (hashStr w x) (.str x u)) (layNew_ris tb rs (hashStr w x) (.str x u) q.ris) (layNew_led tb rs (hashStr w x) (.str x u))
    have hgv : ∀ (b : Bool) (s1 : Shared) (Q1 : Unit → Shared → Prop), Q1 () s1 → wpAny (model P w) A (match b with | true => rule "set.scan.the-table-gave-way" | false => pure ()) Q1 E s1 := fun b s1 Q1 h => by

      cases b <;> first | exact wpAny_pure h | exact wpAny_rule h
    dsimp only
    refine wpAny_bind (hgv _ _ _ ?_)
    have fin : ∀ h', Heap.SameBut a s.heap h' → SetT w h' a (xs ++ [x]) → wpAny (model P w) A (pure true) Q E { s with heap := h' } := fun h' sb r => wpAny_pure (hQ true h' sb r)
    have tail : ∀ bb : Bool, TabT w (layNew tb rs (hashStr w x) (.str x u)).1 (if bb = true then (layNew tb rs (hashStr w x) (.str x u)).2.1 else { (layNew tb rs (hashStr w x) (.str x u)).2.1 with plain := false }) (xs ++ [x]) := fun bb => by
      cases bb with
      | true => exact q1
      | false => exact { q1 with fit := SetTable.fits_plain_off q1.fit }
    split
    · rw [hashByValue_scannable 8 (x := .str x u) rfl]
      exact wpAny_bind (wpAny_pure (put_txt hgv e1 e2 e3 (tail _) fin))
    · exact wpAny_bind (wpAny_pure (put_txt hgv e1 e2 e3 (tail true) fin))
end
end Sd

namespace Sd
open PySem L2 PySem.Spec PyProof.Rows
/-- a new set -/
abbrev set0 (w : World) : Obj := { cls := .type "set", dict := none, data := .set #[] 0 (.fresh 0 0 (!w.params.followText "set-order")) }
theorem set0_txt {w : World} {h : Heap} {a : Addr} (e : h.get? a = some (set0 w)) : SetT w h a [] :=
  ⟨_, #[], 0, _, e, ⟨rfl, rfl, rfl⟩, rfl, { row := fun r hr => (by cases hr), nd := List.nodup_nil, mem := fun x => Iff.rfl, few := Nat.le_refl _, low := (by decide), fit := (by rfl), ris := List.Pairwise.nil, led := (by
    show _ ∨ (!w.params.followText "set-order") = true
    cases w.params.followText "set-order" <;> simp) }⟩
section
variable {P : Program} {w : World} {A : Around} {E : Value → Shared → Prop}
/-- each text that the iterator gives goes into the set at S -/
theorem fill_txt {I S : Addr} {fp wr : List Addr} {G : Array GenState → Array GenState → Prop} {n : Nat} {Pv : Nat → Value → Prop} {St : Nat → Shared → Prop} {R : Result → Shared → Prop} (W : WalksS P w A.in1 I fp wr G n Pv St) (out : S ∉ fp)
    (xs : List Str) (hn : n = xs.length) (few : xs.length + 1 < scanBound) (hv : ∀ i v, Pv i v → ∃ x t, xs[i]? = some x ∧ v = .str x t) :
    ∀ (m i : Nat) (s : Shared), m + i = n → St i s → SetT w s.heap S (xs.take i) → (∀ s', Moved (S :: wr) G s s' → SetT w s'.heap S xs → R (.ok (.ret .none)) s') →
      codeAny (model P w) A (.builtin "set.update.loop" ⟨[.ref S, .ref I], []⟩) R s := by
  have out' : S ∉ wr := fun h => out (W.sub S h)
  have wider : ∀ b ∈ wr, b ∈ S :: wr := fun b h => .tail _ h
  intro m
  induction m with
  | zero =>
    intro i s hi st z hR
    obtain rfl : i = n := by omega
    refine codeAny_builtin F.entry_set_update_loop (by
      rw [Around.under_plainId F.plain_set_update_loop _]
      exact wpAny_bind (m := pyNext (.ref I)) (W.done s _ _ st fun s' mv => wpAny_pure (a := Fin.done (Flow.ret Value.none)) (hR s' (mv.mono wider) (by
        rw [List.take_of_length_le (Nat.le_of_eq hn.symm)] at z
        exact z.at fun o e => mv.heap S o out' e))))
  | succ m ih =>
    intro i s hi st z hR
    have lt : i < n := by omega
    refine codeAny_builtin F.entry_set_update_loop ?_
    rw [Around.under_plainId F.plain_set_update_loop _]
    refine wpAny_bind (m := pyNext (.ref I)) (W.item i s _ _ lt st fun v s' hP st' mv => ?_)
    obtain ⟨x, t, hx, rfl⟩ := hv i v hP
    refine wpAny_bind (m := holding [Value.str x t] (setAdd S (.str x t))) (wpAny_holding (wpAny_holding (wpAny_bind ((PySem.strKind P w).pyHash (strKind_is P w x t) ?_))))
    have lw : (xs.take i).length + 1 < scanBound := by rw [List.length_take]; omega
    refine add_txt (s := { s' with toks := s'.toks + 1 }) (z.at fun o e => mv.heap S o out' e) lw fun b h' sb z2 => ?_
    have z3 : SetT w h' S (xs.take (i + 1)) := by rw [List.take_add_one, hx]; exact z2
    refine wpAny_pure ⟨plainId_quiet F.plain_set_update_loop _, ih (i + 1) _ (by omega) (W.frame _ s' _ _ st' (Nat.le_succ _) fun b hb o e => ?_) z3 fun s2 mv2 z4 => hR s2 ?_ z4⟩
    · rw [sb.2 b fun q => out (q ▸ hb)]
      exact e
    · refine Moved.trans W.gtrans ((mv.mono wider).then_heap (Nat.le_succ _) fun b o hb e => ?_) mv2
      rw [sb.2 b fun q => hb (q ▸ .head _)]
      exact e
/-- set.__init__ of a new set, by a list or a tuple of texts -/
theorem init_txt {s : Shared} {S l : Addr} {items : Array Value} (xs : List Str) {R : Result → Shared → Prop} (hh : A.handled = none) (hS : s.heap.get? S = some (set0 w)) (ne : l ≠ S) (hl : s.heap.IsList l items ∨ s.heap.IsTuple l items)
    (hx : ∀ (i : Nat) (v : Value), items[i]? = some v → ∃ x t, xs[i]? = some x ∧ v = Value.str x t) (hz : items.size = xs.length) (few : xs.length + 1 < scanBound)
    (h : ∀ (h' : Heap) (tk : Nat), SetT w h' S xs → (∀ b o, b ≠ S → s.heap.get? b = some o → h'.get? b = some o) → R (.ok (.ret .none)) { s with heap := h', toks := tk }) :
    wpAny (model P w) A.in1 (Builtin.«set.__init__» ⟨[.ref S, .ref l], []⟩) (fun fin s' => match fin with | .done f => R (.ok f) s' | .again c => c.quiet = true ∧ codeAny (model P w) A c R s') (fun e s' => R (.error e) s') s := by
  have hls : l < s.heap.objs.size := by rcases hl with hl | hl <;> (obtain ⟨o, e, _⟩ := hl; exact Heap.lt_size e)
  have hSs : S < s.heap.objs.size := Heap.lt_size hS
  have out : S ∉ [s.heap.objs.size, l] := by
    simp only [List.mem_cons, List.not_mem_nil, or_false, not_or]
    exact ⟨Nat.ne_of_lt hSs, Ne.symm ne⟩
  have hT : Shared.TypeIs s (.ref S) "set" := ⟨_, hS, rfl⟩
  have hne : l ≠ s.heap.objs.size := Nat.ne_of_lt hls
  have h2 : A.in1.in1.handled = none := by simp [hh]
  have fin : ∀ (s' : Shared) (ob : Obj) (G : Array GenState → Array GenState → Prop), (∀ a b, G a b → b = a) → Moved [S, s.heap.objs.size] G { s with heap := s.heap.push ob } s' → SetT w s'.heap S xs → R (.ok (.ret .none)) s' := fun s' ob G hG mv z => by
    obtain ⟨h', g2, d', tk', os'⟩ := s'
    obtain rfl : g2 = s.gens := hG _ _ mv.gens
    obtain rfl : d' = s.drawn := mv.drawn
    obtain rfl : os' = s.os := mv.os
    refine h h' tk' z fun b o hb e => mv.heap b o ?_ (Heap.get?_push_of_some _ e)
    simp only [List.mem_cons, List.not_mem_nil, or_false, not_or]
    exact ⟨hb, Nat.ne_of_lt (Heap.lt_size e)⟩
  have z0 : ∀ ob, SetT w (s.heap.push ob) S (xs.take 0) := fun ob => set0_txt (Heap.get?_push_of_some _ hS)
  rcases hl with hl | hl
  · obtain ⟨⟨oc, od, odt, osl⟩, e, hcl, nl, hdl⟩ := id hl
    simp only at hcl hdl
    subst hcl; subst hdl
    have n1 := F.sub_list_set
    have n2 := F.sub_list_frozenset
    have n3 : (Value.type "list" == Value.type "dict") = false := by decide
    unfold Builtin.«set.__init__» noKeywords Builtin.Frozenset.updateFrom
    generalize hPI : pyIter = PI
    wp_walk
    subst hPI
    refine wpAny_pyIter_list hl (wpAny_bind (wpAny_runValue ?_))
    exact fill_txt (Walks.list h2 _ l hne items).toS out xs hz few hx items.size 0 _ rfl ⟨⟨_, Heap.get?_push_size _ rfl, rfl, rfl⟩, hl.push _⟩ (z0 _) fun s' mv z => wpAny_pure (wpAny_pure (fin s' _ _ (fun _ _ e => e) mv z))
  · obtain ⟨⟨oc, od, odt, osl⟩, e, hcl, nl, hdl⟩ := id hl
    simp only at hcl hdl
    subst hcl; subst hdl
    have n1 := F.sub_tuple_set
    have n2 := F.sub_tuple_frozenset
    have n3 : (Value.type "tuple" == Value.type "dict") = false := by decide
    unfold Builtin.«set.__init__» noKeywords Builtin.Frozenset.updateFrom
    generalize hPI : pyIter = PI
    wp_walk
    subst hPI
    refine wpAny_pyIter_tuple hl (wpAny_bind (wpAny_runValue ?_))
    exact fill_txt (Walks.tuple h2 _ l hne items).toS out xs hz few hx items.size 0 _ rfl ⟨⟨_, Heap.get?_push_size _ rfl, rfl, rfl⟩, hl.push _⟩ (z0 _) fun s' mv z => wpAny_pure (wpAny_pure (fin s' _ _ (fun _ _ e => e) mv z))
end
end Sd

namespace Sd
open PySem L2 PySem.Spec PyProof.Rows
section
variable {P : Program} {w : World} {A : Around} {E : Value → Shared → Prop} {s : Shared}
/-- set(xs), xs a list or a tuple of texts -/
theorem call_set_txt {l : Addr} {items : Array Value} (xs : List Str) {Q : Value → Shared → Prop} (hh : A.handled = none) (hl : s.heap.IsList l items ∨ s.heap.IsTuple l items)
    (hx : ∀ (i : Nat) (v : Value), items[i]? = some v → ∃ x t, xs[i]? = some x ∧ v = Value.str x t) (hz : items.size = xs.length) (few : xs.length + 1 < scanBound)
    (h : ∀ (h' : Heap) (tk : Nat), SetT w h' s.heap.objs.size xs → (∀ b o, s.heap.get? b = some o → h'.get? b = some o) → Q (.ref s.heap.objs.size) { s with heap := h', toks := tk }) :
    wpAny (model P w) A (call (.type "set") [.ref l]) Q E s := by
  have hlt : l < s.heap.objs.size := by rcases hl with hl | hl <;> (obtain ⟨o, e, _⟩ := hl; exact Heap.lt_size e)
  obtain ⟨c, tl, y0⟩ := F.called_set.mro
  have y1 := F.called_set.made
  have y2 := F.called_set.sub
  have y3 := F.called_set.notType
  have y4 := F.called_set.canCreate
  have y5 := F.typeCall_set_1 (.ref l)
  refine wpAny_call (codeAny_of_tree (wpAny_pure ⟨Code.quiet_builtin _ (by decide +kernel), codeAny_builtin F.entry_type_call ?_⟩))
  rewrite [Around.under_plain (weight_type_call_type "set" [.ref l] []) rfl]
  repeat (any_goals (first | assumption | wp_step))
  refine codeAny_mono (code_set_led1 (.ref l) (E := E) (Q₁ := fun ob s1 => ob = .ref s.heap.objs.size ∧ s1 = { s with heap := s.heap.push (set0 w) }) ⟨rfl, rfl⟩) fun r s1 hr => ?_
  match r, hr with
  | .ok (.ret ob), hr =>
    obtain ⟨rfl, rfl⟩ := hr
    have hS : (s.heap.push (set0 w)).get? s.heap.objs.size = some (set0 w) := Heap.get?_push_size _ rfl
    have hT : Shared.TypeIs { s with heap := s.heap.push (set0 w) } (.ref s.heap.objs.size) "set" := ⟨_, hS, rfl⟩
    have y6 := F.called_set.init.lookup
    have y7 := F.called_set.init.bind (.ref s.heap.objs.size)
    repeat (any_goals (first | assumption | wp_step))
    refine codeAny_mono (codeAny_call_builtin (R := fun r s' => r = .ok (.ret .none) ∧ ∃ h' tk, s' = { s with heap := h', toks := tk } ∧ SetT w h' s.heap.objs.size xs ∧ ∀ b o, s.heap.get? b = some o → h'.get? b = some o) F.called_set.init.plain F.entry_set_init (check_set_init_1 hT
      (init_txt (A := A.in1) (s := { s with heap := s.heap.push (set0 w) }) (S := s.heap.objs.size) (l := l) (items := items) (R := fun r s' => r = .ok (.ret .none) ∧ ∃ h' tk, s' = { s with heap := h', toks := tk } ∧ SetT w h' s.heap.objs.size xs ∧ ∀ b o, s.heap.get? b = some o → h'.get? b = some o)
        xs (show A.in1.handled = none by simp [hh]) hS (Nat.ne_of_lt hlt) (hl.imp (fun z => z.push _) fun z => z.push _) hx hz few fun h' tk z k => ⟨rfl, h', tk, rfl, z, fun b o e => k b o (Nat.ne_of_lt (Heap.lt_size e)) (Heap.get?_push_of_some _ e)⟩))) fun r s2 hr2 => ?_
    obtain ⟨rfl, h', tk, rfl, z, k⟩ := hr2
    exact wpAny_pure (wpAny_pure (h h' tk z k))
  | .error e, hr => exact hr
end
end Sd

namespace Sd
open PySem L2 PySem.Spec PyProof.Rows
def sortX (ys : List Str) : List Str := ys.mergeSort (PySem.W.dataLe false PyData.str)
theorem vals_txt : ∀ {us : List Value}, (∀ v ∈ us, ∃ x t, v = Value.str x t) → PySem.W.EachIs (fun v (x : Str) => ∃ t, v = Value.str x t) us (us.map txtOf)
  | [], _ => .nil
  | u :: us, h => by
    obtain ⟨x, t, rfl⟩ := h _ (.head _)
    exact .cons ⟨t, rfl⟩ (vals_txt fun v hv => h v (.tail _ hv))
theorem each_vals_txt : ∀ {us : List Value} {xs : List Str}, PySem.W.EachIs (fun v (x : Str) => ∃ t, v = Value.str x t) us xs → Vals (xs.map V.str) us
  | _, _, .nil => .nil
  | _, _, .cons h r => .cons h (each_vals_txt r)
section
variable {P : Program} {w : World} {A : Around} {E : Value → Shared → Prop} {s : Shared}
theorem sorted_txt {a : Addr} {xs : List Str} {Q : Value → Shared → Prop} (z : SetT w s.heap a xs) (hh : A.handled = none) (hu : A.units + 8 < cLine)
    (hQ : ∀ s' p (out : List Value) (c : Nat) (ys : List Str), (∀ b o, s.heap.get? b = some o → s'.heap.get? b = some o) → s'.gens = s.gens → s'.os = s.os → s.heap.objs.size ≤ p → s'.heap.get? p = some (seqObj "list" out.toArray c) →
      ys.Nodup → (∀ x, x ∈ ys ↔ x ∈ xs) → Vals ((sortX ys).map V.str) out → out.length ≤ sizeLine → Q (.ref p) s') : wpAny (model P w) A (call (.builtin "sorted") [.ref a]) Q E s := by
  obtain ⟨ob, rs, ep, tb, e1, e2, e3, q⟩ := z.ex
  refine Calls.call_function_entry kind_sorted plain_sorted entry_sorted (args_sorted1 _) ?_
  unfold Builtin.«sorted»
  refine wpAny_bind (m := checkCount "sorted" 1 1 _) (wpAny_pure (wpAny_bind (collect_set (A := A.in1) hh ⟨ob, e1, e2.1, e3⟩ q.fit q.low q.ris q.led fun s1 us k1 hz g1 o1 pm => ?_)))
  have ht : ∀ v ∈ us, ∃ x t, v = Value.str x t := fun v hv => by
    obtain ⟨e, he, rfl⟩ := List.mem_map.mp (pm.mem_iff.mp hv)
    obtain ⟨x, t, rfl⟩ := q.row e he
    exact ⟨x, t, rfl⟩
  have pk : (us.map txtOf).Perm (rs.toList.map fun r => txtOf r.2) := by
    have pp := pm.map txtOf
    rw [List.map_map] at pp
    exact pp
  have hlen : us.length ≤ sizeLine := by
    rw [pm.length_eq, List.length_map, Array.length_toList]
    exact fits_of_scanBound q.low
  refine wpAny_bind (wpAny_newList ?_ hlen)
  have eL : (s1.heap.push (seqObj "list" us.toArray 0)).get? s1.heap.objs.size = some (seqObj "list" us.toArray 0) := Heap.get?_push_size _ rfl
  refine wpAny_bind (wpAny_holding (PySem.W.list_sort_data (enc := PyData.str) (bs := us.map txtOf) (R := fun v (x : Str) => ∃ t, v = Value.str x t) eL (vals_txt ht) ((vals_txt ht).mono fun v x hv => ?_) ?_ ?_ (by rw [List.length_map]; exact hlen) (fun b _ => ?_) fun out ho he => ?_))
  · obtain ⟨t, rfl⟩ := hv
    exact ⟨[], .str _ _, fun m => by cases m⟩
  · intro d hd d' hd'
    obtain ⟨x, _, rfl⟩ := List.mem_map.mp hd
    obtain ⟨y, _, rfl⟩ := List.mem_map.mp hd'
    rfl
  · refine .inr fun d hd => ?_
    obtain ⟨x, _, rfl⟩ := List.mem_map.mp hd
    exact ⟨fun e => PyData.noConfusion e, fun xs e => PyData.noConfusion e⟩
  · show A.units + 1 + 1 + 0 < cLine
    omega
  · obtain ⟨c, hc⟩ := sortedHeap_at (vs := us) (out := out.toArray) eL
    refine wpAny_pure ⟨_, rfl, hQ _ s1.heap.objs.size out c (us.map txtOf) (fun b o e => ?_) g1 o1 hz hc (pk.nodup_iff.mpr q.nd) (fun x => pk.mem_iff.trans (q.mem x)) (each_vals_txt he) (by rw [ho, List.length_map]; exact hlen)⟩
    have lt := Heap.lt_size (k1 b o e)
    exact (sortedHeap_old (Nat.ne_of_lt lt) (by rw [size_push']; exact Nat.lt_succ_of_lt lt)).trans (Heap.get?_push_of_some _ (k1 b o e))
end
/-- sorted(set(xs)), xs a list or a tuple of texts -/
def tSrtSet (K : PySem.W.Frag) (ta : TE) : TE := fun σ H Q => ta σ H fun x H1 => ∃ (l : Addr) (xs : List Str), x = .ref l ∧ (SqL K H1 l (xs.map V.str) ∨ SqT K H1 l (xs.map V.str)) ∧ xs.length ≤ 1000 ∧
  ∀ ys : List Str, ys.Nodup → (∀ x, x ∈ ys ↔ x ∈ xs) → ∀ p, H1 p = none → Q (.ref p) (upd H1 p (.lst ((sortX ys).map V.str)))
theorem strs_at {xs : List Str} {us : List Value} (r : Vals (xs.map V.str) us) : ∀ (i : Nat) (v : Value), us[i]? = some v → ∃ x t, xs[i]? = some x ∧ v = Value.str x t := by
  induction xs generalizing us with
  | nil => intro i v h; cases r; simp at h
  | cons x xs ih =>
    intro i v h
    cases r with
    | cons r1 r2 =>
      cases i with
      | zero =>
        obtain ⟨t, rfl⟩ := r1
        simp at h
        exact ⟨x, t, rfl, h.symm⟩
      | succ i =>
        obtain ⟨y, t, e1, e2⟩ := ih r2 i v (by simpa using h)
        exact ⟨y, t, by simpa using e1, e2⟩
theorem pe_srtSet {X : Cx} {a : Expr} {ta : TE} {k : Nat} {p p2 q pos : Pos} (K : PySem.W.Frag) (hc : X.calm = true) (hr : Room k X.A) (hg : Gl X "sorted") (hm : X.mg "sorted" = none) (hg2 : Gl X "set") (hm2 : X.mg "set" = none) (ha : PE X a ta) (hK : X.K = K := by rfl)
    (na : starEach [a] X.env = (false, eval a X.env) :: starEach [] X.env := by rfl) : PE X (.Call (.Name "sorted" p) [.Call (.Name "set" p2) [a] [] q] [] pos) (tSrtSet K ta) := by
  subst hK
  refine ⟨fun pins s σ H Q I h => ?_⟩
  refine Call_ (ld_blt I hg hm boot_sorted ?_)
  refine PyProof.Rows.callWith_builtin1 (PyProof.Rows.args_cons (Call_ (ld_blt I hg2 hm2 boot_set ?_)) rfl) rfl rfl
  refine PyProof.Rows.callWith_type1 (PyProof.Rows.args_cons (thn (ha.run pins s σ H _ I h) fun v s1 ⟨x, H1, I1, r1, q1⟩ => PyProof.Rows.args_nil ?_) na) na rfl
  obtain ⟨l, xs, rfl, hq, h1, q1⟩ := q1
  cases r1
  have hd := I1.ok.hd hc
  have fin : ∀ (h' : Heap) (tk : Nat), SetT X.w h' s1.heap.objs.size xs → (∀ b o, s1.heap.get? b = some o → h'.get? b = some o) →
      wpAny (model X.prog X.w) X.A (spliced (backTo pos (starEach [] X.env))) (fun vs s₂ => wpAny (model X.prog X.w) X.A (call (.builtin "sorted") (Value.ref s1.heap.objs.size :: vs)) (EP X pins σ Q) X.xe s₂) X.xe { s1 with heap := h', toks := tk } := fun h' tk z hk => by
    refine PyProof.Rows.args_nil ?_
    have I2 : Inv X pins σ H1 { s1 with heap := h', toks := tk } := I1.kept hk
    refine sorted_txt z hd (by have := hr.un; omega) fun s' pp out c ys k2 g2 o2 hp hgt nd mem rv hol => ?_
    have hn : H1 pp = none := I2.hok.fresh hp
    have hlen : ((sortX ys).map V.str).length ≤ sizeLine := by rw [rv.length]; exact hol
    have kk : ∀ b o, s1.heap.get? b = some o → s'.heap.get? b = some o := fun b o e => k2 b o (hk b o e)
    have hp1 : s1.heap.objs.size ≤ pp := by
      obtain ⟨ob, rs, ep, tb, e1, _⟩ := z.ex
      exact Nat.le_trans (Nat.le_of_lt (Heap.lt_size e1)) hp
    have J : Inv X pins σ (upd H1 pp (.lst ((sortX ys).map V.str))) { s1 with heap := s'.heap, gens := s'.gens, drawn := s'.drawn, toks := s'.toks } :=
      I1.call (ch := []) (Un.laid kk hp1 hn) (I1.hok.laid kk hp1 ⟨hlen, out, c, rv, hgt⟩) (by rw [g2]; exact I1.bare) (fun _ z => nomatch z)
    have e : s' = { s1 with heap := s'.heap, gens := s'.gens, drawn := s'.drawn, toks := s'.toks } := by
      cases s'
      cases s1
      cases o2
      rfl
    rw [e]
    exact ⟨.ref pp, _, J, rfl, q1 ys nd mem pp hn⟩
  rcases hq with hq | hq
  · obtain ⟨its, r, pl, hz⟩ := I1.list hq
    have hl : its.length = xs.length := by rw [← r.length, List.length_map]
    exact call_set_txt xs hd (.inl pl.isList) (fun i v h => strs_at r i v (by simpa using h)) (by simpa using hl) (by unfold scanBound; omega) fin
  · obtain ⟨its, r, pl, hz⟩ := I1.tuple hq
    have hl : its.length = xs.length := by rw [← r.length, List.length_map]
    exact call_set_txt xs hd (.inr pl) (fun i v h => strs_at r i v (by simpa using h)) (by simpa using hl) (by unfold scanBound; omega) fin
end Sd

namespace Sd
open PySem L2
section
variable {X : Cx} {e : Expr} {te : TE}
theorem kop_catA (K : PySem.W.Frag) (h : X.K = K := by rfl) : OpR X (binaryOp .Add) (rCatA K) := h ▸ op_catA
theorem kpe_revL (K : PySem.W.Frag) {k : Nat} {p1 p2 p3 pos : Pos} (he : PE X e te) (h : X.K = K := by rfl) : PE X (.Subscript e (.Slice none none (some (.UnaryOp .USub (.Constant (.int 1) k p1) p2)) p3) pos) (tRevL K te) := h ▸ pe_revL he
def rDict (K : PySem.W.Frag) : List V → Hp → VK → Prop := fun xs H Q => ∃ (a : Addr) (ps : List Addr) (kvs : List (Key × V)), xs = [.ref a] ∧ SqL K H a (ps.map V.ref) ∧ Paired (fun p kv => SqT K H p [kV kv.1, kv.2]) ps kvs ∧ ∀ p, H p = none → Q (.ref p) (upd H p (.dK (mergeK [] kvs)))
theorem kcall_dict (K : PySem.W.Frag) (hc : X.calm = true := by rfl) (h : X.K = K := by rfl) : CallR X (.type "dict") (rDict K) := by subst h; exact call_dictP hc
end
section
variable {K : PySem.W.Frag} {δ : DSt} {M : Mem} {P : SV → Mem → Prop} {ta tb te tl : TE} {tt : TT}
theorem strs_dq {H : Hp} : ∀ ns : List Str, DqAll K H (ns.map V.str) (ns.map .str)
  | [] => .nil
  | n :: ns => .cons (.str n) (strs_dq ns)
/-- sorted(set(xs)) -/
theorem dE_srtSet (h : dE K ta δ M fun x M1 => ∃ ns : List Str, Seq M1 x (ns.map .str) ∧ ns.length ≤ 1000 ∧ ∀ ys : List Str, ys.Nodup → (∀ x, x ∈ ys ↔ x ∈ ns) → P (.d (.list ((sortX ys).map .str))) M1) : dE K (tSrtSet K ta) δ M P := fun σ H H1 e w Q q =>
  h σ H H1 e w _ fun v x H' M' H2 hb s1 w1 vx => by
    obtain ⟨ns, sq, hl, p⟩ := hb
    obtain ⟨a, vs, rfl, h1, h2⟩ := sq.sq w1 vx
    obtain rfl := strs_of h2
    refine ⟨a, ns, rfl, h1.imp SqL.of id, hl, fun ys nd mem l hln => ?_⟩
    obtain ⟨w2, s2⟩ := laid_ok (o := .lst ((sortX ys).map V.str)) w1 hln
    exact q _ _ _ M' _ (p ys nd mem) (s1.trans w w1 s2) w2 (.lst upd_same (strs_dq _))
/-- t + u, any of them empty -/
theorem dR_catA {ds es : List PyData} (hz : ds.length + es.length ≤ 100000) (p : P (.d (.tuple (ds ++ es))) M) : dR K (rCatA K) (.d (.tuple ds)) (.d (.tuple es)) M P := fun v w H H1 hv hw wk Q q => by
  cases hv with
  | tup a1 a2 =>
    cases hw with
    | tup b1 b2 =>
      refine ⟨_, _, _, _, rfl, rfl, sqTx wk.ex a1, sqTx wk.ex b1, by rw [a2.length, b2.length]; exact Nat.le_trans hz (by decide), fun e0 => ?_, fun _ e0 => ?_, fun _ _ l hl => ?_⟩
      · subst e0
        cases a2
        exact q _ _ H M H1 p Step.refl wk (.tup b1 b2)
      · subst e0
        cases b2
        rw [List.append_nil] at p
        exact q _ _ H M H1 p Step.refl wk (.tup a1 a2)
      · obtain ⟨w2, s2⟩ := laid_ok (o := .tup (_ ++ _)) wk hl
        exact q _ _ _ M _ p s2 w2 (.tup (SqT.of upd_same) (DqAll.mono s2.pure _ _ (a2.append b2)))
theorem DqAll.reverse {H : Hp} : ∀ {vs : List V} {ds : List PyData}, DqAll K H vs ds → DqAll K H vs.reverse ds.reverse
  | _, [], h => by cases h; exact .nil
  | _, d :: ds, h => by
    cases h with
    | cons h1 h2 =>
      rw [List.reverse_cons, List.reverse_cons]
      exact (DqAll.reverse h2).append (.cons h1 .nil)
/-- xs[::-1] -/
theorem dE_revL (h : dE K te δ M fun x M1 => ∃ ds, SeqL M1 x ds ∧ P (.d (.list ds.reverse)) M1) : dE K (tRevL K te) δ M P := fun σ H H1 e w Q q =>
  h σ H H1 e w _ fun v x H' M' H2 hb s1 w1 vx => by
    obtain ⟨ds, sq, p⟩ := hb
    obtain ⟨a, vs, rfl, h1, h2⟩ := sq.sq w1 vx
    refine ⟨a, vs, rfl, SqL.of h1, fun l hl => ?_⟩
    obtain ⟨w2, s2⟩ := laid_ok (o := .lst vs.reverse) w1 hl
    exact q _ _ _ M' _ p (s1.trans w w1 s2) w2 (.lst upd_same (DqAll.mono s2.pure _ _ h2.reverse))
/-! ### a dict of texts -/
theorem put_new {kvs : List (Key × V)} {k : Key} {v : V} (h : k ∉ kvs.map Prod.fst) : putK kvs k v = kvs ++ [(k, v)] := by
  unfold putK
  rw [if_neg]
  intro c
  obtain ⟨p, hp, hk⟩ := List.any_eq_true.mp c
  exact h (List.mem_map.mpr ⟨p, hp, of_decide_eq_true hk⟩)
theorem merge_new : ∀ (more kvs : List (Key × V)), ((kvs ++ more).map Prod.fst).Nodup → mergeK kvs more = kvs ++ more
  | [], kvs, _ => (List.append_nil _).symm
  | p :: r, kvs, h => by
    show mergeK (putK kvs p.1 p.2) r = _
    have e : kvs ++ p :: r = (kvs ++ [p]) ++ r := by rw [List.append_assoc]; rfl
    rw [put_new (fun m => by
      rw [List.map_append, List.nodup_append] at h
      exact h.2.2 p.1 m p.1 (List.mem_map.mpr ⟨p, .head _, rfl⟩) rfl), merge_new r _ (by rw [← e]; exact h), ← e]
theorem pairs_dq {H H1 : Hp} (ex : Ex H H1) : ∀ {vs : List V} {ps : List (Str × PyData)}, DqAll K H vs (ps.map fun p => PyData.tuple [.str p.1, p.2]) →
    ∃ (as : List Addr) (us : List V), vs = as.map V.ref ∧ Paired (fun p (kv : Key × V) => SqT K H1 p [kV kv.1, kv.2]) as ((ps.map fun p => (Sum.inr p.1 : Key)).zip us) ∧ DqAll K H us (ps.map Prod.snd)
  | _, [], h => by
    cases h
    exact ⟨[], [], rfl, .nil, .nil⟩
  | _, p :: ps, h => by
    cases h with
    | cons h1 h2 =>
      obtain ⟨as, us, e1, e2, e3⟩ := pairs_dq ex h2
      cases h1 with
      | tup t1 t2 =>
        cases t2 with
        | cons x1 t2 =>
          cases t2 with
          | cons x2 t2 =>
            cases t2
            cases x1
            exact ⟨_ :: as, _ :: us, by rw [e1]; rfl, .cons (sqTx ex t1) e2, .cons x2 e3⟩
theorem dC_dict {x : SV} {ps : List (Str × PyData)} (s : SeqL M x (ps.map fun p => PyData.tuple [.str p.1, p.2])) (nd : (ps.map Prod.fst).Nodup) (p : P (.q ps) M) : dC K (rDict K) [x] M P := fun vs H H1 hv wk Q q => by
  cases hv with
  | cons h t =>
    cases t
    obtain ⟨a, vs, rfl, h1, h2⟩ := s.sq wk h
    obtain ⟨as, us, rfl, e2, e3⟩ := pairs_dq (K := K) wk.ex h2
    have hl := e3.length
    refine ⟨a, as, _, rfl, SqL.of h1, e2, fun l hln => ?_⟩
    rw [merge_new _ _ (by
      rw [List.nil_append, List.map_fst_zip (by rw [hl, List.length_map, List.length_map]; exact Nat.le_refl _)]
      have z : ps.map (fun p => (Sum.inr p.1 : Key)) = (ps.map Prod.fst).map Sum.inr := by rw [List.map_map]; rfl
      rw [z]
      exact List.Pairwise.map _ (fun a b hab e => hab (Sum.inr.inj e)) nd), List.nil_append]
    obtain ⟨w2, s2⟩ := laid_ok (o := .dK ((ps.map fun p => (Sum.inr p.1 : Key)).zip us)) wk hln
    exact q _ _ _ M _ p s2 w2 ⟨l, us, rfl, upd_same, DqAll.mono s2.pure _ _ e3⟩
theorem val_at {H : Hp} : ∀ {ps : List (Str × PyData)} {vs : List V} {k : Str} {d : PyData}, DqAll K H vs (ps.map Prod.snd) → ps.lookup k = some d → ∃ v, valV ((ps.map fun p => (Sum.inr p.1 : Key)).zip vs) (Sum.inr k) = some v ∧ Dq K H v d
  | [], _, _, _, _, e => by cases e
  | p :: ps, _, k, d, h, e => by
    cases h with
    | cons h1 h2 =>
      rw [List.map_cons, List.zip_cons_cons]
      by_cases c : p.1 = k
      · subst c
        rw [List.lookup_cons_self] at e
        cases e
        exact ⟨_, valV_pos rfl, h1⟩
      · have c2 : (k == p.1) = false := beq_eq_false_iff_ne.mpr (Ne.symm c)
        rw [List.lookup_cons, c2] at e
        obtain ⟨v, e1, e2⟩ := val_at h2 e
        exact ⟨v, by rw [valV_neg (fun z => c (Sum.inr.inj z))]; exact e1, e2⟩
/-- d[k] -/
theorem dE_dget (h : dE K ta δ M fun x M1 => dE K tb δ M1 fun y M2 => ∃ ps k d, x = .q ps ∧ y = .d (.str k) ∧ ps.lookup k = some d ∧ P (.d d) M2) : dE K (tDGet ta tb) δ M P := fun σ H H1 e w Q q =>
  h σ H H1 e w _ fun v x H' M' H2 hb s1 w1 vx => hb σ H' H2 (e.mono s1.pure) w1 _ fun u y H'' M'' H3 hr s2 w2 vy => by
    obtain ⟨ps, k, d, rfl, rfl, hk, pp⟩ := hr
    obtain ⟨a, vs, rfl, h1, h2⟩ := vx
    cases vy
    obtain ⟨z, e1, e2⟩ := val_at (h2.mono s2.pure) hk
    refine ⟨a, z, rfl, ?_, q _ _ H'' M'' H3 pp (s1.trans w w1 s2) w2 e2⟩
    rw [← e1]
    exact DGet.k (k := Sum.inr k) (w2.ex _ _ (s2.pure _ _ h1))
/-- [e for x, y in xs if t], nothing drawn in it -/
theorem dE_lcL2 {α : Type} {e1 e2 out : α → PyData} {pt : α → Bool} {xs : List α} {i j : Nat} (hij : i ≠ j) (h : dE K tl δ M fun r M1 => r = .d (.list (xs.map fun x => PyData.tuple [e1 x, e2 x])) ∧ M1 = M ∧ xs.length ≤ 40000 ∧
    (∀ x ∈ xs, dT K tt (((wipeD δ [i, j]).set i (some (.d (e1 x)))).set j (some (.d (e2 x)))) M fun b M2 => b = pt x ∧ M2 = M) ∧
    (∀ x ∈ xs, pt x = true → dE K te (((wipeD δ [i, j]).set i (some (.d (e1 x)))).set j (some (.d (e2 x)))) M fun y M2 => y = .d (out x) ∧ M2 = M) ∧ Res P ((xs.filter pt).map out) M) :
    dE K (tLc (iList K tl) (gTup K 2 (gCons (gName i) (gCons (gName j) gNil))) tt te [i, j]) δ M P := by
  refine dE_lcL (gw_name2 2 i j hij) (h.mono fun r M1 hh => ?_)
  obtain ⟨rfl, rfl, hl, ht, he, hr⟩ := hh
  refine ⟨_, rfl, by rw [List.length_map]; exact hl, fun n acc M' => M' = M1 ∧ acc = ((xs.take n).filter pt).map out, ⟨rfl, rfl⟩, fun n d acc M' hx hI => ?_, fun acc M' hI => ?_⟩
  · obtain ⟨rfl, rfl⟩ := hI
    obtain ⟨x, hx1, rfl⟩ := map_at hx
    have hm := List.mem_of_getElem? hx1
    have e : (xs.take (n + 1)).filter pt = (xs.take n).filter pt ++ [x].filter pt := by rw [List.take_succ, hx1, List.filter_append]; rfl
    refine dG_tup rfl (dGs_cons (dG_name (dGs_cons (dG_name (dGs_nil ((ht x hm).mono fun b M3 hb => ?_))))))
    obtain ⟨rfl, rfl⟩ := hb
    refine ifB (fun hp => (he x hm hp).mono fun y M4 hy => ?_) (fun hp => ⟨rfl, ?_⟩)
    · obtain ⟨rfl, rfl⟩ := hy
      refine ⟨_, rfl, rfl, ?_⟩
      rw [e, List.map_append, List.filter_cons, if_pos hp]
      rfl
    · rw [e, List.filter_cons, if_neg (by rw [hp]; decide)]
      simp
  · obtain ⟨rfl, rfl⟩ := hI
    rw [List.length_map, List.take_length]
    exact hr
end
end Sd

/-! Sd: sorted({elt for ..}), elt a number -/
namespace Sd
open PySem PySem.Spec PyProof.Rows L2
/-- a set of ints that is being made -/
def zO (w : World) (D : Addr) (f : Int → Bool) (n : Nat) : HO := .ext fun h => SetR w h D f n
theorem zO_ok {w : World} {P : Program} {H : Hp} {h : Heap} {D : Addr} {f : Int → Bool} {n : Nat} (R : SetR w h D f n) : ObjOk P w H h D (zO w D f n) := by
  have ⟨ob, _, _, _, e, _⟩ := R
  exact ⟨R, ⟨ob, e⟩, fun _ _ p k => SetR.at p k⟩
abbrev zMore (f : Int → Bool) (y : Int) : Int → Bool := fun j => f j || decide (j = y)
abbrev zLen (f : Int → Bool) (n : Nat) (y : Int) : Nat := if f y = true then n else n + 1
section
variable {X : Cx}
theorem zO_add {ps : List (Addr × Obj)} {σ : L2.St} {H : Hp} {s : Shared} {E : Value → Shared → Prop} {D : Addr} {f : Int → Bool} {n : Nat} {y : Int} {t : Tok} {Q : Value → Shared → Prop} (I : Inv X ps σ H s) (hD : H D = some (zO X.w D f n)) (hr : n + 1 < scanBound)
    (k : ∀ s', Inv X ps σ (upd H D (zO X.w D (zMore f y) (zLen f n y))) s' → Q .none s') : wpAny (model X.prog X.w) X.A (call (.builtin "set.add") [.ref D, .int y t]) Q E s := by
  refine setR_add (I.hok D _ hD).1 hr fun h' sb R' => ?_
  have live : ∃ u, h'.get? D = some u := by
    have ⟨ob, _, _, _, e, _⟩ := R'
    exact ⟨ob, e⟩
  exact k _ (I.write (e := D) (t' := s.toks + 1) (by rw [hD]; trivial) (.inl rfl) (fun b u n1 n2 => (sb.2 b n1).trans n2) live (zO_ok R'))
/-- the walk of the comprehension: D the new set -/
def tZc (w : World) (wi : TI) (g : TG) (tt : TT) (te : TE) (vs : List Nat) : TE := fun σ H Q => wi σ H fun J H1 => ∀ D, H1 D = none → ∃ W : Nat → Nat → Hp → Prop, (∃ m, W 0 m (upd H1 D (zO w D (fun _ => false) 0))) ∧ ∀ i m H, W i m H →
  (J.stop i H ∧ Q (.ref D) H) ∨ (J.go i H ∧ ∃ B : Hp → Prop, (∀ H', B H' → ∃ m' < m, W (i + 1) m' H') ∧
    ∀ x H', J.yld i H x H' → g x (wipe σ vs) H' fun σ2 H2 => wipe σ2 vs = wipe σ vs ∧ tt σ2 H2 fun b H3 => if b = true then te σ2 H3 fun y H4 => ∃ (c : Int) (f : Int → Bool) (n : Nat), y = .int c ∧ H4 D = some (zO w D f n) ∧ n + 1 < scanBound ∧ B (upd H4 D (zO w D (zMore f c) (zLen f n c))) else B H3)
theorem pe_zc {elt tg iter : Expr} {ifs : List Expr} {scope : Scope} {own : List (PySem.Str × Nat)} {pos : Pos} {wi : TI} {g : TG} {tt : TT} {te : TE} {w : World} (hw : X.w = w) (hc : X.calm = true) (hN : X.N.Nodup) (hi : PI X tg iter wi) (ok : BlkOk X.N X.env.scope scope own)
    (hg : ∀ s H C cl fp, PG (X.blk s H scope (compEnvC scope cl C X.env) fp) tg g) (ht : ∀ s H C cl fp, PTs (X.blk s H scope (compEnvC scope cl C X.env) fp) ifs tt)
    (he : ∀ s H C cl fp, PE (X.blk s H scope (compEnvC scope cl C X.env) fp) elt te) (hs : ∀ x, foldedSetIterable iter X.env x = pure x := by intro _; rfl) :
    PE X (.SetComp elt [⟨tg, iter, ifs, 0⟩] scope pos) (tZc w wi g tt te (own.map (·.2))) := by
  subst hw
  refine ⟨fun ps s σ H Q I h => ?_⟩
  rw [PpSet.eval_SetComp]
  have fr : ∀ y ∈ scope.names, y.2 = .free → ∃ c, X.env.cells.lookup y.1 = some c := fun y hy e => (ok.free y hy e).elim (fun k => I.ok.has _ (.inl k)) fun k => I.ok.has _ (.inr k)
  refine wpAny_comprehension_free (use := none) rfl hs (closure_ok fr) ok.kind (fun y hy e => by rw [ok.uniq y hy, e])
    (thn (hi.run ps s σ H _ I h) fun xv s1 hx => thn hx fun itv s2 z2 => ?_)
  obtain ⟨it, fp, tn, J, H2, ee, I2, T, st2, f2, q⟩ := z2
  subst ee
  refine PpSet.newSet_ok (newEnv_comp ?_)
  generalize eD : s2.heap.objs.size = D
  have nD : H2 D = none := I2.hok.fresh (Nat.le_of_eq eD)
  obtain ⟨W, ⟨m0, w0⟩, turn⟩ := q D nD
  generalize eO : ({ cls := .type "set", dict := none, data := .set #[] 0 (.fresh 0 0 (!X.w.params.followText "set-order")) } : Obj) = ob
  generalize e3 : ({ s2 with heap := s2.heap.push ob } : Shared) = s3
  have I3 : Inv X ps σ (upd H2 D (zO X.w D (fun _ => false) 0)) s3 := by
    rw [← e3]
    refine I2.laid (t' := s2.toks) (fun b o e => Heap.get?_push_of_some _ e) (Nat.le_of_eq eD) ?_
    rw [← eD, ← eO]
    exact zO_ok (setR_fresh X.w)
  have hp3 : s3.heap = s2.heap.push ob := by rw [← e3]
  have f3 : ∀ b ∈ fp, FpOk X ps (upd H2 D (zO X.w D (fun _ => false) 0)) b ∧ b < s3.heap.objs.size := fun b hb => by
    have lt := let ⟨_, e, _⟩ := T.obj _ _ st2 b hb; Heap.lt_size e
    refine ⟨⟨?_, (f2 b hb).2⟩, by rw [hp3, Heap.size_push]; exact Nat.lt_succ_of_lt lt⟩
    rw [upd_ne (by rw [← eD]; exact Nat.ne_of_lt lt)]
    exact (f2 b hb).1
  have st3 : tn 0 s3.heap := T.keep _ _ _ st2 fun b _ o e => by rw [hp3]; exact Heap.get?_push_of_some _ e
  have I4 := block_start (fp := fp) I3 ok hN f3
  generalize eH : upd H2 D (zO X.w D (fun _ => false) 0) = H3 at I3 I4 w0 f3
  have pg := hg s3 H3 s3.heap.objs.size (cellsFrom (s3.heap.objs.size + 1) scope.names (cloFrom X.env.cells scope.names [])) fp
  have pt := ht s3 H3 s3.heap.objs.size (cellsFrom (s3.heap.objs.size + 1) scope.names (cloFrom X.env.cells scope.names [])) fp
  have pe := he s3 H3 s3.heap.objs.size (cellsFrom (s3.heap.objs.size + 1) scope.names (cloFrom X.env.cells scope.names [])) fp
  show codeAny _ _ (.compStart (.SetComp elt [⟨tg, iter, ifs, 0⟩] scope pos) 0 (.ref it) (.ref D) (compEnvC scope (cellsFrom (s3.heap.objs.size + 1) scope.names (cloFrom X.env.cells scope.names [])) s3.heap.objs.size X.env))
    (compPost (model X.prog X.w) X.A X.xe none _ (.ref D) s3.heap.objs.size) { s3 with heap := pushCells (s3.heap.push { cls := .type "dict", data := .dict #[] }) scope.names }
  have nf : ∀ b ∈ fp, H3 b = none := fun b hb => (f3 b hb).1.1
  generalize eC : compEnvC scope (cellsFrom (s3.heap.objs.size + 1) scope.names (cloFrom X.env.cells scope.names [])) s3.heap.objs.size X.env = ce at I4 pg pt pe ⊢
  have lC : ce.locals = s3.heap.objs.size := by rw [← eC]; rfl
  generalize e4 : ({ s3 with heap := pushCells (s3.heap.push { cls := .type "dict", data := .dict #[] }) scope.names } : Shared) = s4 at I4 ⊢
  have st4 : tn 0 s4.heap := T.keep _ _ _ st3 fun b _ o e => by rw [← e4]; exact pushCells_keeps _ _ _ _ (Heap.get?_push_of_some _ e)
  have fk : ∀ {σ' : L2.St} {H' : Hp} {s' : Shared}, Inv (X.blk s3 H3 scope ce fp) [] σ' H' s' → (∀ b ∈ fp, H' b = none) → ∀ b ∈ fp, FpOk (X.blk s3 H3 scope ce fp) [] H' b := fun {σ' H' s'} J' hn b hb =>
    ⟨hn b hb, (J'.ok.exf b hb).1, J'.ok.exfs b hb, .inl hb, (J'.ok.exf b hb).2, fun p hp => by cases (show p ∈ ([] : List (Addr × Obj)) from hp)⟩
  refine (fun lp => PpSet.codeAny_compStart_set lp (T.self X.A 0 _ _ _ st4 lp)) ?_
  refine PpSet.compLoopS_any (fun n s' => ∃ i H', Inv (X.blk s3 H3 scope ce fp) [] (wipe σ (own.map (·.2))) H' s' ∧ tn i s'.heap ∧ (∀ b ∈ fp, H' b = none) ∧ W i n H') ?_ m0 ⟨0, H3, I4, st4, nf, w0⟩
  rintro n s5 ⟨i, H5, I5, a5, n5, w5⟩
  rcases turn i n H5 w5 with ⟨stop, qq⟩ | ⟨go, B, hB, step⟩
  · refine thnF (T.done (X.blk s3 H3 scope ce fp) rfl rfl rfl hc i [] s5 _ H5 (fun _ _ => False) I5 (fk I5 n5) a5 stop) fun r s6 ⟨hr, I6⟩ => ?_
    subst hr
    have I7 : Inv X ps σ H5 s6 := I3.call' (ch := fp) I6.os I6.base I6.hok I6.bare fun b hb =>
      let z := (f3 b hb).1.2
      ⟨z.2.2.1, z.1, z.2.2.2.1, z.2.2.2.2⟩
    have nC : H5 s3.heap.objs.size = none := lC ▸ (show H5 ce.locals = none from I6.free)
    obtain ⟨m, hn, _⟩ := I6.loc
    have hn : s6.heap.Ns s3.heap.objs.size m := lC ▸ (show s6.heap.Ns ce.locals m from hn)
    refine ⟨m, hn, fun h'' sb => ?_⟩
    obtain ⟨f0, f1, _, f3, f4, f5⟩ := I3.fpOk (Nat.le_refl _) nC
    exact ⟨.ref D, H5, I7.turned (t' := s6.toks) (fun b o nb e => (sb.2 b nb).trans e) f0 f1 f3 f4 f5, rfl, qq⟩
  · refine thnF (T.item (X.blk s3 H3 scope ce fp) rfl rfl rfl hc i [] s5 _ H5 (fun _ _ => False) I5 (fk I5 n5) a5 go) fun r s6 ⟨u, hr, h6⟩ => ?_
    subst hr
    refine thnF h6 fun _ s7 ⟨x, H7, I7, r7, y7, a7, n7⟩ => ?_
    refine thnF (pg.run _ s7 _ H7 x u _ (I7.pinned (fk I7 n7) (T.obj _ _ a7)) r7 (step x H7 y7)) fun _ s8 ⟨σ8, H8, I8, v8, q8⟩ => ?_
    refine thnF (pt.run _ s8 σ8 H8 _ I8 q8) fun yes s9 ⟨H9, I9, q9⟩ => ?_
    have fin : ∀ {s' : Shared} {H' : Hp}, Inv (X.blk s3 H3 scope ce fp) ([] ++ pinsAt fp s7.heap) σ8 H' s' → B H' →
        ∃ m, m < n ∧ ∃ i H', Inv (X.blk s3 H3 scope ce fp) [] (wipe σ (own.map (·.2))) H' s' ∧ tn i s'.heap ∧ (∀ b ∈ fp, H' b = none) ∧ W i m H' := fun {s' H'} J' nx => by
      obtain ⟨m', lt, w'⟩ := hB H' nx
      have pin' : ∀ b ∈ fp, ∀ ob, s7.heap.get? b = some ob → s'.heap.get? b = some ob ∧ H' b = none := fun b hb o e =>
        have z := J'.pin (b, o) (List.mem_append_right _ (List.mem_append_right _ (mem_pinsAt hb e)))
        ⟨z.1, z.2.1⟩
      refine ⟨m', lt, i + 1, H', (J'.unpinned (pins := [])).weak (by rw [← v8, wipe_length]) (fun j v e => ?_), T.keep _ _ _ a7 fun b hb o e => (pin' b hb o e).1, fun b hb => ?_, w'⟩
      · exact (wipe_some (v8 ▸ e)).1
      · have ⟨_, e, _⟩ := T.obj _ _ a7 b hb
        exact (pin' b hb _ e).2
    cases yes
    · rw [if_neg Bool.false_ne_true] at q9 ⊢
      exact fin I9 q9
    · rw [if_pos rfl] at q9 ⊢
      refine thnF (pe.run _ s9 σ8 H9 _ I9 q9) fun z s10 ⟨yv, H10, I10, r10, c, f0, n0, ey, d10, z10, nx⟩ => ?_
      subst ey
      obtain ⟨tk, r10⟩ := (show ∃ t, z = Value.int c t from r10)
      subst r10
      exact zO_add (X := X.blk s3 H3 scope ce fp) I10 d10 z10 fun s11 I11 => fin I11 nx
/-- sorted(such a set) -/
def rSrtZ (w : World) : List V → Hp → VK → Prop := fun xs H Q => ∃ (a : Addr) (f : Int → Bool) (n : Nat), xs = [.ref a] ∧ H a = some (zO w a f n) ∧ n < 64 ∧
  ∀ ns : List Int, ns.Pairwise (· < ·) → (∀ k, k ∈ ns ↔ f k = true) → ∀ p, H p = none → Q (.ref p) (upd H p (.lst (ns.map V.int)))
theorem cr_srtZ {w : World} (hc : X.calm = true) (hw : X.w = w) : CallR X (.builtin "sorted") (rSrtZ w) := by
  subst hw
  intro ps s σ H xs us Q I r h
  obtain ⟨a, f, n, rfl, hd, h64, q⟩ := h
  rw [Vals.ref1 r]
  refine sorted_set (I.hok a _ hd).1 (I.ok.hd hc) h64 fun s' p out c ns kk gg oo hp hat hi pw mem hl => ?_
  have np : H p = none := I.hok.fresh hp
  have hz : (ns.map V.int).length ≤ sizeLine := by rw [List.length_map, hl]; exact small64 h64
  have J : Inv X ps σ (upd H p (.lst (ns.map V.int))) { s with heap := s'.heap, gens := s'.gens, drawn := s'.drawn, toks := s'.toks } :=
    I.call (ch := []) (Un.laid kk hp np) (I.hok.laid kk hp ⟨hz, out.toList, c, vals_of_ints hi, hat⟩) (by rw [gg]; exact I.bare) (fun _ z => nomatch z)
  rw [show s' = { s with heap := s'.heap, gens := s'.gens, drawn := s'.drawn, toks := s'.toks } by cases s'; cases s; cases oo; rfl]
  exact ⟨.ref p, _, J, rfl, q ns pw mem p np⟩
end
end Sd

namespace Sd
open PySem L2
section
variable {K : PySem.W.Frag} {δ : DSt} {M : Mem} {P : SV → Mem → Prop} {te tl : TE} {g : TG} {w0 : World}
def ZcW (K : PySem.W.Frag) (w0 : World) (H H1 : Hp) (M : Mem) (D : Addr) (I : List Int → Mem → Prop) (n : Nat) (H2 : Hp) : Prop :=
  ∃ f k acc M' H', I acc M' ∧ k ≤ n ∧ Step H H1 M H' H2 M' ∧ WOk K H' M' H2 ∧ H2 D = some (zO w0 D f k) ∧ (∀ j, f j = true ↔ j ∈ acc) ∧ H' D = none ∧ M' D = none
theorem zcw_start {H H1 : Hp} {D : Addr} {I : List Int → Mem → Prop} (w : WOk K H M H1) (hD : H1 D = none) (i0 : I [] M) : ZcW K w0 H H1 M D I 0 (upd H1 D (zO w0 D (fun _ => false) 0)) := by
  have hH : H D = none := by
    cases q : H D with
    | none => rfl
    | some u => rw [w.ex D u q] at hD; cases hD
  have hm : M D = none := by
    cases q : M D with
    | none => rfl
    | some ds => obtain ⟨_, vs, h2, _⟩ := w.cell D ds q; rw [h2] at hD; cases hD
  refine ⟨_, 0, [], M, H, i0, Nat.le_refl _, ⟨Ex.refl _, fun a o h1 _ => ?_, fun a h1 h2 _ => ⟨h1, h2⟩⟩, ⟨fun a o h => ?_, fun a ds h => ?_⟩, upd_same, fun j => by simp, hH, hm⟩
  · rw [upd_ne (ne_of_none h1 hD)]; exact h1
  · rw [upd_ne (ne_of_none h hH)]; exact w.ex a o h
  · obtain ⟨h1, vs, h2, h3⟩ := w.cell a ds h
    exact ⟨h1, vs, by rw [upd_ne (ne_of_none h2 hD)]; exact h2, h3⟩
theorem nt_zO {w0 : World} {D : Addr} {f : Int → Bool} {k : Nat} : NT (some (zO w0 D f k)) := ⟨by simp, fun ys e => by cases Option.some.inj e⟩
theorem zcw_turn {H H1 H2 : Hp} {D : Addr} {I I' : List Int → Mem → Prop} {n : Nat} {vs : List Nat} {x : SV} {v : V} {σ : St} (hg : GW g vs) (hn : n < 1000) (w : WOk K H M H1) (e : EnvOk K H σ δ) (hD : H1 D = none) (p : ZcW K w0 H H1 M D I n H2)
    (vv : ∀ H', Ex H H' → SVOk K H' v x)
    (h : ∀ acc M', I acc M' → dG K g x (wipeD δ vs) M' fun δ2 M2 => dE K te δ2 M2 fun y M4 => ∃ k, y = .d (.int k) ∧ I' (acc ++ [k]) M4) :
    g v (wipe σ vs) H2 fun σ2 H3 => wipe σ2 vs = wipe σ vs ∧ tYes σ2 H3 fun b H4 => if b = true then te σ2 H4 fun y H5 => ∃ (c : Int) (f : Int → Bool) (m : Nat), y = .int c ∧ H5 D = some (zO w0 D f m) ∧ m + 1 < scanBound ∧ ZcW K w0 H H1 M D I' (n + 1) (upd H5 D (zO w0 D (zMore f c) (zLen f m c))) else ZcW K w0 H H1 M D I' (n + 1) H4 := by
  obtain ⟨f, k, acc, M', H', pi, hl, s, w', hDl, hacc, f1, f2⟩ := p
  refine hg v σ H2 _ ?_
  refine h acc M' pi v _ H' H2 ((e.mono s.pure).wipe vs) w' (vv H' s.pure) _ fun δ2 M2 σ2 Ha H3 ht s2 e2 w2 => ?_
  have k2 := s2.keep D _ hDl f2
  have n2 := s2.new D f1 f2 (by rw [hDl]; exact nt_zO)
  unfold tYes
  dsimp only
  rw [if_pos rfl]
  refine ht σ2 Ha H3 e2 w2 _ fun y r Hc M4 H5 hy s4 w4 vy => ?_
  have k4 := s4.keep D _ k2 n2.2
  have n4 := s4.new D n2.1 n2.2 (by rw [k2]; exact nt_zO)
  obtain ⟨c, rfl, hI⟩ := hy
  cases vy
  have st := (s.trans w w' s2).trans w w2 s4
  refine ⟨c, f, k, rfl, k4, by unfold scanBound; omega, zMore f c, zLen f k c, acc ++ [c], M4, Hc, hI, ?_, ⟨st.pure, fun a o h1 h2 => ?_, st.new⟩, ⟨fun a o h1 => ?_, fun a es h1 => ?_⟩, upd_same, fun j => ?_, n4.1, n4.2⟩
  · unfold zLen; split <;> omega
  · rw [upd_ne (ne_of_none h1 hD)]; exact st.keep a o h1 h2
  · rw [upd_ne (ne_of_none h1 n4.1)]; exact w4.ex a o h1
  · have e : a ≠ D := by rintro rfl; rw [n4.2] at h1; cases h1
    obtain ⟨q1, us, q2, q3⟩ := w4.cell a es h1
    exact ⟨q1, us, by rw [upd_ne e]; exact q2, q3⟩
  · show (f j || decide (j = c)) = true ↔ _
    rw [Bool.or_eq_true, hacc j, List.mem_append, List.mem_singleton, decide_eq_true_iff]
/-- sorted({e for t in xs}), xs a list -/
theorem dE_srtZ {vs : List Nat} (hg : GW g vs) (h : dE K tl δ M fun r M1 => ∃ ds, r = .d (.list ds) ∧ ds.length < 64 ∧ ∃ I : Nat → List Int → Mem → Prop, I 0 [] M1 ∧
      (∀ (i : Nat) x acc M', ds[i]? = some x → I i acc M' → dG K g (.d x) (wipeD δ vs) M' fun δ2 M2 => dE K te δ2 M2 fun y M4 => ∃ k, y = .d (.int k) ∧ I (i + 1) (acc ++ [k]) M4) ∧
      ∀ acc M', I ds.length acc M' → ∀ ns : List Int, ns.Pairwise (· < ·) → (∀ k, k ∈ ns ↔ k ∈ acc) → P (.d (.list (ns.map .int))) M') :
    dE K (tCB (rSrtZ w0) (tCons (tZc w0 (iList K tl) g tYes te vs) tNil)) δ M P := fun σ H H1 e w Q q =>
  h σ H H1 e w _ fun v r H' M' H2 hb s w' vv => by
    obtain ⟨ds, rfl, hz, I, i0, it, ie⟩ := hb
    cases vv with
    | lst h1 h2 =>
      rename_i a xs
      have hxl := h2.length
      refine ⟨a, rfl, ⟨xs, SqL.of (w'.ex _ _ h1)⟩, fun D hD => ⟨fun i m H3 => m = xs.length - i ∧ i ≤ xs.length ∧ ZcW K w0 H' H2 M' D (I i) i H3, ⟨_, rfl, Nat.zero_le _, zcw_start w' hD i0⟩, ?_⟩⟩
      rintro i m H3 ⟨rfl, hi, p⟩
      have sq : H3 a = some (.lst xs) := by
        obtain ⟨_, _, _, _, _, _, _, s3, w3, _⟩ := p
        exact w3.ex _ _ (s3.pure _ _ h1)
      by_cases hlt : i < xs.length
      · refine .inr ⟨⟨xs, xs[i], SqL.of sq, by simp [hlt]⟩, fun H4 => ZcW K w0 H' H2 M' D (I (i + 1)) (i + 1) H4, fun H4 p4 => ⟨xs.length - (i + 1), by omega, rfl, hlt, p4⟩, fun x H4 y => ?_⟩
        obtain ⟨rfl, y⟩ := y
        have hx := y xs (SqL.of sq)
        obtain ⟨d, hd, vd⟩ := h2.get hx
        exact zcw_turn (x := .d d) hg (by omega) w' (e.mono s.pure) hD p (fun H' ex => Dq.mono ex _ _ vd) (fun acc M' hI => it i d acc M' hd hI)
      · have ei : i = xs.length := by omega
        refine .inl ⟨⟨xs, SqL.of sq, by omega⟩, ?_⟩
        rw [ei, hxl] at p
        obtain ⟨f, k, acc, M3, H5, pi, hl, s3, w3, hDl, hacc, f1, f2⟩ := p
        refine ⟨D, f, k, rfl, hDl, by omega, fun ns pw mem l hl => ?_⟩
        obtain ⟨w4, s4⟩ := laid_ok (o := .lst (ns.map V.int)) w3 hl
        exact q _ _ _ M3 _ (ie acc M3 pi ns pw fun k => (mem k).trans (hacc k)) ((s.trans w w' s3).trans w w3 s4) w4 (.lst upd_same (DqAll.ofInts ns))
end
end Sd

/-! Sd: [e for x in xs for y in ys if t] -/
namespace Sd
open PySem L2
section
variable {K : PySem.W.Frag} {δ : DSt} {M : Mem} {P : SV → Mem → Prop} {te tl : TE} {tt : TT}
theorem LcW.weak {H H1 H2 : Hp} {D : Addr} {I I' : List PyData → Mem → Prop} {n n' : Nat} (p : LcW K H H1 M D I n H2) (hn : n ≤ n') (h : ∀ ac M', I ac M' → I' ac M') : LcW K H H1 M D I' n' H2 := by
  obtain ⟨acc, ds, M', H', pi, hl, rest⟩ := p
  exact ⟨acc, ds, M', H', h _ _ pi, Nat.le_trans hl hn, rest⟩
theorem LcW.at {H H1 H2 : Hp} {D a : Addr} {I : List PyData → Mem → Prop} {n : Nat} {o : HO} (p : LcW K H H1 M D I n H2) (h : H a = some o) : H2 a = some o := by
  obtain ⟨_, _, _, _, _, _, s3, w3, _⟩ := p
  exact w3.ex _ _ (s3.pure _ _ h)
theorem dE_lc2 {α β : Type} {e1 : α → PyData} {e2 : β → PyData} {out : α → β → PyData} {pt : α → β → Bool} {xs : List α} {ys : List β} {i j k : Nat} (hij : i ≠ j) (hki : k ≠ i) (hkj : k ≠ j) (hk : δ[k]? = some (some (.d (.list (ys.map e2))))) (hly : ys.length ≤ 100)
    (h : dE K tl δ M fun r M1 => r = .d (.list (xs.map e1)) ∧ M1 = M ∧ xs.length ≤ 100 ∧
      (∀ x ∈ xs, ∀ y ∈ ys, dT K tt ((wipeD ((wipeD δ [i, j]).set i (some (.d (e1 x)))) [j]).set j (some (.d (e2 y)))) M fun b M2 => b = pt x y ∧ M2 = M) ∧
      (∀ x ∈ xs, ∀ y ∈ ys, pt x y = true → dE K te ((wipeD ((wipeD δ [i, j]).set i (some (.d (e1 x)))) [j]).set j (some (.d (e2 y)))) M fun r M2 => r = .d (out x y) ∧ M2 = M) ∧
      Res P (xs.flatMap fun x => (ys.filter (pt x)).map (out x)) M) :
    dE K (tLc2 (iList K tl) (gName i) tYes (iList K (tVar k)) (gName j) tt te [i, j] [j]) δ M P := fun σ H H1 e w Q q =>
  h σ H H1 e w _ fun v r H' M' H2 hb s w' vv => by
    obtain ⟨rfl, rfl, hlx, ht, he, hres⟩ := hb
    have e' := e.mono s.pure
    obtain ⟨vk, hk1, hk2⟩ := e'.at' k _ hk
    cases vv with
    | lst h1 h2 =>
      rename_i a vx
      cases hk2 with
      | lst g1 g2 =>
        rename_i b vy
        have lx : vx.length = xs.length := by rw [h2.length, List.length_map]
        have ly : vy.length = ys.length := by rw [g2.length, List.length_map]
        refine ⟨a, rfl, ⟨vx, SqL.of (w'.ex _ _ h1)⟩, fun D hD => ⟨fun n m H3 => m = vx.length - n ∧ n ≤ vx.length ∧ LcW K H' H2 M' D (fun ac M2 => ac = ((xs.take n).flatMap fun x => (ys.filter (pt x)).map (out x)) ∧ M2 = M') (n * 100) H3, ⟨_, rfl, Nat.zero_le _, lcw_start w' hD ⟨rfl, rfl⟩⟩, ?_⟩⟩
        rintro n m H3 ⟨rfl, hn, p⟩
        have sq : H3 a = some (.lst vx) := p.at h1
        by_cases hlt : n < vx.length
        · refine .inr ⟨⟨vx, vx[n], SqL.of sq, by simp [hlt]⟩, fun H4 => LcW K H' H2 M' D (fun ac M2 => ac = ((xs.take (n + 1)).flatMap fun x => (ys.filter (pt x)).map (out x)) ∧ M2 = M') ((n + 1) * 100) H4, fun H4 p4 => ⟨vx.length - (n + 1), by omega, rfl, hlt, p4⟩, fun v H4 y => ?_⟩
          obtain ⟨rfl, y⟩ := y
          obtain ⟨d, hd, vd⟩ := h2.get (y vx (SqL.of sq))
          obtain ⟨x, hx1, rfl⟩ := map_at hd
          have hxm := List.mem_of_getElem? hx1
          have hpre : ((xs.take (n + 1)).flatMap fun x => (ys.filter (pt x)).map (out x)) = ((xs.take n).flatMap fun x => (ys.filter (pt x)).map (out x)) ++ (ys.filter (pt x)).map (out x) := by
            rw [List.take_succ, hx1, List.flatMap_append]
            show _ ++ List.flatMap _ [x] = _
            rw [List.flatMap_cons, List.flatMap_nil, List.append_nil]
          refine ⟨?_, ?_⟩
          · show ((((σ.set j none).set i none).set i (some v)).set j none).set i none = (σ.set j none).set i none
            rw [List.set_set, List.set_comm _ _ hij, List.set_set, List.set_set]
          · unfold tYes
            dsimp only
            rw [if_pos rfl]
            have env2 : EnvOk K H' ((wipe σ [i, j]).set i (some v)) ((wipeD δ [i, j]).set i (some (.d (e1 x)))) := (e'.wipe [i, j]).set i vd
            refine ⟨.ref b, ?_, b, rfl, ⟨vy, SqL.of (p.at g1)⟩, fun l u H5 => u = vy.length - l ∧ l ≤ vy.length ∧ LcW K H' H2 M' D (fun ac M2 => ac = ((xs.take n).flatMap fun x => (ys.filter (pt x)).map (out x)) ++ ((ys.take l).filter (pt x)).map (out x) ∧ M2 = M') (n * 100 + l) H5, ⟨_, rfl, Nat.zero_le _, p.weak (Nat.le_refl _) fun ac M2 hI => ⟨by rw [hI.1]; simp, hI.2⟩⟩, ?_⟩
            · show ((((σ.set j none).set i none)).set i (some v))[k]? = _
              rw [List.getElem?_set_ne (Ne.symm hki), List.getElem?_set_ne (Ne.symm hki), List.getElem?_set_ne (Ne.symm hkj)]
              exact hk1
            rintro l u H5 ⟨rfl, hl, p5⟩
            have sq5 : H5 b = some (.lst vy) := p5.at g1
            by_cases hlt2 : l < vy.length
            · refine .inr ⟨⟨vy, vy[l], SqL.of sq5, by simp [hlt2]⟩, fun H6 => LcW K H' H2 M' D (fun ac M2 => ac = ((xs.take n).flatMap fun x => (ys.filter (pt x)).map (out x)) ++ ((ys.take (l + 1)).filter (pt x)).map (out x) ∧ M2 = M') (n * 100 + l + 1) H6, fun H6 p6 => ⟨vy.length - (l + 1), by omega, rfl, hlt2, p6⟩, fun v2 H6 y2 => ?_⟩
              obtain ⟨rfl, y2⟩ := y2
              obtain ⟨d2, hd2, vd2⟩ := g2.get (y2 vy (SqL.of sq5))
              obtain ⟨yy, hy1, rfl⟩ := map_at hd2
              have hym := List.mem_of_getElem? hy1
              have hpre2 : (ys.take (l + 1)).filter (pt x) = (ys.take l).filter (pt x) ++ [yy].filter (pt x) := by rw [List.take_succ, hy1, List.filter_append]; rfl
              refine lcw_turn (x := .d (e2 yy)) (gw_name j) (by omega) w' env2 hD p5 (fun H' ex => Dq.mono ex _ _ vd2) (fun ac M2 hI => ?_)
              obtain ⟨rfl, rfl⟩ := hI
              refine dG_name ((ht x hxm yy hym).mono fun bo M3 hb => ?_)
              obtain ⟨rfl, rfl⟩ := hb
              refine ifB (fun hy => (he x hxm yy hym hy).mono fun z M4 hz => ?_) (fun hy => ⟨?_, rfl⟩)
              · obtain ⟨rfl, rfl⟩ := hz
                refine ⟨_, rfl, ?_, rfl⟩
                rw [hpre2, List.map_append, List.filter_cons, if_pos hy, List.append_assoc]
                rfl
              · rw [hpre2, List.filter_cons, if_neg (by rw [hy]; decide)]
                simp
            · refine .inl ⟨⟨vy, SqL.of sq5, by omega⟩, p5.weak (by omega) fun ac M2 hI => ⟨?_, hI.2⟩⟩
              have el : l = ys.length := by omega
              rw [hI.1, el, List.take_length, hpre]
        · refine .inl ⟨⟨vx, SqL.of sq, by omega⟩, lcw_end w' hD p (fun ac M2 hI => ?_) fun v r Ha Ma Hb pp s3 w3 vr => q v r Ha Ma Hb pp (s.trans w w' s3) w3 vr⟩
          obtain ⟨rfl, rfl⟩ := hI
          rw [show n = xs.length by omega, List.take_length]
          exact hres
end
end Sd

/-! Sd: any(xs), x in xs -/
namespace Sd
open PySem L2
section
variable {X : Cx}
theorem kcr_any (K : PySem.W.Frag) (hc : X.calm = true := by rfl) (h : X.K = K := by rfl) : CallR X (.builtin "any") (rAny K) := h ▸ cr_any hc
theorem kop_inD (K : PySem.W.Frag) {k : Nat} (hr : Room k X.A) (h : X.K = K := by rfl) : OpR X (compareOp .In) (rInD K) := h ▸ op_inD (by have := hr.un; omega)
theorem kop_notInD (K : PySem.W.Frag) {k : Nat} (hr : Room k X.A) (h : X.K = K := by rfl) : OpR X (compareOp .NotIn) (rNotInD K) := h ▸ op_notInD (by have := hr.un; omega)
end
section
variable {K : PySem.W.Frag} {δ : DSt} {M : Mem} {P : SV → Mem → Prop}
theorem truths_of {H : Hp} : ∀ {vs : List V} {bs : List Bool}, DqAll K H vs (bs.map .bool) → vs = bs.map V.bl
  | _, [], h => by cases h; rfl
  | _, b :: bs, h => by
    cases h with
    | cons h1 h2 => cases h1; rw [truths_of h2]; rfl
theorem dC_any {x : SV} {bs : List Bool} (s : SeqL M x (bs.map .bool)) (p : P (.d (.bool (bs.any id))) M) : dC K (rAny K) [x] M P := fun vs H H1 hv wk Q q => by
  cases hv with
  | cons h t =>
    cases t
    obtain ⟨a, vs, rfl, h1, h2⟩ := s.sq wk h
    rw [truths_of h2] at h1
    exact ⟨a, bs, rfl, SqL.of h1, q _ _ H M H1 p Step.refl wk (.bl _)⟩
theorem dR_inD {x y : SV} {d : PyData} {ds : List PyData} (hx : AsD M x d) (hy : AsD M y (.list ds)) (s1 : SeqAt.shaped d = true) (s2 : SeqAt.shaped (.list ds) = true) (p : P (.d (.bool (ds.any fun z => PyData.eqv z d))) M) : dR K (rInD K) x y M P := fun v w H H1 hv hw wk Q q =>
  ⟨d, ds, hx.dp wk hv, hy.dp wk hw, s1, s2, q _ _ H M H1 p Step.refl wk (.bl _)⟩
theorem dR_notInD {x y : SV} {d : PyData} {ds : List PyData} (hx : AsD M x d) (hy : AsD M y (.list ds)) (s1 : SeqAt.shaped d = true) (s2 : SeqAt.shaped (.list ds) = true) (p : P (.d (.bool (!ds.any fun z => PyData.eqv z d))) M) : dR K (rNotInD K) x y M P := fun v w H H1 hv hw wk Q q =>
  ⟨d, ds, hx.dp wk hv, hy.dp wk hw, s1, s2, q _ _ H M H1 p Step.refl wk (.bl _)⟩
end
end Sd

/-! Sd: for i, x in enumerate(xs); (a, *t) -/
namespace Sd
open PySem L2 StX
section
variable {X : Cx}
theorem kpi_enum (K : PySem.W.Frag) {e : Expr} {ta : TA} {p pos tpos : Pos} {elts : List Expr} {kk : Nat} (hg : Gl X "enumerate") (hm : X.mg "enumerate" = none) (ha : PA X [e] ta) (h : X.K = K := by rfl) (hs : starEach [e] X.env = [(false, eval e X.env)] := by rfl) :
    PI X (.Tuple elts kk tpos) (.Call (.Name "enumerate" p) [e] [] pos) (iEnum K ta) := h ▸ pi_enum hg hm ha hs
theorem kpa_star (K : PySem.W.Frag) {e : Expr} {es : List Expr} {te : TE} {t : TA} {p : Pos} (he : PE X e te) (hr : PA X es t) (h : X.K = K := by rfl) (hs : starEach (.Starred e p :: es) X.env = (true, eval e X.env) :: starEach es X.env := by rfl) : PA X (.Starred e p :: es) (tStar K te t) := h ▸ pa_star he hr hs
end
section
variable {K : PySem.W.Frag} {δ : DSt} {M : Mem} {P : SV → Mem → Prop} {PA : List SV → Mem → Prop} {ta te : TE} {tr : TA} {g : TG} {t : TS} {D : DEnds}
theorem dA_star (h : dE K te δ M fun x M1 => ∃ ds, Seq M1 x ds ∧ dA K tr δ M1 fun xs M2 => PA (ds.map SV.d ++ xs) M2) : dA K (tStar K te tr) δ M PA := fun σ H H1 e w Q q =>
  h σ H H1 e w _ fun v x H' M' H2 hb s1 w1 vx => by
    obtain ⟨ds, sq, hr⟩ := hb
    obtain ⟨a, vs, rfl, h1, h2⟩ := sq.sq w1 vx
    refine ⟨a, vs, rfl, h1.symm.imp id SqL.of, hr σ H' H2 (e.mono s1.pure) w1 _ fun us xs H'' M'' H3 p s2 w2 vxs => ?_⟩
    refine q _ _ H'' M'' H3 p (s1.trans w w1 s2) w2 ?_
    have : ∀ {vs : List V} {ds : List PyData}, DqAll K H'' vs ds → SVsOk K H'' (vs ++ us) (ds.map SV.d ++ xs) := fun {vs ds} => by
      induction ds generalizing vs with
      | nil => intro h; cases h; exact vxs
      | cons d ds ih =>
        intro h
        cases h with
        | cons k1 k2 => exact .cons k1 (ih k2)
    exact this (h2.mono s2.pure)
theorem dS_forE {ts : TA} (h : dA K ts δ M fun rs M1 => ∃ ds, rs = [.d (.list ds)] ∧ ∃ I : Nat → DSt → Mem → Prop, I 0 δ M1 ∧
      (∀ (i : Nat) x δ' M', ds[i]? = some x → I i δ' M' → dG K g (.d (.tuple [.int (i : Nat), x])) δ' M' fun δ2 M2 => dS K t { D with nx := I (i + 1), ct := I (i + 1), bk := D.nx } δ2 M2) ∧ ∀ δ' M', I ds.length δ' M' → D.nx δ' M') :
    dS K (tFor (iEnum K ts) g t) D δ M := fun D' σ H H1 e w o =>
  h σ H H1 e w _ fun vs rs H' M' H2 hb s w' vv => by
    obtain ⟨ds, rfl, I, i0, it, ie⟩ := hb
    cases vv with
    | cons hv ht =>
      cases ht
      cases hv with
      | lst h1 h2 =>
        rename_i a xs
        have hl := h2.length
        refine ⟨a, xs, rfl, SqL.of (w'.ex _ _ h1), fun i m σ' H3 => m = xs.length - i ∧ i ≤ xs.length ∧ ∃ δ' M2 Ha, I i δ' M2 ∧ Step H H1 M Ha H3 M2 ∧ EnvOk K Ha σ' δ' ∧ WOk K Ha M2 H3 ∧ Ex H' Ha, ⟨_, rfl, Nat.zero_le _, δ, M', H', i0, s, e.mono s.pure, w', Ex.refl _⟩, ?_⟩
        rintro i m σ' H3 ⟨rfl, hi, δ', M2, Ha, p, s2, e2, w2, ex⟩
        have sq : SqL K H3 a xs := SqL.of (w2.ex _ _ (ex _ _ h1))
        by_cases hlt : i < xs.length
        · refine .inr ⟨⟨xs, xs[i], sq, by simp [hlt]⟩, fun σ4 H4 => ∃ δ' M2 Ha, I (i + 1) δ' M2 ∧ Step H H1 M Ha H4 M2 ∧ EnvOk K Ha σ4 δ' ∧ WOk K Ha M2 H4 ∧ Ex H' Ha, fun σ4 H4 p4 => ⟨xs.length - (i + 1), by omega, rfl, hlt, p4⟩, fun v H4 y => ?_⟩
          obtain ⟨T, x, rfl, hT, rfl, hx⟩ := y
          obtain ⟨d, hd, vd⟩ := h2.get (hx xs sq)
          obtain ⟨w5, s5⟩ := laid_ok (o := .tup [.int (i : Nat), x]) w2 hT
          have vT : Dq K (upd Ha T (.tup [.int (i : Nat), x])) (.ref T) (.tuple [.int (i : Nat), d]) := .tup (SqT.of upd_same) (.cons (.int _) (.cons (Dq.mono (ex.trans s5.pure) _ _ vd) .nil))
          have s6 := s2.trans w w2 s5
          refine (it i d δ' M2 hd p) (.ref T) σ' _ _ (e2.mono s5.pure) w5 vT _ fun δ2 M3 σ2 Hb Hc hS s3 e3 w3 => hS _ σ2 Hb Hc e3 w3
            ⟨fun δ3 M4 σ3 Hd He p s4 e4 w4 => ⟨δ3, M4, Hd, p, (s6.trans w w5 s3).trans w w3 s4, e4, w4, ((ex.trans s5.pure).trans s3.pure).trans s4.pure⟩, fun r v Hd M4 He p s4 w4 vv => o.rt r v Hd M4 He p ((s6.trans w w5 s3).trans w w3 s4) w4 vv,
             fun δ3 M4 σ3 Hd He p s4 e4 w4 => o.nx δ3 M4 σ3 Hd He p ((s6.trans w w5 s3).trans w w3 s4) e4 w4, fun δ3 M4 σ3 Hd He p s4 e4 w4 => ⟨δ3, M4, Hd, p, (s6.trans w w5 s3).trans w w3 s4, e4, w4, ((ex.trans s5.pure).trans s3.pure).trans s4.pure⟩⟩
        · refine .inl ⟨⟨xs, sq, by omega⟩, o.nx δ' M2 σ' Ha H3 (ie _ _ ?_) s2 e2 w2⟩
          rw [show i = ds.length by omega] at p
          exact p
end
end Sd

/-! Sd: texts, truths as numbers, chains of comparisons, all, zip, isinstance of several -/
namespace Sd
open PySem L2
/-- a number: an int, or a truth -/
def nuV : V → Option Int
  | .int i => some i
  | .bl b => some (if b = true then 1 else 0)
  | _ => none
section
variable {P : Program} {w : World} {A : Around} {E : Value → Shared → Prop} {s : Shared}
theorem gives_negB (b : Bool) : Gives (Builtin.«int.__neg__» ⟨[.bool b], []⟩) (.int (-(if b = true then (1 : Int) else 0))) :=
  .of_wp fun M A E s Q h => by obtain ⟨hp, g, d, tk, os⟩ := s; wp_walk; exact ⟨_, rfl, h⟩
theorem neg_bl {b : Bool} {Q : Value → Shared → Prop} (h : Q (.int (-(if b = true then (1 : Int) else 0)) s.toks) { s with toks := s.toks + 1 }) : wpAny (model P w) A (unaryOp .USub (.bool b)) Q E s :=
  unaryOp_gives (op := .USub) (T := "bool") rfl rfl F.slot_bool_neg F.entry_int_neg (F.args_int_neg_1 _) (gives_negB b) h
end
section
variable {X : Cx}
def rNum (f : Int → Int → Int) : R2 := fun x y H Q => ∃ i j, nuV x = some i ∧ y = .int j ∧ Q (.int (f i j)) H
theorem op_addN : OpR X (binaryOp .Add) (rNum fun i j => i + j) := by
  intro pins s σ H x y v u Q I rx ry h
  obtain ⟨i, j, hx, rfl, q⟩ := h
  cases x with
  | int k => cases hx; exact op_add pins s σ H _ _ v u Q I rx ry ⟨_, _, rfl, rfl, q⟩
  | bl b =>
    cases hx
    cases rx
    obtain ⟨t, rfl⟩ := ry
    exact IntBool.add_bool_int ⟨.int _, H, I.tok _, ⟨_, rfl⟩, q⟩
  | _ => cases hx
theorem op_subN : OpR X (binaryOp .Sub) (rNum fun i j => i - j) := by
  intro pins s σ H x y v u Q I rx ry h
  obtain ⟨i, j, hx, rfl, q⟩ := h
  cases x with
  | int k => cases hx; exact op_sub pins s σ H _ _ v u Q I rx ry ⟨_, _, rfl, rfl, q⟩
  | bl b =>
    cases hx
    cases rx
    obtain ⟨t, rfl⟩ := ry
    exact IntBool.sub_bool_int ⟨.int _, H, I.tok _, ⟨_, rfl⟩, q⟩
  | _ => cases hx
def rNegN : V → Hp → VK → Prop := fun x H Q => ∃ i, nuV x = some i ∧ Q (.int (-i)) H
theorem un_negN : UnR X (unaryOp .USub) rNegN := by
  intro pins s σ H x v Q I rx h
  obtain ⟨i, hx, q⟩ := h
  cases x with
  | int k => cases hx; exact un_neg pins s σ H _ v Q I rx ⟨_, rfl, q⟩
  | bl b =>
    cases hx
    cases rx
    exact neg_bl ⟨.int _, H, I.tok _, ⟨_, rfl⟩, q⟩
  | _ => cases hx
/-- str(x), x a number -/
def rStrN : List V → Hp → VK → Prop := fun xs H Q => (∃ i : Int, xs = [.int i] ∧ i.natAbs.log2 < 1920 ∧ Q (.str (toString i)) H) ∨ ∃ b : Bool, xs = [.bl b] ∧ Q (.str (if b = true then "True" else "False")) H
theorem call_strN : CallR X (.type "str") rStrN := by
  intro pins s σ H xs us Q I r h
  rcases h with h | ⟨b, rfl, q⟩
  · exact call_str_int pins s σ H xs us Q I r h
  · obtain ⟨u, rfl, hu⟩ := vals1 r
    cases hu
    exact PySem.P.str_of_bool ⟨.str _, H, I.tok _, ⟨_, rfl⟩, q⟩
/-- x not in text, x one sign -/
def rNotInS : R2 := fun x y H Q => ∃ (c : Nat) (z : Str), x = .str ⟨#[c]⟩ ∧ y = .str z ∧ Q (.bl (!decide (c ∈ z.cps.toList))) H
theorem op_notInS : OpR X (compareOp .NotIn) rNotInS := by
  intro pins s σ H x y v u Q I rx ry h
  obtain ⟨c, z, rfl, rfl, q⟩ := h
  obtain ⟨t, rfl⟩ := rx
  obtain ⟨t', rfl⟩ := ry
  refine PySem.P.notIn_str (fin_bl I q ?_)
  rw [StrLaws.found_one]
end
end Sd

namespace Sd
open PySem L2 PySem.Spec PyProof.Rows
theorem fm_congr {α β : Type} {f g : α → Option β} : ∀ {l : List α}, (∀ x ∈ l, f x = g x) → l.filterMap f = l.filterMap g
  | [], _ => rfl
  | x :: l, h => by rw [List.filterMap_cons, List.filterMap_cons, h x (.head _), fm_congr fun y hy => h y (.tail _ hy)]
theorem back_pick (xs : Array Value) : ((List.range xs.size).filterMap fun (k : Nat) => xs[(((xs.size : Int) - 1) + (k : Int) * (-1)).toNat]?).toArray = xs.toList.reverse.toArray := by
  rw [← PySem.W.krv_all xs, ← List.filterMap_reverse, ← PySem.W.krv_range, List.filterMap_map]
  congr 1
  refine fm_congr fun k hk => ?_
  have := List.mem_range.mp hk
  show xs[(((xs.size : Int) - 1) + (k : Int) * (-1)).toNat]? = xs[xs.size - 1 - k]?
  congr 1
  omega
theorem back_places (n : Nat) : Builtin.Slice.slicePlaces ((n : Int) - 1) (-1) (-1) = n := by
  unfold Builtin.Slice.slicePlaces
  rw [if_neg (by decide)]
  by_cases h : n = 0
  · subst h; rfl
  · rw [if_pos (by omega), show (-(-1) : Int) = 1 from rfl, Int.ediv_one]
    omega
section
variable {prog : Program} {w : World} {A : Around} {E : Value → Shared → Prop} {s : Shared}
theorem getItem_back {t sl : Addr} {items : Array Value} {vs : Value} {Q : Value → Shared → Prop} (ht : IsTup s.heap t items) (hs : s.heap.IsSliceOf sl .none .none vs) (ps : IsPart vs (some (-1)))
    (h : Q (.ref s.heap.objs.size) { s with heap := s.heap.push { cls := .type "tuple", data := .seq items.toList.reverse.toArray } }) (hsz : items.size ≤ sizeLine) : wpAny (model prog w) A (getItem (.ref t) (.ref sl)) Q E s := by
  have fits : sizeOk (.seq items.toList.reverse.toArray) := by
    show items.toList.reverse.toArray.size ≤ sizeLine
    rw [List.size_toArray, List.length_reverse, Array.length_toList]
    exact hsz
  obtain ⟨os, e1, e2, e3⟩ := id hs
  have tS : s.TypeIs (.ref sl) "slice" := ⟨os, e1, e2⟩
  have app : ∀ (Q' : Int × Int × Nat → Shared → Prop) (A' : Around) (E' : Value → Shared → Prop), Q' ((items.size : Int) - 1, -1, items.size) s → wpAny (model prog w) A' (Builtin.Slice.sliceApplied (.ref sl) (pure (items.size : Int))) Q' E' s := fun Q' A' E' hq => by
    unfold Builtin.Slice.sliceApplied Builtin.Slice.sliceFields
    refine wpAny_bind (wpAny_bind (wpAny_field e1 e3 (x := .none) rfl (wpAny_bind (wpAny_field e1 e3 (x := .none) rfl (wpAny_bind (wpAny_field e1 e3 (x := vs) rfl (wpAny_pure ?_)))))))
    refine wpAny_bind (HT.slicePart_ ps ?_)
    show wpAny _ _ (if ((-1 : Int) == 0) = true then _ else _) _ _ s
    rw [if_neg (by decide)]
    refine wpAny_bind (HT.slicePart_ .none (wpAny_bind (HT.slicePart_ .none (wpAny_bind (wpAny_pure ?_)))))
    have e : (match Builtin.Slice.sliceAdjust none none (-1) (items.size : Int) with | (lo, hi) => (pure (lo, (-1 : Int), Builtin.Slice.slicePlaces lo hi (-1)) : Sem (Int × Int × Nat))) = pure ((items.size : Int) - 1, -1, items.size) := by
      show (pure ((items.size : Int) - 1, (-1 : Int), Builtin.Slice.slicePlaces ((items.size : Int) - 1) (-1) (-1)) : Sem (Int × Int × Nat)) = _
      rw [back_places]
    exact wpAny_of_eq e hq
  unfold getItem
  refine wpAny_holding (wpAny_bind (wpAny_sequenceKey ht.typeIs (by decide) (wpAny_bind (wpAny_callSpecial?_slot (name := Str.ofString "__getitem__") ht.typeIs PyProof.Rows.slot_tuple_getitem
    (wpAny_call_entry PyProof.Rows.slot_tuple_getitem ht.typeIs entry_tuple_getitem ?_ (args_tuple_getitem _ _))))))
  refine wpAny_bind (m := Builtin.Tuple.tupleItemsOf (.ref t)) (tupleItemsOf_ ht (wpAny_bind (wpAny_typeOf tS ?_)))
  rw [if_pos (by decide)]
  refine wpAny_bind (app _ _ _ ?_)
  show wpAny _ _ (if (((items.size : Int) - 1) == 0 && (-1 : Int) == 1 && items.size == items.size) = true then _ else _) _ _ s
  rw [if_neg (by rw [show ((-1 : Int) == 1) = false from rfl, Bool.and_false, Bool.false_and]; exact Bool.false_ne_true), back_pick]
  first
    | exact wpAny_bind (m := Builtin.Tuple.tupleExact _) (wpAny_newObj_type (wpAny_pure ⟨_, rfl, wpAny_pure h⟩) fits)
    | exact wpAny_bind (m := Builtin.Tuple.tupleExact _) (wpAny_newObj_type (wpAny_bind (wpAny_pure (wpAny_pure ⟨_, rfl, wpAny_pure h⟩))) fits)
    | exact wpAny_bind (wpAny_bind (m := Builtin.Tuple.tupleExact _) (wpAny_newObj_type (wpAny_pure ⟨_, rfl, wpAny_pure h⟩) fits))
end
/-- t[::-1], t a tuple -/
def tRevT (K : PySem.W.Frag) (te : TE) : TE := fun σ H Q => te σ H fun x H1 => ∃ a xs, x = .ref a ∧ SqT K H1 a xs ∧ ∀ p, H1 p = none → Q (.ref p) (upd H1 p (.tup xs.reverse))
theorem pe_revT {X : Cx} {e : Expr} {te : TE} {k : Nat} {p1 p2 p3 pos : Pos} (K : PySem.W.Frag) (he : PE X e te) (hK : X.K = K := by rfl) : PE X (.Subscript e (.Slice none none (some (.UnaryOp .USub (.Constant (.int 1) k p1) p2)) p3) pos) (tRevT K te) := by
  subst hK
  refine ⟨fun pins s σ H Q I h => Subscript_ (thn (he.run pins s σ H _ I h) fun v s1 ⟨x, H1, I1, r1, a, xs, ex, hx, q⟩ => ?_)⟩
  subst ex
  cases r1
  have hst : PO X (some (.UnaryOp .USub (.Constant (.int 1) k p1) p2)) (tPart (tUn (rU fun i => .int (-i)) (tC (.int 1)))) := po_some (pe_un un_neg pe_int)
  refine wpAny_Slice (thn (po_none.run pins s1 σ H1 (fun o H2 => o = none ∧ H2 = H1) I1 ⟨rfl, rfl⟩) fun vl s2 ⟨_, _, I2, pl, rfl, rfl⟩ => ?_)
  refine thn (po_none.run pins s2 σ _ (fun o H3 => o = none ∧ H3 = _) I2 ⟨rfl, rfl⟩) fun vu s3 ⟨_, _, I3, pu, rfl, rfl⟩ => ?_
  refine thn (hst.run pins s3 σ _ (fun o H4 => o = some (-1) ∧ H4 = _) I3 ⟨1, rfl, -1, rfl, rfl, rfl⟩) fun vs s4 ⟨_, H4, I4, ps, rfl, e4⟩ => ?_
  subst e4
  cases pl
  cases pu
  have I5 : Inv X pins σ H4 { s4 with heap := s4.heap.push { cls := .type "slice", data := .fields #[.none, .none, vs] } } := I4.kept (t' := s4.toks) fun b ob q => Heap.get?_push_of_some _ q
  obtain ⟨its, r, ht, hz⟩ := I5.tuple hx
  have hlen : its.toArray.size ≤ sizeLine := by rw [List.size_toArray, ← r.length]; exact hz
  refine tail_any (ops := [.ref a, .ref s4.heap.objs.size]) ht.typeIs PyProof.Rows.slot_tuple_getitem.lookup (getItem_back ht (Heap.IsSliceOf.new _ _ _ vs) ps ⟨.ref _, _, I5.laid (t' := s4.toks) (o := .tup xs.reverse) (fun b ob q => Heap.get?_push_of_some _ q) (Nat.le_refl _) ?_, rfl, q _ (I5.hok.fresh (Nat.le_refl _))⟩ hlen) (by with_unfolding_all rfl)
  exact ⟨by rw [List.length_reverse]; exact hz, _, r.reverse, IsTup.new _ _⟩
end Sd

namespace Sd
open PySem L2
/-! ### kinds -/
def isNum : PyData → Bool
  | .int _ => true
  | .bool _ => true
  | _ => false
def isBl : PyData → Bool
  | .bool _ => true
  | _ => false
def isStr : PyData → Bool
  | .str _ => true
  | _ => false
def isTup : PyData → Bool
  | .tuple _ => true
  | _ => false
def isLst : PyData → Bool
  | .list _ => true
  | _ => false
theorem kit_int : ∀ d, kitB (tyName d) "int" = some (isNum d)
  | .none => show kitB "NoneType" "int" = some false by decide +kernel
  | .bool _ => show kitB "bool" "int" = some true by decide +kernel
  | .int _ => show kitB "int" "int" = some true by decide +kernel
  | .str _ => show kitB "str" "int" = some false by decide +kernel
  | .list _ => show kitB "list" "int" = some false by decide +kernel
  | .tuple _ => show kitB "tuple" "int" = some false by decide +kernel
  | .dict _ => show kitB "dict" "int" = some false by decide +kernel
theorem kit_bool : ∀ d, kitB (tyName d) "bool" = some (isBl d)
  | .none => show kitB "NoneType" "bool" = some false by decide +kernel
  | .bool _ => show kitB "bool" "bool" = some true by decide +kernel
  | .int _ => show kitB "int" "bool" = some false by decide +kernel
  | .str _ => show kitB "str" "bool" = some false by decide +kernel
  | .list _ => show kitB "list" "bool" = some false by decide +kernel
  | .tuple _ => show kitB "tuple" "bool" = some false by decide +kernel
  | .dict _ => show kitB "dict" "bool" = some false by decide +kernel
theorem kit_str : ∀ d, kitB (tyName d) "str" = some (isStr d)
  | .none => show kitB "NoneType" "str" = some false by decide +kernel
  | .bool _ => show kitB "bool" "str" = some false by decide +kernel
  | .int _ => show kitB "int" "str" = some false by decide +kernel
  | .str _ => show kitB "str" "str" = some true by decide +kernel
  | .list _ => show kitB "list" "str" = some false by decide +kernel
  | .tuple _ => show kitB "tuple" "str" = some false by decide +kernel
  | .dict _ => show kitB "dict" "str" = some false by decide +kernel
theorem kit_tup : ∀ d, kitB (tyName d) "tuple" = some (isTup d)
  | .none => show kitB "NoneType" "tuple" = some false by decide +kernel
  | .bool _ => show kitB "bool" "tuple" = some false by decide +kernel
  | .int _ => show kitB "int" "tuple" = some false by decide +kernel
  | .str _ => show kitB "str" "tuple" = some false by decide +kernel
  | .list _ => show kitB "list" "tuple" = some false by decide +kernel
  | .tuple _ => show kitB "tuple" "tuple" = some true by decide +kernel
  | .dict _ => show kitB "dict" "tuple" = some false by decide +kernel
theorem kit_lst : ∀ d, kitB (tyName d) "list" = some (isLst d)
  | .none => show kitB "NoneType" "list" = some false by decide +kernel
  | .bool _ => show kitB "bool" "list" = some false by decide +kernel
  | .int _ => show kitB "int" "list" = some false by decide +kernel
  | .str _ => show kitB "str" "list" = some false by decide +kernel
  | .list _ => show kitB "list" "list" = some true by decide +kernel
  | .tuple _ => show kitB "tuple" "list" = some false by decide +kernel
  | .dict _ => show kitB "dict" "list" = some false by decide +kernel
def nuD : PyData → Option Int
  | .int i => some i
  | .bool b => some (if b = true then 1 else 0)
  | _ => none
section
variable {X : Cx}
theorem kcall_isiT (K : PySem.W.Frag) (h : X.K = K := by rfl) : CallR X (.builtin "isinstance") (rIsiT K) := h ▸ call_isiT
theorem kcr_all (K : PySem.W.Frag) (hc : X.calm = true := by rfl) (h : X.K = K := by rfl) : CallR X (.builtin "all") (rAll K) := h ▸ cr_all hc
theorem ksl_tupA (K : PySem.W.Frag) (h : X.K = K := by rfl) : SlR X (rSlA K) := h ▸ sl_tupA
theorem kpi_zip {e e2 : Expr} {ta : TA} {p pos tpos : Pos} {elts : List Expr} {kk : Nat} (K : PySem.W.Frag) (hg : Gl X "zip") (hm : X.mg "zip" = none) (ha : PA X [e, e2] ta) (h : X.K = K := by rfl)
    (hs : starEach [e, e2] X.env = (false, eval e X.env) :: starEach [e2] X.env := by rfl) (hpl : (backTo pos (starEach [e2] X.env)).any (·.1) = false := by rfl) :
    PI X (.Tuple elts kk tpos) (.Call (.Name "zip" p) [e, e2] [] pos) (iZip K ta) := h ▸ pi_zip hg hm ha hs hpl
end
section
variable {K : PySem.W.Frag} {δ : DSt} {M : Mem} {P : SV → Mem → Prop} {PB : Bool → Mem → Prop} {ta tb tc te tl : TE} {tt : TT} {g : TG}
theorem nu_ok {H : Hp} {v : V} {d : PyData} {i : Int} (h : Dq K H v d) (e : nuD d = some i) : nuV v = some i := by
  cases d with
  | int k => cases h; exact e
  | bool b => cases h; exact e
  | _ => cases e
theorem dR_num {f : Int → Int → Int} {d : PyData} {i j : Int} (e : nuD d = some i) (p : P (.d (.int (f i j))) M) : dR K (rNum f) (.d d) (.d (.int j)) M P := fun v w H H1 hv hw wk Q q => by
  cases hw
  exact ⟨i, j, nu_ok hv e, rfl, q _ _ H M H1 p Step.refl wk (.int _)⟩
theorem dU_negN {d : PyData} {i : Int} (e : nuD d = some i) (p : P (.d (.int (-i))) M) : dU K rNegN (.d d) M P := fun v H H1 hv wk Q q => ⟨i, nu_ok hv e, q _ _ H M H1 p Step.refl wk (.int _)⟩
def strNu : PyData → Str
  | .int i => toString i
  | .bool b => if b = true then "True" else "False"
  | _ => ""
theorem dC_strN {d : PyData} (hn : isNum d = true) (hz : ∀ i, d = .int i → i.natAbs.log2 < 1920) (p : P (.d (.str (strNu d))) M) : dC K rStrN [.d d] M P := fun vs H H1 hv wk Q q => by
  cases hv with
  | cons h t =>
    cases t
    cases d with
    | int i => cases h; exact .inl ⟨i, rfl, hz i rfl, q _ _ H M H1 p Step.refl wk (.str _)⟩
    | bool b => cases h; exact .inr ⟨b, rfl, q _ _ H M H1 p Step.refl wk (.str _)⟩
    | _ => cases hn
theorem dR_I0b {f : Int → Int → Bool} {i j : Int} (p : P (.d (.bool (f i j))) M) : dR K (rI0 fun i j => .bl (f i j)) (.d (.int i)) (.d (.int j)) M P := fun v w H H1 hv hw wk Q q => by
  cases hv; cases hw
  exact ⟨i, j, rfl, rfl, q _ _ H M H1 p Step.refl wk (.bl _)⟩
theorem dR_ss {f : Str → Str → Bool} {x y : Str} (p : P (.d (.bool (f x y))) M) : dR K (fun x y H Q => ∃ i j, x = .str i ∧ y = .str j ∧ Q (.bl (f i j)) H) (.d (.str x)) (.d (.str y)) M P := fun v w H H1 hv hw wk Q q => by
  cases hv; cases hw
  exact ⟨x, y, rfl, rfl, q _ _ H M H1 p Step.refl wk (.bl _)⟩
theorem dR_addS {x y : Str} (hz : x.length + y.length ≤ 1000000) (p : P (.d (.str (x ++ y))) M) : dR K (fun x y H Q => ∃ i j, x = .str i ∧ y = .str j ∧ i.length + j.length ≤ sizeLine ∧ Q (.str (i ++ j)) H) (.d (.str x)) (.d (.str y)) M P := fun v w H H1 hv hw wk Q q => by
  cases hv; cases hw
  exact ⟨x, y, rfl, rfl, Nat.le_trans hz (by decide), q _ _ H M H1 p Step.refl wk (.str _)⟩
theorem dR_notInS {c : Nat} {z : Str} (p : P (.d (.bool (!decide (c ∈ z.cps.toList)))) M) : dR K rNotInS (.d (.str ⟨#[c]⟩)) (.d (.str z)) M P := fun v w H H1 hv hw wk Q q => by
  cases hv; cases hw
  exact ⟨c, z, rfl, rfl, q _ _ H M H1 p Step.refl wk (.bl _)⟩
theorem dC_lenX {z : Str} (hz : z.length ≤ 1000000) (p : P (.d (.int z.length)) M) : dC K (fun xs H Q => ∃ z, xs = [.str z] ∧ z.length ≤ sizeLine ∧ Q (.int z.length) H) [.d (.str z)] M P := fun vs H H1 hv wk Q q => by
  cases hv with
  | cons h t =>
    cases t; cases h
    exact ⟨z, rfl, Nat.le_trans hz (by decide), q _ _ H M H1 p Step.refl wk (.int _)⟩
theorem dU_slS {lo hi : Option Int} {z : Str} (hz : z.length ≤ 1000000) (p : P (.d (.str (cutS z lo hi))) M) : dU K (fun v => rSlS v lo hi) (.d (.str z)) M P := fun v H H1 hv wk Q q => by
  cases hv
  exact ⟨z, rfl, Nat.le_trans hz (by decide), q _ _ H M H1 p Step.refl wk (.str _)⟩
theorem dE_upper (h : dE K te δ M fun x M1 => ∃ z : Str, x = .d (.str z) ∧ z.length ≤ 1000000 ∧ P (.d (.str (Txt.upper z))) M1) : dE K (tM0 (fun x xs H Q => ∃ a, x = .str a ∧ xs = [] ∧ a.length ≤ 5592405 ∧ Q (.str (Txt.upper a)) H) te) δ M P := fun σ H H1 e w Q q =>
  h σ H H1 e w _ fun v x H' M' H2 hb s1 w1 vx => by
    obtain ⟨z, rfl, hz, p⟩ := hb
    cases vx
    exact ⟨⟨z, rfl⟩, z, rfl, rfl, by omega, q _ _ H' M' H2 p s1 w1 (.str _)⟩
theorem dU_slA {lo hi : Option Int} {ds : List PyData} (p : P (.d (.tuple (cutD ds lo hi))) M) : dU K (fun v => rSlA K v lo hi) (.d (.tuple ds)) M P := fun v H H1 hv wk Q q => by
  cases hv with
  | tup h1 h2 =>
    refine ⟨_, _, rfl, sqTx wk.ex h1, fun hw => ?_, fun hn l hl => ?_⟩
    · rw [h2.length] at hw
      have e : cutD ds lo hi = ds := by unfold cutD; rw [hw.1, hw.2]; simp
      rw [e] at p
      exact q _ _ H M H1 p Step.refl wk (.tup h1 h2)
    · obtain ⟨w2, s2⟩ := laid_ok (o := .tup (cutV _ lo hi)) wk hl
      exact q _ _ _ M _ p s2 w2 (.tup (SqT.of upd_same) (DqAll.mono s2.pure _ _ (cut_of h2 lo hi)))
theorem dE_revT (h : dE K te δ M fun x M1 => ∃ ds, x = .d (.tuple ds) ∧ P (.d (.tuple ds.reverse)) M1) : dE K (tRevT K te) δ M P := fun σ H H1 e w Q q =>
  h σ H H1 e w _ fun v x H' M' H2 hb s1 w1 vx => by
    obtain ⟨ds, rfl, p⟩ := hb
    cases vx with
    | tup h1 h2 =>
      refine ⟨_, _, rfl, sqTx w1.ex h1, fun l hl => ?_⟩
      obtain ⟨w2, s2⟩ := laid_ok (o := .tup (List.reverse _)) w1 hl
      exact q _ _ _ M' _ p (s1.trans w w1 s2) w2 (.tup (SqT.of upd_same) (DqAll.mono s2.pure _ _ h2.reverse))
/-- a < b < c -/
theorem dE_chain {r r' : R2} (h : dE K ta δ M fun x M1 => dE K tb δ M1 fun y M2 => dR K r x y M2 fun z M3 => ∃ k, z = .d (.bool k) ∧ if k = true then dE K tc δ M3 fun u M4 => dR K r' y u M4 P else P (.d (.bool false)) M3) : dE K (tChain r r' ta tb tc) δ M P := fun σ H H1 e w Q q =>
  h σ H H1 e w _ fun v x Ha Ma H2 hb s1 w1 vx => hb σ Ha H2 (e.mono s1.pure) w1 _ fun u y Hb Mb H3 hr s2 w2 vy => hr v u Hb H3 (vx.mono s2.pure) vy w2 _ fun z rz Hc Mc H4 hz s3 w3 vz => by
    obtain ⟨k, rfl, hk⟩ := hz
    cases vz
    have st := (s1.trans w w1 s2).trans w w2 s3
    refine ⟨k, rfl, ?_⟩
    cases k with
    | false => exact q _ _ Hc Mc H4 hk st w3 (.bl _)
    | true => exact hk σ Hc H4 (e.mono st.pure) w3 _ fun t rt Hd Md H5 hd s4 w4 vt => hd u t Hd H5 ((vy.mono s3.pure).mono s4.pure) vt w4 Q fun o ro He Me H6 p s5 w5 vo => q o ro He Me H6 p ((st.trans w w3 s4).trans w w4 s5) w5 vo
theorem bools_of {H : Hp} : ∀ {vs : List V} {bs : List Bool}, DqAll K H vs (bs.map .bool) → vs = bs.map V.bl
  | _, [], h => by cases h; rfl
  | _, b :: bs, h => by
    cases h with
    | cons h1 h2 => cases h1; rw [bools_of h2]; rfl
theorem dC_all {x : SV} {bs : List Bool} (s : SeqL M x (bs.map .bool)) (p : P (.d (.bool (bs.all id))) M) : dC K (rAll K) [x] M P := fun vs H H1 hv wk Q q => by
  cases hv with
  | cons h t =>
    cases t
    obtain ⟨a, vs, rfl, h1, h2⟩ := s.sq wk h
    rw [bools_of h2] at h1
    exact ⟨a, bs, rfl, SqL.of h1, q _ _ H M H1 p Step.refl wk (.bl _)⟩
/-- isinstance(x, (tuple, list)) -/
theorem dE_isiTL (h : dE K te δ M fun x M1 => ∃ d, x = .d d ∧ P (.d (.bool (isTup d || isLst d))) M1) : dE K (tCB (rIsiT K) (tCons te (tCons (tTup (tCons (tC (.ty "tuple")) (tCons (tC (.ty "list")) tNil))) tNil))) δ M P := fun σ H H1 e w Q q =>
  h σ H H1 e w _ fun v x H' M' H2 hb s1 w1 vx => by
    obtain ⟨d, rfl, p⟩ := hb
    refine ⟨by decide, fun l hl => ?_⟩
    obtain ⟨w2, s2⟩ := laid_ok (o := .tup [.ty "tuple", .ty "list"]) w1 hl
    have vx2 : Dq K (upd H2 l (.tup [.ty "tuple", .ty "list"])) v d := Dq.mono w2.ex _ _ (Dq.mono s2.pure _ _ vx)
    refine ⟨v, l, _, _, [.type "tuple", .type "list"], isTup d || isLst d, rfl, upd_same, .cons (.ty _) (.cons (.ty _) .nil), ty_ok (K := K) vx2, ?_, q _ _ _ M' _ p (s1.trans w w1 s2) w2 (.bl _)⟩
    refine kitAny_cons (kit_ty (kit_tup d)) (fun hf => ?_) (fun ht => by rw [ht]; rfl)
    refine kitAny_cons (kit_ty (kit_lst d)) (fun hf2 => ?_) (fun ht => by rw [ht, Bool.or_true])
    rw [hf, hf2]
    rfl
/-! ### comprehensions over a text, over two lists -/
theorem dE_lcS {vs : List Nat} (hg : GW g vs) (h : dE K tl δ M fun r M1 => ∃ z : Str, r = .d (.str z) ∧ z.cps.size ≤ 40000 ∧ ∃ I : Nat → List PyData → Mem → Prop, I 0 [] M1 ∧
      (∀ (i c : Nat) acc M', z.cps[i]? = some c → I i acc M' → dG K g (.d (.str ⟨#[c]⟩)) (wipeD δ vs) M' fun δ2 M2 => dT K tt δ2 M2 fun b M3 => if b = true then dE K te δ2 M3 fun y M4 => ∃ d, y = .d d ∧ I (i + 1) (acc ++ [d]) M4 else I (i + 1) acc M3) ∧ ∀ acc M', I z.cps.size acc M' → Res P acc M') :
    dE K (tLc (iStr tl) g tt te vs) δ M P := fun σ H H1 e w Q q =>
  h σ H H1 e w _ fun v r H' M' H2 hb s w' vv => by
    obtain ⟨z, rfl, hz, I, i0, it, ie⟩ := hb
    cases vv
    refine ⟨z, rfl, fun Dl hD => ⟨fun i m H => m = z.cps.size - i ∧ i ≤ z.cps.size ∧ LcW K H' H2 M' Dl (I i) i H, ⟨_, rfl, Nat.zero_le _, lcw_start w' hD i0⟩, ?_⟩⟩
    rintro i m H3 ⟨rfl, hi, p⟩
    by_cases hlt : i < z.cps.size
    · refine .inr ⟨hlt, LcW K H' H2 M' Dl (I (i + 1)) (i + 1), fun H4 p' => ⟨_, by omega, rfl, hlt, p'⟩, fun x H4 y => ?_⟩
      obtain ⟨rfl, c, hc, rfl⟩ := y
      exact lcw_turn (x := .d (.str ⟨#[c]⟩)) hg (by omega) w' (e.mono s.pure) hD p (fun H' ex => .str _) (fun acc M' hI => it i c acc M' hc hI)
    · have e0 : i = z.cps.size := by omega
      subst e0
      exact .inl ⟨Nat.le_refl _, lcw_end w' hD p ie fun v r Ha Ma Hb pp s3 w3 vr => q v r Ha Ma Hb pp (s.trans w w' s3) w3 vr⟩
end
end Sd

namespace Sd
open PySem L2
section
variable {K : PySem.W.Frag} {δ : DSt} {M : Mem} {P : SV → Mem → Prop} {ta tb tc te tl : TE} {tt : TT} {g : TG}
/-- as it stands, with a new pair at T -/
theorem lcw_pair {H H1 H2 : Hp} {Dl T : Addr} {I I' : List PyData → Mem → Prop} {n : Nat} {vs : List Nat} {u1 u2 : V} {d1 d2 : PyData} {σ : St} (hg : GW g vs) (hn : n < 50000) (w : WOk K H M H1) (e : EnvOk K H σ δ) (hD : H1 Dl = none) (p : LcW K H H1 M Dl I n H2) (hT : H2 T = none)
    (v1 : Dq K H u1 d1) (v2 : Dq K H u2 d2)
    (h : ∀ acc M', I acc M' → dG K g (.d (.tuple [d1, d2])) (wipeD δ vs) M' fun δ2 M2 => dT K tt δ2 M2 fun b M3 => if b = true then dE K te δ2 M3 fun y M4 => ∃ d, y = .d d ∧ I' (acc ++ [d]) M4 else I' acc M3) :
    g (.ref T) (wipe σ vs) (upd H2 T (.tup [u1, u2])) fun σ2 H3 => wipe σ2 vs = wipe σ vs ∧ tt σ2 H3 fun b H4 => if b = true then te σ2 H4 fun y H5 => ∃ acc, H5 Dl = some (.lst acc) ∧ acc.length < sizeLine ∧ LcW K H H1 M Dl I' (n + 1) (upd H5 Dl (.lst (acc ++ [y]))) else LcW K H H1 M Dl I' (n + 1) H4 := by
  obtain ⟨acc, ds, M', H', pi, hl, s0, w0, hDl0, hacc0, f01, f02⟩ := p
  obtain ⟨w', sT⟩ := laid_ok (o := .tup [u1, u2]) w0 hT
  have s := s0.trans w w0 sT
  have hne : Dl ≠ T := by rintro rfl; rw [hDl0] at hT; cases hT
  have hDl : upd H2 T (.tup [u1, u2]) Dl = some (.lst acc) := by rw [upd_ne hne]; exact hDl0
  have hacc := hacc0.mono sT.pure
  have f1 : upd H' T (.tup [u1, u2]) Dl = none := by rw [upd_ne hne]; exact f01
  refine hg (.ref T) σ _ _ ?_
  have vT : Dq K (upd H' T (.tup [u1, u2])) (.ref T) (.tuple [d1, d2]) := .tup (SqT.of upd_same) (.cons (Dq.mono s.pure _ _ v1) (.cons (Dq.mono s.pure _ _ v2) .nil))
  refine h ds M' pi (.ref T) _ _ _ ((e.mono s.pure).wipe vs) w' vT _ fun δ2 M2 σ2 Ha H3 ht s2 e2 w2 => ?_
  have k2 := s2.keep Dl _ hDl f02
  have n2 := s2.new Dl f1 f02 (by rw [hDl]; simp)
  refine ht σ2 Ha H3 e2 w2 _ fun b Hb M3 H4 hb s3 w3 => ?_
  have k3 := s3.keep Dl _ k2 n2.2
  have n3 := s3.new Dl n2.1 n2.2 (by rw [k2]; simp)
  cases b with
  | false => exact ⟨acc, ds, M3, Hb, hb, Nat.le_succ_of_le hl, (s.trans w w' s2).trans w w2 s3, w3, k3, hacc.mono (s2.pure.trans s3.pure), n3.1, n3.2⟩
  | true =>
    refine hb σ2 Hb H4 (e2.mono s3.pure) w3 _ fun y r Hc M4 H5 hy s4 w4 vy => ?_
    have k4 := s4.keep Dl _ k3 n3.2
    have n4 := s4.new Dl n3.1 n3.2 (by rw [k3]; simp)
    obtain ⟨d, rfl, hI⟩ := hy
    have ha : DqAll K Hc acc ds := hacc.mono ((s2.pure.trans s3.pure).trans s4.pure)
    have st := ((s.trans w w' s2).trans w w2 s3).trans w w3 s4
    refine ⟨acc, k4, by rw [ha.length]; exact Nat.lt_of_le_of_lt hl (Nat.lt_of_lt_of_le hn (by decide)), acc ++ [y], ds ++ [d], M4, Hc, hI, by rw [List.length_append]; show ds.length + 1 ≤ n + 1; omega, ⟨st.pure, fun a o h1 h2 => ?_, st.new⟩, ⟨fun a o h1 => ?_, fun a es h1 => ?_⟩, upd_same, ha.append (.cons vy .nil), n4.1, n4.2⟩
    · rw [upd_ne (ne_of_none h1 hD)]; exact st.keep a o h1 h2
    · rw [upd_ne (ne_of_none h1 n4.1)]; exact w4.ex a o h1
    · have e : a ≠ Dl := by rintro rfl; rw [n4.2] at h1; cases h1
      obtain ⟨q1, us, q2, q3⟩ := w4.cell a es h1
      exact ⟨q1, us, by rw [upd_ne e]; exact q2, q3⟩
theorem dE_lcZ {ts : TA} {vs : List Nat} (hg : GW g vs) (h : dA K ts δ M fun rs M1 => ∃ xs ys : List PyData, rs = [.d (.list xs), .d (.list ys)] ∧ xs.length ≤ 40000 ∧ ∃ I : Nat → List PyData → Mem → Prop, I 0 [] M1 ∧
      (∀ (i : Nat) x y acc M', xs[i]? = some x → ys[i]? = some y → I i acc M' → dG K g (.d (.tuple [x, y])) (wipeD δ vs) M' fun δ2 M2 => dT K tt δ2 M2 fun b M3 => if b = true then dE K te δ2 M3 fun y M4 => ∃ d, y = .d d ∧ I (i + 1) (acc ++ [d]) M4 else I (i + 1) acc M3) ∧ ∀ acc M', I (min xs.length ys.length) acc M' → Res P acc M') :
    dE K (tLc (iZip K ts) g tt te vs) δ M P := fun σ H H1 e w Q q =>
  h σ H H1 e w _ fun us rs H' M' H2 hb s w' vv => by
    obtain ⟨xs, ys, rfl, hz, I, i0, it, ie⟩ := hb
    cases vv with
    | cons h1 h2 =>
      cases h2 with
      | cons h2 h3 =>
        cases h3
        cases h1 with
        | lst a1 a2 =>
          cases h2 with
          | lst b1 b2 =>
            rename_i a us b ws
            have l1 := a2.length
            have l2 := b2.length
            have sa : ∀ {Dl : Addr} {i : Nat} {H3 : Hp}, LcW K H' H2 M' Dl (I i) i H3 → SqL K H3 a us ∧ SqL K H3 b ws := fun {Dl i H3} p => by
              obtain ⟨_, _, _, _, _, _, s3, w3, _⟩ := p
              exact ⟨SqL.of (w3.ex _ _ (s3.pure _ _ a1)), SqL.of (w3.ex _ _ (s3.pure _ _ b1))⟩
            refine ⟨a, b, us, ws, rfl, SqL.of (w'.ex _ _ a1), SqL.of (w'.ex _ _ b1), fun Dl hD => ⟨fun i m H3 => m = min xs.length ys.length - i ∧ i ≤ min xs.length ys.length ∧ LcW K H' H2 M' Dl (I i) i H3, ⟨_, rfl, Nat.zero_le _, lcw_start w' hD i0⟩, ?_⟩⟩
            rintro i m H3 ⟨rfl, hi, p⟩
            obtain ⟨q1, q2⟩ := sa p
            by_cases hlt : i < min xs.length ys.length
            · have x1 : i < us.length := by omega
              have x2 : i < ws.length := by omega
              refine .inr ⟨⟨us, ws, us[i], ws[i], q1, q2, List.getElem?_eq_getElem x1, List.getElem?_eq_getElem x2⟩, LcW K H' H2 M' Dl (I (i + 1)) (i + 1), fun H4 p' => ⟨_, by omega, rfl, hlt, p'⟩, fun x H4 y => ?_⟩
              obtain ⟨T, u1, u2, rfl, hT, rfl, e1, e2⟩ := y
              obtain ⟨d1, g1, k1⟩ := a2.get (e1 us q1)
              obtain ⟨d2, g2, k2⟩ := b2.get (e2 ws q2)
              exact lcw_pair hg (by omega) w' (e.mono s.pure) hD p hT k1 k2 (fun acc M' hI => it i d1 d2 acc M' g1 g2 hI)
            · have e0 : i = min xs.length ys.length := by omega
              subst e0
              exact .inl ⟨⟨us, ws, q1, q2, by omega⟩, lcw_end w' hD p ie fun v r Ha Ma Hb pp s3 w3 vr => q v r Ha Ma Hb pp (s.trans w w' s3) w3 vr⟩
end
end Sd

/-! Sd: zip of two that are walked each in its own way -/
namespace Sd
open PySem PySem.Spec L2
/-- one of the two: its iterator at it, what it walks at l; st k: it stands at k -/
structure Feed (it l : Addr) (st : Nat → Heap → Prop) (xs : Array Value) : Prop where
  item : ∀ {prog : Program} {w : World} {A : Around} {E : Value → Shared → Prop} {s : Shared} {k : Nat} {x : Value} {Q : Value → Shared → Prop}, st k s.heap → xs[k]? = some x → (∀ h', st (k + 1) h' → Heap.SameBut it s.heap h' → Q x { s with heap := h' }) →
    wpAny (model prog w) A (Builtin.SmallTypes.nextOf (.ref it)) Q E s
  stop : ∀ {prog : Program} {w : World} {A : Around} {E : Value → Shared → Prop} {s : Shared} {k : Nat} {Q : Value → Shared → Prop}, A.handled = none → st k s.heap → xs[k]? = none →
    (∀ h' e, Heap.ExtBut it s.heap h' → (∃ o, h'.get? e = some o ∧ o.cls = .type "StopIteration") → E (.ref e) { s with heap := h' }) → wpAny (model prog w) A (Builtin.SmallTypes.nextOf (.ref it)) Q E s
  move : ∀ {k : Nat} {h h' : Heap}, st k h → (∀ c o, c = it ∨ c = l → h.get? c = some o → h'.get? c = some o) → st k h'
  live : ∀ {k : Nat} {h : Heap}, st k h → ∃ o, h.get? it = some o ∧ ∀ v, o.data ≠ .cell v
def stT (it l : Addr) (xs : Array Value) (k : Nat) (h : Heap) : Prop := h.IsTupleIter it l k ∧ h.IsTuple l xs
def stL (it l : Addr) (xs : Array Value) (k : Nat) (h : Heap) : Prop := h.IsListIter it l k ∧ h.IsList l xs
theorem feedT {it l : Addr} {xs : Array Value} (ne : l ≠ it) : Feed it l (stT it l xs) xs where
  item := fun {_ _ _ _ s _ _ _} st hx q => RZ.nextOf_tuple_item st.1 st.2 hx fun h' a b => q h' ⟨a, st.2.extBut b.extBut ne⟩ b
  stop := fun hh st hx q => RZ.nextOf_tuple_end hh st.1 st.2 hx q
  move := fun st k => ⟨st.1.at fun o e => k _ o (.inl rfl) e, let ⟨o, e, r⟩ := st.2; ⟨o, k _ o (.inr rfl) e, r⟩⟩
  live := fun st => let ⟨o, e, _, d⟩ := st.1; ⟨o, e, fun v z => by rw [d] at z; cases z⟩
theorem feedL {it l : Addr} {xs : Array Value} (ne : l ≠ it) : Feed it l (stL it l xs) xs where
  item := fun {_ _ _ _ s _ _ _} st hx q => wpAny_nextOf_list_item st.1 st.2 hx fun h' a b => q h' ⟨a, st.2.extBut b.extBut ne⟩ b
  stop := fun hh st hx q => wpAny_nextOf_list_end hh st.1 st.2 hx q
  move := fun st k => ⟨st.1.at fun o e => k _ o (.inl rfl) e, let ⟨o, e, r⟩ := st.2; ⟨o, k _ o (.inr rfl) e, r⟩⟩
  live := fun st => let ⟨o, e, _, d⟩ := st.1; ⟨o, e, fun v z => by rw [d] at z; cases z⟩
/-- what a turn of zip keeps -/
abbrev ZK (h h' : Heap) (q tO j1 j2 : Addr) : Prop := ∀ c o, c ≠ q → c ≠ tO → c ≠ j1 → c ≠ j2 → h.get? c = some o → h'.get? c = some o
section
variable {prog : Program} {w : World} {A : Around} {E : Value → Shared → Prop} {s : Shared}
variable {q tI tO j1 j2 l1 l2 : Addr} {st1 st2 : Nat → Heap → Prop} {xs ys : Array Value} {k1 k2 : Nat} {u1 u2 : Value}
theorem zipG_item (f1 : Feed j1 l1 st1 xs) (f2 : Feed j2 l2 st2 ys) (D : ZipApart q tI tO j1 j2 l1 l2) {x y : Value} {Q : Value → Shared → Prop}
    (hq : IsZip s.heap q tI tO .none) (hI : IsPair s.heap tI (.ref j1) (.ref j2)) (hO : IsPair s.heap tO u1 u2) (a1 : st1 k1 s.heap) (a2 : st2 k2 s.heap) (hx : xs[k1]? = some x) (hy : ys[k2]? = some y)
    (fin : ∀ h', IsZip h' q tI tO (rawInt s.heap.objs.size) → IsPair h' tO x y → st1 (k1 + 1) h' → st2 (k2 + 1) h' → IsPair h' s.heap.objs.size x y → h'.objs.size = s.heap.objs.size + 1 → ZK s.heap h' q tO j1 j2 → Q (.ref s.heap.objs.size) { s with heap := h' }) :
    wpAny (model prog w) A (Builtin.«zip.__next__» ⟨[.ref q], []⟩) (fun r s' => ∃ v, r = .done (.ret v) ∧ Q v s') E s := by
  show wpAny _ _ (field (.ref q) 2 >>= _) _ _ _
  refine wpAny_bind (wpAny_field hq rfl (x := .bool false) rfl ?_)
  show wpAny _ _ (field (.ref q) 3 >>= _) _ _ _
  refine wpAny_bind (wpAny_field hq rfl (x := .ref tI) rfl (wpAny_bind (wpAny_seqItems hI rfl ?_)))
  show wpAny _ _ (Builtin.SmallTypes.ownedTupleIsFree (.ref q) >>= _) _ _ _
  refine wpAny_bind ?_
  unfold Builtin.SmallTypes.ownedTupleIsFree
  refine wpAny_bind (wpAny_field hq rfl (x := .none) rfl (wpAny_pure ?_))
  simp only [if_true]
  refine wpAny_bind (wpAny_rule (wpAny_bind (wpAny_field hq rfl (x := .ref tO) rfl (wpAny_bind (wpAny_setField_rec hq (by simp) fun g1 z1 e1 => ?_)))))
  have z1 : IsZip g1 q tI tO .ellipsis := z1
  refine wpAny_bind ?_
  simp only [List.zipIdx_cons, List.zipIdx_nil, List.forIn_cons, List.forIn_nil]
  refine wpAny_bind (wpAny_bind (wpAny_onRaise ?_))
  show wpAny _ _ (Builtin.SmallTypes.nextOf (.ref j1) >>= _) _ _ _
  have b1 : st1 k1 g1 := f1.move a1 fun c o hc e => e1.extBut _ _ (hc.elim (fun z => z ▸ D.i1z) fun z => z ▸ D.l1z) e
  refine wpAny_bind (f1.item b1 hx fun g2 c1 e2 => wpAny_pure ?_)
  have o2 : IsPair g2 tO u1 u2 := e2.extBut _ _ D.TOi1 (e1.extBut _ _ D.TOz hO)
  refine wpAny_bind (wpAny_seqItems o2 rfl (wpAny_bind (wpAny_updateSeq_pair o2 fun g3 o3 e3 => ?_)))
  have o3 : IsPair g3 tO x u2 := o3
  refine wpAny_bind (wpAny_letGo (wpAny_pure ?_))
  refine wpAny_bind (wpAny_bind (wpAny_onRaise ?_))
  show wpAny _ _ (Builtin.SmallTypes.nextOf (.ref j2) >>= _) _ _ _
  have b2 : st2 k2 g3 := f2.move a2 fun c o hc e => by
    rcases hc with rfl | rfl
    · exact e3.extBut _ _ D.TOi2.symm (e2.extBut _ _ D.i12.symm (e1.extBut _ _ D.i2z e))
    · exact e3.extBut _ _ D.l2TO (e2.extBut _ _ D.l2i1 (e1.extBut _ _ D.l2z e))
  refine wpAny_bind (f2.item b2 hy fun g4 c2 e4 => wpAny_pure ?_)
  have o4 : IsPair g4 tO x u2 := e4.extBut _ _ D.TOi2 o3
  refine wpAny_bind (wpAny_seqItems o4 rfl (wpAny_bind (wpAny_updateSeq_pair o4 fun g5 o5 e5 => ?_)))
  have o5 : IsPair g5 tO x y := o5
  refine wpAny_bind (wpAny_letGo (wpAny_pure (wpAny_pure ?_)))
  refine wpAny_bind (wpAny_seqItems o5 rfl (wpAny_bind (wpAny_newTuple ?_)))
  have sz : g5.objs.size = s.heap.objs.size := by rw [e5.1, e4.1, e3.1, e2.1, e1.1]
  have z5 : IsZip g5 q tI tO .ellipsis := e5.extBut _ _ D.TOz.symm (e4.extBut _ _ D.i2z.symm (e3.extBut _ _ D.TOz.symm (e2.extBut _ _ D.i1z.symm z1)))
  have kp : ZK s.heap g5 q tO j1 j2 := fun c o n1 n2 n3 n4 e => e5.extBut _ _ n2 (e4.extBut _ _ n4 (e3.extBut _ _ n2 (e2.extBut _ _ n3 (e1.extBut _ _ n1 e))))
  have d1 : st1 (k1 + 1) g5 := f1.move c1 fun c o hc e => by
    rcases hc with rfl | rfl
    · exact e5.extBut _ _ D.TOi1.symm (e4.extBut _ _ D.i12 (e3.extBut _ _ D.TOi1.symm e))
    · exact e5.extBut _ _ D.l1TO (e4.extBut _ _ D.l1i2 (e3.extBut _ _ D.l1TO e))
  have d2 : st2 (k2 + 1) g5 := f2.move c2 fun c o hc e => e5.extBut _ _ (hc.elim (fun z => z ▸ D.TOi2.symm) fun z => z ▸ D.l2TO) e
  have zl : q < g5.objs.size := Heap.lt_size z5
  show wpAny _ _ (Builtin.SmallTypes.ownedTupleHandOut (.ref q) (.ref g5.objs.size) >>= _) _ _ _
  refine wpAny_bind ?_
  unfold Builtin.SmallTypes.ownedTupleHandOut
  have z6 : IsZip (g5.push { cls := .type "tuple", data := .seq #[x, y] }) q tI tO .ellipsis := Heap.get?_push_of_some _ z5
  refine wpAny_bind (wpAny_setField_rec z6 (by simp) fun g7 z7 e7 => ?_)
  have z7 : IsZip g7 q tI tO (rawInt g5.objs.size) := z7
  refine wpAny_setField_rec z7 (by simp) fun g8 z8 e8 => ?_
  have z8 : IsZip g8 q tI tO (rawInt g5.objs.size) := z8
  have up : ∀ c o, c ≠ q → g5.get? c = some o → g8.get? c = some o := fun c o n e => e8.extBut _ _ n (e7.extBut _ _ n (Heap.get?_push_of_some _ e))
  have t8 : IsPair g8 g5.objs.size x y := e8.extBut _ _ (Nat.ne_of_gt zl) (e7.extBut _ _ (Nat.ne_of_gt zl) (Heap.get?_push_size _ rfl))
  have s8 : g8.objs.size = g5.objs.size + 1 := by rw [e8.1, e7.1, Heap.size_push]
  rw [sz] at z8 t8 s8
  refine wpAny_pure ⟨_, rfl, ?_⟩
  show Q (.ref g5.objs.size) _
  rw [sz]
  exact fin g8 z8 (up _ _ D.TOz o5) (f1.move d1 fun c o hc e => up c o (hc.elim (fun z => z ▸ D.i1z) fun z => z ▸ D.l1z) e) (f2.move d2 fun c o hc e => up c o (hc.elim (fun z => z ▸ D.i2z) fun z => z ▸ D.l2z) e) t8 s8 fun c o n1 n2 n3 n4 e => up c o n1 (kp c o n1 n2 n3 n4 e)
theorem zipG_end (f1 : Feed j1 l1 st1 xs) (f2 : Feed j2 l2 st2 ys) (hh : A.handled = none) (D : ZipApart q tI tO j1 j2 l1 l2) {Q : Fin → Shared → Prop}
    (hq : IsZip s.heap q tI tO .none) (hI : IsPair s.heap tI (.ref j1) (.ref j2)) (hO : IsPair s.heap tO u1 u2) (a1 : st1 k1 s.heap) (a2 : st2 k2 s.heap) (he : xs[k1]? = none ∨ ys[k2]? = none)
    (fin : ∀ h' e, ZK s.heap h' q tO j1 j2 → (∃ o, h'.get? e = some o ∧ o.cls = .type "StopIteration") → E (.ref e) { s with heap := h' }) :
    wpAny (model prog w) A (Builtin.«zip.__next__» ⟨[.ref q], []⟩) Q E s := by
  show wpAny _ _ (field (.ref q) 2 >>= _) _ _ _
  refine wpAny_bind (wpAny_field hq rfl (x := .bool false) rfl ?_)
  show wpAny _ _ (field (.ref q) 3 >>= _) _ _ _
  refine wpAny_bind (wpAny_field hq rfl (x := .ref tI) rfl (wpAny_bind (wpAny_seqItems hI rfl ?_)))
  show wpAny _ _ (Builtin.SmallTypes.ownedTupleIsFree (.ref q) >>= _) _ _ _
  refine wpAny_bind ?_
  unfold Builtin.SmallTypes.ownedTupleIsFree
  refine wpAny_bind (wpAny_field hq rfl (x := .none) rfl (wpAny_pure ?_))
  simp only [if_true]
  refine wpAny_bind (wpAny_rule (wpAny_bind (wpAny_field hq rfl (x := .ref tO) rfl (wpAny_bind (wpAny_setField_rec hq (by simp) fun g1 z1 e1 => ?_)))))
  have z1 : IsZip g1 q tI tO .ellipsis := z1
  refine wpAny_bind ?_
  simp only [List.zipIdx_cons, List.zipIdx_nil, List.forIn_cons, List.forIn_nil]
  refine wpAny_bind (wpAny_bind (wpAny_onRaise ?_))
  show wpAny _ _ (Builtin.SmallTypes.nextOf (.ref j1) >>= _) _ _ _
  have b1 : st1 k1 g1 := f1.move a1 fun c o hc e => e1.extBut _ _ (hc.elim (fun z => z ▸ D.i1z) fun z => z ▸ D.l1z) e
  cases hx : xs[k1]? with
  | none =>
    refine wpAny_bind (f1.stop hh b1 hx fun g2 e e2 he => ?_)
    obtain ⟨ob, p1, p2⟩ := he
    have z2 : IsZip g2 q tI tO .ellipsis := e2 _ _ D.i1z.symm z1
    have ne : e ≠ q := fun z => by subst z; rw [z2] at p1; cases p1; simp at p2
    exact wpAny_setField_rec z2 (by simp) fun g3 _ e3 => fin g3 e (fun c o n1 _ n3 _ z => e3.extBut _ _ n1 (e2 _ _ n3 (e1.extBut _ _ n1 z))) ⟨ob, e3.extBut _ _ ne p1, p2⟩
  | some x =>
    have hy : ys[k2]? = none := he.elim (fun z => by rw [hx] at z; cases z) id
    refine wpAny_bind (f1.item b1 hx fun g2 c1 e2 => wpAny_pure ?_)
    have o2 : IsPair g2 tO u1 u2 := e2.extBut _ _ D.TOi1 (e1.extBut _ _ D.TOz hO)
    refine wpAny_bind (wpAny_seqItems o2 rfl (wpAny_bind (wpAny_updateSeq_pair o2 fun g3 o3 e3 => wpAny_bind (wpAny_letGo (wpAny_pure ?_)))))
    refine wpAny_bind (wpAny_bind (wpAny_onRaise ?_))
    show wpAny _ _ (Builtin.SmallTypes.nextOf (.ref j2) >>= _) _ _ _
    have b2 : st2 k2 g3 := f2.move a2 fun c o hc e => by
      rcases hc with rfl | rfl
      · exact e3.extBut _ _ D.TOi2.symm (e2.extBut _ _ D.i12.symm (e1.extBut _ _ D.i2z e))
      · exact e3.extBut _ _ D.l2TO (e2.extBut _ _ D.l2i1 (e1.extBut _ _ D.l2z e))
    refine wpAny_bind (f2.stop hh b2 hy fun g4 e e4 he => ?_)
    obtain ⟨ob, p1, p2⟩ := he
    have z4 : IsZip g4 q tI tO .ellipsis := e4 _ _ D.i2z.symm (e3.extBut _ _ D.TOz.symm (e2.extBut _ _ D.i1z.symm z1))
    have ne : e ≠ q := fun z => by subst z; rw [z4] at p1; cases p1; simp at p2
    exact wpAny_setField_rec z4 (by simp) fun g5 _ e5 => fin g5 e (fun c o n1 n2 n3 n4 z => e5.extBut _ _ n1 (e4 _ _ n4 (e3.extBut _ _ n2 (e2.extBut _ _ n3 (e1.extBut _ _ n1 z))))) ⟨ob, e5.extBut _ _ ne p1, p2⟩
theorem nextG_item (f1 : Feed j1 l1 st1 xs) (f2 : Feed j2 l2 st2 ys) (D : ZipApart q tI tO j1 j2 l1 l2) {x y : Value} {Q : Option Value → Shared → Prop}
    (hq : IsZip s.heap q tI tO .none) (hI : IsPair s.heap tI (.ref j1) (.ref j2)) (hO : IsPair s.heap tO u1 u2) (a1 : st1 k1 s.heap) (a2 : st2 k2 s.heap) (hx : xs[k1]? = some x) (hy : ys[k2]? = some y)
    (fin : ∀ h', IsZip h' q tI tO (rawInt s.heap.objs.size) → IsPair h' tO x y → st1 (k1 + 1) h' → st2 (k2 + 1) h' → IsPair h' s.heap.objs.size x y → h'.objs.size = s.heap.objs.size + 1 → ZK s.heap h' q tO j1 j2 → Q (some (.ref s.heap.objs.size)) { s with heap := h' }) :
    wpAny (model prog w) A (pyNext (.ref q)) Q E s := by
  have ty : s.TypeIs (.ref q) "zip" := ⟨_, hq, rfl⟩
  unfold pyNext
  exact wpAny_bind (wpAny_attempt (wpAny_callSpecial?_slot (name := Str.ofString "__next__") ty F.slot_zip_next
    (wpAny_call_entry F.slot_zip_next ty F.entry_zip_next (zipG_item f1 f2 D hq hI hO a1 a2 hx hy fun h' c1 c2 c3 c4 c5 c6 c7 => wpAny_pure (fin h' c1 c2 c3 c4 c5 c6 c7)) (F.args_zip_next_1 _))))
theorem nextG_end (f1 : Feed j1 l1 st1 xs) (f2 : Feed j2 l2 st2 ys) (hh : A.handled = none) (D : ZipApart q tI tO j1 j2 l1 l2) {Q : Option Value → Shared → Prop}
    (hq : IsZip s.heap q tI tO .none) (hI : IsPair s.heap tI (.ref j1) (.ref j2)) (hO : IsPair s.heap tO u1 u2) (a1 : st1 k1 s.heap) (a2 : st2 k2 s.heap) (he : xs[k1]? = none ∨ ys[k2]? = none)
    (fin : ∀ h', ZK s.heap h' q tO j1 j2 → Q none { s with heap := h' }) : wpAny (model prog w) A (pyNext (.ref q)) Q E s := by
  have ty : s.TypeIs (.ref q) "zip" := ⟨_, hq, rfl⟩
  unfold pyNext
  refine wpAny_bind (wpAny_attempt (wpAny_callSpecial?_slot (name := Str.ofString "__next__") ty F.slot_zip_next
    (wpAny_call_entry F.slot_zip_next ty F.entry_zip_next (zipG_end (A := A.in1) f1 f2 hh D hq hI hO a1 a2 he fun h' e hk ⟨ob, p1, p2⟩ => ?_) (F.args_zip_next_1 _))))
  exact wpAny_bind (wpAny_isInstance (T := "StopIteration") (b := true) ⟨ob, p1, p2⟩ isSubtype_stop (wpAny_pure (fin _ hk)))
end
end Sd

/-! Sd: zip(a tuple, a list) -/
namespace Sd
open PySem PySem.Spec L2
open PyProof.Rows
abbrev m1 (h : Heap) (l1 : Addr) : Heap := h.push { cls := .type "tuple_iterator", data := .fields #[.ref l1, .int 0 0] }
abbrev m2 (h : Heap) (l1 l2 : Addr) : Heap := (m1 h l1).push { cls := .type "list_iterator", data := .fields #[.ref l2, .int 0 0] }
abbrev m3 (h : Heap) (l1 l2 : Addr) : Heap := (m2 h l1 l2).push { cls := .type "tuple", data := .seq #[.ref h.objs.size, .ref (m1 h l1).objs.size] }
abbrev m4 (h : Heap) (l1 l2 : Addr) : Heap := (m3 h l1 l2).push { cls := .type "tuple", data := .seq #[.none, .none] }
abbrev m5 (h : Heap) (l1 l2 : Addr) : Heap := (m4 h l1 l2).push { cls := .type "zip", data := .fields #[.none, .bool false, .bool false, .ref (m2 h l1 l2).objs.size, .ref (m3 h l1 l2).objs.size] }
theorem newM (l1 l2 : Addr) (xs ys : Array Value) :
    Meets (Builtin.«zip.__new__» ⟨[.type "zip", .ref l1, .ref l2], []⟩) (fun _ R s => s.heap.IsTuple l1 xs ∧ s.heap.IsList l2 ys ∧ R (.ok (.ret (.ref (m4 s.heap l1 l2).objs.size))) { s with heap := m5 s.heap l1 l2 }) :=
  .of_wp fun prog w A R s h => by
    obtain ⟨hp, g, d, tk, os⟩ := s
    obtain ⟨b1, b2, h⟩ := h
    have hsub := sub_zip
    have c1 : Heap.IsTuple (Shared.heap ⟨hp, g, d, tk, os⟩) l1 xs := b1
    have c2 : Heap.IsList (Shared.heap ⟨hp.push { cls := .type "tuple_iterator", data := .fields #[.ref l1, .int 0 0] }, g, d, tk, os⟩) l2 ys := Heap.IsList.push b2 _
    wp_walk using wpAny_pyIter_tuple c1, wpAny_pyIter_list c2
    exact ⟨_, rfl, h⟩
theorem callM {prog : Program} {w : World} {A : Around} {E : Value → Shared → Prop} {s : Shared} {l1 l2 : Addr} {xs ys : Array Value} {Q : Value → Shared → Prop} (b1 : s.heap.IsTuple l1 xs) (b2 : s.heap.IsList l2 ys)
    (h : ∀ h', IsZip h' (s.heap.objs.size + 4) (s.heap.objs.size + 2) (s.heap.objs.size + 3) .none → IsPair h' (s.heap.objs.size + 2) (.ref s.heap.objs.size) (.ref (s.heap.objs.size + 1)) → IsPair h' (s.heap.objs.size + 3) .none .none →
      h'.IsTupleIter s.heap.objs.size l1 0 → h'.IsListIter (s.heap.objs.size + 1) l2 0 → (∀ c o, s.heap.get? c = some o → h'.get? c = some o) → Q (.ref (s.heap.objs.size + 4)) { s with heap := h' }) :
    wpAny (model prog w) A (call (.type "zip") [.ref l1, .ref l2]) Q E s := by
  refine callType_new F.called_zip (by decide) (F.typeCall_zip_2 _ _) (F.newCall_zip_2 _ _) (fun obj => F.args_object_init_3 obj _ _) F.entry_zip_new (newM l1 l2 xs ys) ⟨b1, b2, ?_⟩
  have z1 : (m1 s.heap l1).objs.size = s.heap.objs.size + 1 := Heap.size_push ..
  have z2 : (m2 s.heap l1 l2).objs.size = s.heap.objs.size + 2 := by rw [Heap.size_push, z1]
  have z3 : (m3 s.heap l1 l2).objs.size = s.heap.objs.size + 3 := by rw [Heap.size_push, z2]
  have z4 : (m4 s.heap l1 l2).objs.size = s.heap.objs.size + 4 := by rw [Heap.size_push, z3]
  have keep : ∀ {h : Heap} {c : Addr} {ob o : Obj}, h.get? c = some o → (h.push ob).get? c = some o := fun e => Heap.get?_push_of_some _ e
  have g5 : (m5 s.heap l1 l2).get? (m4 s.heap l1 l2).objs.size = some _ := Heap.get?_push_size _ rfl
  have g4 : (m5 s.heap l1 l2).get? (m3 s.heap l1 l2).objs.size = some _ := keep (Heap.get?_push_size _ rfl)
  have g3 : (m5 s.heap l1 l2).get? (m2 s.heap l1 l2).objs.size = some _ := keep (keep (Heap.get?_push_size _ rfl))
  have g2 : (m5 s.heap l1 l2).get? (m1 s.heap l1).objs.size = some _ := keep (keep (keep (Heap.get?_push_size _ rfl)))
  have g1 : (m5 s.heap l1 l2).get? s.heap.objs.size = some _ := keep (keep (keep (keep (Heap.get?_push_size _ rfl))))
  show _ ∧ _
  rw [z2, z3, z4] at g5
  rw [z1, z2] at g3
  rw [z3] at g4
  rw [z1] at g2
  rw [z4]
  exact ⟨⟨_, g5, rfl⟩, h _ g5 g3 g4 ⟨_, g1, rfl, rfl⟩ ⟨_, g2, rfl, rfl⟩ fun c o x => keep (keep (keep (keep (keep x))))⟩
/-- the tuple at a, the list at b, the items in new pairs -/
def ItM (K : PySem.W.Frag) (a b : Addr) : It :=
  ⟨fun i H => ∃ (xs ys : List V) (x y : V), SqT K H a xs ∧ SqL K H b ys ∧ xs[i]? = some x ∧ ys[i]? = some y,
    fun i H v H' => ∃ T x y, v = .ref T ∧ H T = none ∧ H' = upd H T (.tup [x, y]) ∧ (∀ xs, SqT K H a xs → xs[i]? = some x) ∧ ∀ ys, SqL K H b ys → ys[i]? = some y,
    fun i H => ∃ xs ys : List V, SqT K H a xs ∧ SqL K H b ys ∧ (xs.length ≤ i ∨ ys.length ≤ i)⟩
theorem turnM {P : Program} {w : World} {K : PySem.W.Frag} {elts : List Expr} {kk : Nat} {tpos : Pos} {a b q tI tO j1 j2 : Addr} (D : ZipApart q tI tO j1 j2 a b) :
    Turn P w K (.Tuple elts kk tpos) (ItM K a b) [q, tI, tO, j1, j2] q (fun i h => IsZip h q tI tO .none ∧ IsPair h tI (.ref j1) (.ref j2) ∧ (∃ x y, IsPair h tO x y) ∧ h.IsTupleIter j1 a i ∧ h.IsListIter j2 b i) where
  mem := by simp
  obj := fun i h st c hc => by
    obtain ⟨p1, p2, ⟨x, y, p3⟩, ⟨o1, e1, _, d1⟩, ⟨o2, e2, _, d2⟩⟩ := st
    simp only [List.mem_cons, List.not_mem_nil, or_false] at hc
    rcases hc with rfl | rfl | rfl | rfl | rfl
    · exact ⟨_, p1, fun v z => nomatch z⟩
    · exact ⟨_, p2, fun v z => nomatch z⟩
    · exact ⟨_, p3, fun v z => nomatch z⟩
    · exact ⟨o1, e1, fun v z => by rw [d1] at z; cases z⟩
    · exact ⟨o2, e2, fun v z => by rw [d2] at z; cases z⟩
  keep := fun i h h' st k =>
    let ⟨p1, p2, ⟨x, y, p3⟩, p4, p5⟩ := st
    ⟨k q (by simp) _ p1, k tI (by simp) _ p2, ⟨x, y, k tO (by simp) _ p3⟩, p4.at fun o z => k j1 (by simp) o z, p5.at fun o z => k j2 (by simp) o z⟩
  item := by
    intro X hP hw hK hc i pins s σ H E I hf st hg
    subst hP hw hK
    obtain ⟨p1, p2, ⟨x0, y0, p3⟩, p4, p5⟩ := st
    obtain ⟨xs, ys, x, y, qx, qy, hx, hy⟩ := hg
    obtain ⟨us, ru, tu, _⟩ := I.tuple qx
    obtain ⟨ws, rw', tw, _⟩ := I.list qy
    obtain ⟨u, hu, r1⟩ := ru.get hx
    obtain ⟨v, hv, r2⟩ := rw'.get hy
    have lq : q < s.heap.objs.size := Heap.lt_size p1
    have tu' : s.heap.IsTuple a us.toArray := tu
    refine nextG_item (feedT D.l1i1) (feedL D.l2i2) D p1 p2 p3 ⟨p4, tu'⟩ ⟨p5, tw.isList⟩ (x := u) (y := v) (by simpa using hu) (by simpa using hv) fun h' z' o' a1 a2 hT hsz hk => ?_
    refine ⟨_, rfl, wpAny_letOwnedTupleGo_zip (s := { s with heap := h' }) z' fun h'' z'' sb => ?_⟩
    have hT2 : h''.get? s.heap.objs.size = some { cls := .type "tuple", data := .seq #[u, v] } := (sb.2 _ (Nat.ne_of_gt lq)).trans hT
    have new : ObjOk X.prog X.w (upd H s.heap.objs.size (.tup [x, y])) h'' s.heap.objs.size (.tup [x, y]) := ⟨(by decide : 2 ≤ sizeLine), [u, v], .cons r1 (.cons r2 .nil), ⟨_, hT2, rfl, _, rfl⟩⟩
    have away : ∀ c, c ∉ [q, tI, tO, j1, j2] → c ≠ q ∧ c ≠ tO ∧ c ≠ j1 ∧ c ≠ j2 := fun c h => by
      simp only [List.mem_cons, List.not_mem_nil, or_false, not_or] at h
      exact ⟨h.1, h.2.2.1, h.2.2.2.1, h.2.2.2.2⟩
    have I1 : Inv X pins σ (upd H s.heap.objs.size (.tup [x, y])) { s with heap := h'' } :=
      I.turnedNew (t' := s.toks) (ch := [q, tI, tO, j1, j2]) (fun c o hb z => let n := away c hb; (sb.2 c n.1).trans (hk c o n.1 n.2.1 n.2.2.1 n.2.2.2 z)) hf (Nat.le_refl _) new
    refine ⟨.ref s.heap.objs.size, _, I1, rfl, ⟨_, x, y, rfl, I.hok.fresh (Nat.le_refl _), rfl, fun l hl => by rw [I.tuple_inj hl qx]; exact hx, fun l hl => by rw [I.list_inj hl qy]; exact hy⟩, ⟨z'', (sb.2 _ D.TIz).trans (hk _ _ D.TIz D.TITO D.TIi1 D.TIi2 p2), ⟨u, v, (sb.2 _ D.TOz).trans o'⟩, a1.1.at fun o z => (sb.2 _ D.i1z).trans z, a2.1.at fun o z => (sb.2 _ D.i2z).trans z⟩, fun c hcm => ?_⟩
    have lt : c < s.heap.objs.size := by
      have hcm' := hcm
      simp only [List.mem_cons, List.not_mem_nil, or_false] at hcm'
      rcases hcm' with rfl | rfl | rfl | rfl | rfl
      · exact lq
      · exact Heap.lt_size p2
      · exact Heap.lt_size p3
      · obtain ⟨_, e1, _⟩ := p4; exact Heap.lt_size e1
      · obtain ⟨_, e1, _⟩ := p5; exact Heap.lt_size e1
    rw [upd_ne (Nat.ne_of_lt lt)]
    exact (hf c hcm).1
  done := by
    intro X hP hw hK hc i pins s σ H E I hf st hg
    subst hP hw hK
    obtain ⟨p1, p2, ⟨x0, y0, p3⟩, p4, p5⟩ := st
    obtain ⟨xs, ys, qx, qy, he⟩ := hg
    obtain ⟨us, ru, tu, _⟩ := I.tuple qx
    obtain ⟨ws, rw', tw, _⟩ := I.list qy
    have l1 := ru.length
    have l2 := rw'.length
    have tu' : s.heap.IsTuple a us.toArray := tu
    have he' : us.toArray[i]? = none ∨ ws.toArray[i]? = none := he.imp (fun z => by simp; omega) fun z => by simp; omega
    refine nextG_end (feedT D.l1i1) (feedL D.l2i2) (I.ok.hd hc) D p1 p2 p3 ⟨p4, tu'⟩ ⟨p5, tw.isList⟩ he' fun h' hk => ⟨rfl, I.turnedL (t' := s.toks) (ch := [q, tI, tO, j1, j2]) (fun c o hb z => ?_) hf⟩
    simp only [List.mem_cons, List.not_mem_nil, or_false, not_or] at hb
    exact hk c o hb.1 hb.2.2.1 hb.2.2.2.1 hb.2.2.2.2 z
  self := fun A i s Q E st h => wpAny_pyIter_zip st.1 h
def iZipM (K : PySem.W.Frag) (ta : TA) : TI := fun σ H R => ta σ H fun vs H1 => ∃ a b xs ys, vs = [.ref a, .ref b] ∧ SqT K H1 a xs ∧ SqL K H1 b ys ∧ R (ItM K a b) H1
theorem kpi_zipM {X : Cx} (K : PySem.W.Frag) {e e2 : Expr} {ta : TA} {p pos tpos : Pos} {elts : List Expr} {kk : Nat} (hg : Gl X "zip") (hm : X.mg "zip" = none) (ha : PA X [e, e2] ta) (hK : X.K = K := by rfl)
    (hs : starEach [e, e2] X.env = (false, eval e X.env) :: starEach [e2] X.env := by rfl) (hpl : (backTo pos (starEach [e2] X.env)).any (·.1) = false := by rfl) : PI X (.Tuple elts kk tpos) (.Call (.Name "zip" p) [e, e2] [] pos) (iZipM K ta) := by
  subst hK
  refine ⟨fun pins s σ H R I h => Call_ (ld_blt I hg hm PyProof.Rows.boot_zip (PyProof.Rows.callWith_type1 (thn (ha.run pos pins s σ H _ I h) fun us s1 ⟨vs, H1, I1, r1, q1⟩ => ?_) hs hpl))⟩
  obtain ⟨a, b, xs, ys, rfl, qx, qy, q⟩ := q1
  cases r1 with
  | cons r rr =>
    cases rr with
    | cons r' rr =>
      cases rr
      cases r
      cases r'
      obtain ⟨its, rv, t1, _⟩ := I1.tuple qx
      obtain ⟨its2, rv2, t2, _⟩ := I1.list qy
      obtain ⟨o1, ho1, _⟩ := id t1
      have t1' : s1.heap.IsTuple a its.toArray := t1
      refine callM t1' t2.isList fun h' hz hTI hTO h1 h2 hk => wpAny_pyIter_zip hz ?_
      have I2 : Inv X pins σ H1 { s1 with heap := h' } := I1.kept (t' := s1.toks) hk
      refine ⟨s1.heap.objs.size + 4, [s1.heap.objs.size + 4, s1.heap.objs.size + 2, s1.heap.objs.size + 3, s1.heap.objs.size, s1.heap.objs.size + 1], _, _, H1, rfl, I2, turnM (PySem.W.ktu_apart s1.heap.objs.size a b (Heap.lt_size ho1) t2.lt), ⟨hz, hTI, ⟨_, _, hTO⟩, h1, h2⟩, fun c hc => ?_, q⟩
      have le : s1.heap.objs.size ≤ c := by
        simp only [List.mem_cons, List.not_mem_nil, or_false] at hc
        rcases hc with rfl | rfl | rfl | rfl | rfl <;> first | exact Nat.le_add_right _ _ | exact Nat.le_refl _
      exact I1.fpOk le (I1.hok.fresh le)
end Sd

/-! Sd: comprehensions over zip(a tuple, a list), over a list that may change; enumerate of such a one -/
namespace Sd
open PySem L2
section
variable {K : PySem.W.Frag} {δ : DSt} {M : Mem} {P : SV → Mem → Prop} {te tl : TE} {tt : TT} {g : TG} {t : TS} {D : DEnds}
theorem dE_lcZM {ts : TA} {vs : List Nat} (hg : GW g vs) (h : dA K ts δ M fun rs M1 => ∃ xs ys : List PyData, rs = [.d (.tuple xs), .d (.list ys)] ∧ xs.length ≤ 40000 ∧ ∃ I : Nat → List PyData → Mem → Prop, I 0 [] M1 ∧
      (∀ (i : Nat) x y acc M', xs[i]? = some x → ys[i]? = some y → I i acc M' → dG K g (.d (.tuple [x, y])) (wipeD δ vs) M' fun δ2 M2 => dT K tt δ2 M2 fun b M3 => if b = true then dE K te δ2 M3 fun y M4 => ∃ d, y = .d d ∧ I (i + 1) (acc ++ [d]) M4 else I (i + 1) acc M3) ∧ ∀ acc M', I (min xs.length ys.length) acc M' → Res P acc M') :
    dE K (tLc (iZipM K ts) g tt te vs) δ M P := fun σ H H1 e w Q q =>
  h σ H H1 e w _ fun us rs H' M' H2 hb s w' vv => by
    obtain ⟨xs, ys, rfl, hz, I, i0, it, ie⟩ := hb
    cases vv with
    | cons h1 h2 =>
      cases h2 with
      | cons h2 h3 =>
        cases h3
        cases h1 with
        | tup a1 a2 =>
          cases h2 with
          | lst b1 b2 =>
            rename_i a us b ws
            have l1 := a2.length
            have l2 := b2.length
            have sa : ∀ {Dl : Addr} {i : Nat} {H3 : Hp}, LcW K H' H2 M' Dl (I i) i H3 → SqT K H3 a us ∧ SqL K H3 b ws := fun {Dl i H3} p => by
              obtain ⟨_, _, _, _, _, _, s3, w3, _⟩ := p
              exact ⟨sqTx w3.ex (sqTx s3.pure a1), SqL.of (w3.ex _ _ (s3.pure _ _ b1))⟩
            refine ⟨a, b, us, ws, rfl, sqTx w'.ex a1, SqL.of (w'.ex _ _ b1), fun Dl hD => ⟨fun i m H3 => m = min xs.length ys.length - i ∧ i ≤ min xs.length ys.length ∧ LcW K H' H2 M' Dl (I i) i H3, ⟨_, rfl, Nat.zero_le _, lcw_start w' hD i0⟩, ?_⟩⟩
            rintro i m H3 ⟨rfl, hi, p⟩
            obtain ⟨q1, q2⟩ := sa p
            by_cases hlt : i < min xs.length ys.length
            · have x1 : i < us.length := by omega
              have x2 : i < ws.length := by omega
              refine .inr ⟨⟨us, ws, us[i], ws[i], q1, q2, List.getElem?_eq_getElem x1, List.getElem?_eq_getElem x2⟩, LcW K H' H2 M' Dl (I (i + 1)) (i + 1), fun H4 p' => ⟨_, by omega, rfl, hlt, p'⟩, fun x H4 y => ?_⟩
              obtain ⟨T, u1, u2, rfl, hT, rfl, e1, e2⟩ := y
              obtain ⟨d1, g1, k1⟩ := a2.get (e1 us q1)
              obtain ⟨d2, g2, k2⟩ := b2.get (e2 ws q2)
              exact lcw_pair hg (by omega) w' (e.mono s.pure) hD p hT k1 k2 (fun acc M' hI => it i d1 d2 acc M' g1 g2 hI)
            · have e0 : i = min xs.length ys.length := by omega
              subst e0
              exact .inl ⟨⟨us, ws, q1, q2, by omega⟩, lcw_end w' hD p ie fun v r Ha Ma Hb pp s3 w3 vr => q v r Ha Ma Hb pp (s.trans w w' s3) w3 vr⟩
/-- a list that may change, set aside while something else is done -/
theorem aside {H H1 : Hp} {a : Addr} {ds : List PyData} (w : WOk K H M H1) (hm : M a = some ds) : ∃ xs, H a = none ∧ H1 a = some (.lst xs) ∧ DqAll K H xs ds ∧ WOk K H (mdel M a) H1 ∧
    ∀ {Ha H3 : Hp} {M2 : Mem}, Step H H1 (mdel M a) Ha H3 M2 → WOk K Ha M2 H3 → H3 a = some (.lst xs) ∧ Ha a = none ∧ M2 a = none ∧ Step H H1 M Ha H3 (mset M2 a ds) ∧ WOk K Ha (mset M2 a ds) H3 := by
  obtain ⟨hpn, xs, hp, h2⟩ := w.cell a ds hm
  refine ⟨xs, hpn, hp, h2, w.mdel, fun {Ha H3 M2} s2 w2 => ?_⟩
  have k1 := s2.keep a _ hp mdel_same
  obtain ⟨k2, k3⟩ := s2.new a hpn mdel_same (by rw [hp]; simp)
  refine ⟨k1, k2, k3, ⟨s2.pure, fun b o hb hn => s2.keep b o hb (by
    by_cases e : b = a
    · subst e; exact mdel_same
    · rw [mdel_ne e]; exact hn), fun b hb hn hh => ?_⟩, ⟨w2.ex, fun b fs hb => ?_⟩⟩
  · have e : b ≠ a := by rintro rfl; rw [hm] at hn; cases hn
    rw [mset_ne e]
    exact s2.new b hb (by rw [mdel_ne e]; exact hn) hh
  · by_cases e : b = a
    · subst e; rw [mset_same] at hb; cases hb
      exact ⟨k2, xs, k1, h2.mono s2.pure⟩
    · rw [mset_ne e] at hb; exact w2.cell b fs hb
theorem dE_lcM {vs : List Nat} (hg : GW g vs) (h : dE K tl δ M fun r M1 => ∃ a ds, r = .m a ∧ M1 a = some ds ∧ ds.length ≤ 40000 ∧ ∃ I : Nat → List PyData → Mem → Prop, I 0 [] (mdel M1 a) ∧
      (∀ (i : Nat) x acc M', ds[i]? = some x → I i acc M' → dG K g (.d x) (wipeD δ vs) M' fun δ2 M2 => dT K tt δ2 M2 fun b M3 => if b = true then dE K te δ2 M3 fun y M4 => ∃ d, y = .d d ∧ I (i + 1) (acc ++ [d]) M4 else I (i + 1) acc M3) ∧ ∀ acc M', I ds.length acc M' → P (.d (.list acc)) (mset M' a ds)) :
    dE K (tLc (iList K tl) g tt te vs) δ M P := fun σ H H1 e w Q q =>
  h σ H H1 e w _ fun v r H' M' H2 hb s w' vv => by
    obtain ⟨a, ds, rfl, hm, hz, I, i0, it, ie⟩ := hb
    cases vv
    obtain ⟨xs, hpn, hp, h2, wd, back⟩ := aside w' hm
    have hl := h2.length
    refine ⟨a, rfl, ⟨xs, SqL.of hp⟩, fun Dl hD => lc_list (xs := xs) (fun i => LcW K H' H2 (mdel M' a) Dl (I i) i) (lcw_start wd hD i0) (fun i H3 _ p => ?_) (fun i x H3 hx p => ?_) fun H3 p => ?_⟩
    · obtain ⟨_, _, _, _, _, _, s3, w3, _⟩ := p
      exact SqL.of (back s3 w3).1
    · obtain ⟨d, hd, vd⟩ := h2.get hx
      have hi := (List.getElem?_eq_some_iff.mp hd).1
      exact lcw_turn (x := .d d) hg (by omega) wd (e.mono s.pure) hD p (fun H' ex => Dq.mono ex _ _ vd) (fun acc M' hI => it i d acc M' hd hI)
    · rw [hl] at p
      refine lcw_end (P := fun r M3 => P r (mset M3 a ds)) wd hD p (fun acc M3 hI => .inl (ie acc M3 hI)) fun v r Ha Ma Hb pp s3 w3 vr => ?_
      obtain ⟨_, _, _, b4, b5⟩ := back s3 w3
      exact q v r Ha _ Hb pp (s.trans w w' b4) b5 vr
theorem dS_forEM {ts : TA} (h : dA K ts δ M fun rs M1 => ∃ a ds, rs = [.m a] ∧ M1 a = some ds ∧ ∃ I : Nat → DSt → Mem → Prop, I 0 δ (mdel M1 a) ∧
      (∀ (i : Nat) x δ' M', ds[i]? = some x → I i δ' M' → dG K g (.d (.tuple [.int (i : Nat), x])) δ' M' fun δ2 M2 => dS K t { D with nx := I (i + 1), ct := I (i + 1), bk := fun _ _ => False } δ2 M2) ∧ ∀ δ' M', I ds.length δ' M' → D.nx δ' (mset M' a ds)) :
    dS K (tFor (iEnum K ts) g t) D δ M := fun D' σ H H1 e w o =>
  h σ H H1 e w _ fun vs rs H' M' H2 hb s w' vv => by
    obtain ⟨a, ds, rfl, hm, I, i0, it, ie⟩ := hb
    cases vv with
    | cons hv ht =>
      cases ht
      cases hv
      obtain ⟨xs, hpn, hp, h2, wd, back⟩ := aside w' hm
      have hl := h2.length
      refine ⟨a, xs, rfl, SqL.of hp, fun i m σ' H3 => m = xs.length - i ∧ i ≤ xs.length ∧ ∃ δ' M2 Ha, I i δ' M2 ∧ Step H' H2 (mdel M' a) Ha H3 M2 ∧ EnvOk K Ha σ' δ' ∧ WOk K Ha M2 H3, ⟨_, rfl, Nat.zero_le _, δ, _, H', i0, Step.refl, e.mono s.pure, wd⟩, ?_⟩
      rintro i m σ' H3 ⟨rfl, hi, δ', M2, Ha, p, s2, e2, w2⟩
      have sq : SqL K H3 a xs := SqL.of (back s2 w2).1
      by_cases hlt : i < xs.length
      · refine .inr ⟨⟨xs, xs[i], sq, by simp [hlt]⟩, fun σ4 H4 => ∃ δ' M2 Ha, I (i + 1) δ' M2 ∧ Step H' H2 (mdel M' a) Ha H4 M2 ∧ EnvOk K Ha σ4 δ' ∧ WOk K Ha M2 H4, fun σ4 H4 p4 => ⟨xs.length - (i + 1), by omega, rfl, hlt, p4⟩, fun v H4 y => ?_⟩
        obtain ⟨T, x, rfl, hT, rfl, hx⟩ := y
        obtain ⟨d, hd, vd⟩ := h2.get (hx xs sq)
        obtain ⟨w5, s5⟩ := laid_ok (o := .tup [.int (i : Nat), x]) w2 hT
        have vT : Dq K (upd Ha T (.tup [.int (i : Nat), x])) (.ref T) (.tuple [.int (i : Nat), d]) := .tup (SqT.of upd_same) (.cons (.int _) (.cons (Dq.mono (s2.pure.trans s5.pure) _ _ vd) .nil))
        have s6 := s2.trans wd w2 s5
        refine (it i d δ' M2 hd p) (.ref T) σ' _ _ (e2.mono s5.pure) w5 vT _ fun δ2 M3 σ2 Hb Hc hS s3 e3 w3 => hS _ σ2 Hb Hc e3 w3
          ⟨fun δ3 M4 σ3 Hd He p s4 e4 w4 => ⟨δ3, M4, Hd, p, (s6.trans wd w5 s3).trans wd w3 s4, e4, w4⟩, fun r v Hd M4 He p s4 w4 vv => ?_,
           fun δ3 M4 σ3 Hd He p s4 e4 w4 => p.elim, fun δ3 M4 σ3 Hd He p s4 e4 w4 => ⟨δ3, M4, Hd, p, (s6.trans wd w5 s3).trans wd w3 s4, e4, w4⟩⟩
        obtain ⟨b1, b2, b3, b4, b5⟩ := back ((s6.trans wd w5 s3).trans wd w3 s4) w4
        refine o.rt r v Hd M4 He p (s.trans w w' ⟨b4.pure, b4.keep, fun b hb hn hh => ⟨(b4.new b hb hn hh).1, ?_⟩⟩) w4 vv
        have ne : b ≠ a := by rintro rfl; rw [hm] at hn; cases hn
        have := (b4.new b hb hn hh).2
        rw [mset_ne ne] at this
        exact this
      · rw [show i = ds.length by omega] at p
        obtain ⟨b1, b2, b3, b4, b5⟩ := back s2 w2
        exact .inl ⟨⟨xs, sq, by omega⟩, o.nx δ' _ σ' Ha H3 (ie _ _ p) (s.trans w w' b4) e2 b5⟩
end
end Sd

/-! Sd: sorted(a tuple) -/
namespace Sd
open PySem PySem.Spec PyProof.Rows L2
/-- the items of a tuple in a new list, the heap told -/
theorem collectT {prog : Program} {w : World} {A : Around} {E : Value → Shared → Prop} {s : Shared} {a : Addr} {ob : Obj} {xs : Array Value} {n : Nat} {Q : List Value → Shared → Prop} (ho : s.heap.get? a = some ob) (hc : ob.cls = .type "tuple") (hd : ob.data = .seq xs n) (hz : xs.size ≤ sizeLine)
    (h : Q xs.toList { s with heap := (s.heap.push { cls := .type "list", data := .seq ([] : List Value).toArray }).update s.heap.objs.size (Obj.mapSeq (· ++ xs)) }) : wpAny (model prog w) A (collect (.ref a)) Q E s := by
  unfold collect
  refine wpAny_bind (wpAny_runValue (codeAny_builtin F.entry_proto_collect ?_))
  rw [Around.under_plainId F.plain_proto_collect _]
  show wpAny _ A.in1 (newList [] >>= fun l => again (.builtin "list.__iadd__" ⟨[l, .ref a], []⟩)) _ _ s
  refine wpAny_bind (wpAny_newObj_type (wpAny_pure ⟨plainId_quiet F.plain_list_iadd _, codeAny_builtin F.entry_list_iadd ?_⟩))
  rw [Around.under_plainId F.plain_list_iadd _]
  have g1 : (s.heap.push { cls := .type "list", data := .seq ([] : List Value).toArray }).get? s.heap.objs.size = some { cls := .type "list", data := .seq #[] 0 } := Heap.get?_push_size _ rfl
  have g2 := Heap.get?_update_self (Obj.mapSeq (· ++ xs)) g1 rfl
  have last : wpAny (model prog w) A (match Value.ref s.heap.objs.size with
      | Value.ref c => do
        match (← load c).data with
          | Data.seq ys _ => pure ys.toList
          | _ => unsupported "internal:collect"
      | _ => unsupported "internal:collect") Q E { s with heap := (s.heap.push { cls := .type "list", data := .seq ([] : List Value).toArray }).update s.heap.objs.size (Obj.mapSeq (· ++ xs)) } := by
    show wpAny _ A (load s.heap.objs.size >>= _) _ _ _
    refine wpAny_bind (wpAny_load g2 (wpAny_pure ?_))
    show Q ((#[] : Array Value) ++ xs).toList _
    rw [show ((#[] : Array Value) ++ xs).toList = xs.toList by simp]
    exact h
  refine wpAny_mono (wpAny_extend_seq (hsz := hz) (A := A) (R := fun r s' => r = .ok (.ret (.ref s.heap.objs.size)) ∧ s' = { s with heap := (s.heap.push { cls := .type "list", data := .seq ([] : List Value).toArray }).update s.heap.objs.size (Obj.mapSeq (· ++ xs)) })
    (s := { s with heap := s.heap.push { cls := .type "list", data := .seq ([] : List Value).toArray } }) _ a _ 0 (.inr rfl) g1 (Heap.get?_push_of_some _ ho) hc hd ⟨rfl, rfl⟩) (fun f s' z => ?_) (fun e s' z => absurd z.1 (by simp))
  cases f with
  | done f =>
    obtain ⟨e, rfl⟩ := z
    cases e
    exact last
  | again c => exact ⟨z.1, codeAny_mono z.2 fun r s'' y => by obtain ⟨rfl, rfl⟩ := y; exact last⟩
def rSortTu (K : PySem.W.Frag) : List V → Hp → VK → Prop := fun vs H Q => ∃ (a : Addr) (zs : List (V × PyData)), vs = [V.ref a] ∧ SqT K H a (zs.map Prod.fst) ∧ (∀ z ∈ zs, Dp K H z.1 z.2) ∧ PySem.W.AllAlike (zs.map Prod.snd) ∧ PySem.W.Sortable (zs.map Prod.snd) ∧
  (∀ z ∈ zs, z.2.depth ≤ 60) ∧ ∀ p, H p = none → Q (.ref p) (upd H p (.lst ((zs.mergeSort (PySem.W.dataLe false Prod.snd)).map Prod.fst)))
theorem cr_sortTu {X : Cx} {k : Nat} (hr : Room k X.A) : CallR X (.builtin "sorted") (rSortTu X.K) := by
  intro pins s σ H vs us Q I r h
  obtain ⟨a, zs, rfl, hs, hd, hal, hso, hdp, q⟩ := h
  obtain ⟨its, rv, ⟨ob, ho, hc, n, hda⟩, hz⟩ := I.tuple hs
  have hz' : zs.length ≤ sizeLine := by rw [List.length_map] at hz; exact hz
  have hil : its.length = zs.length := by rw [← rv.length, List.length_map]
  rw [Vals.ref1 r]
  refine Calls.call_function_entry kind_sorted plain_sorted entry_sorted (args_sorted1 _) ?_
  unfold Builtin.«sorted»
  refine wpAny_bind (m := checkCount "sorted" 1 1 _) (wpAny_pure ?_)
  refine wpAny_bind (collectT ho hc hda (by rw [List.size_toArray, hil]; exact hz') ?_)
  have sz : s.heap.objs.size ≤ ((s.heap.push { cls := .type "list", data := .seq ([] : List Value).toArray }).update s.heap.objs.size (Obj.mapSeq (· ++ its.toArray))).objs.size := by
    rw [Heap.size_update, Heap.size_push]
    exact Nat.le_succ _
  have kk : ∀ b o, s.heap.get? b = some o → ((s.heap.push { cls := .type "list", data := .seq ([] : List Value).toArray }).update s.heap.objs.size (Obj.mapSeq (· ++ its.toArray))).get? b = some o := fun b o e =>
    (Heap.get?_update_other _ _ (Nat.ne_of_gt (Heap.lt_size e))).trans (Heap.get?_push_of_some _ e)
  generalize (s.heap.push { cls := .type "list", data := .seq ([] : List Value).toArray }).update s.heap.objs.size (Obj.mapSeq (· ++ its.toArray)) = g at sz kk
  refine wpAny_bind (wpAny_newList ?_ (by rw [List.toList_toArray, hil]; exact hz'))
  rw [List.toList_toArray]
  have oL : (g.push (seqObj "list" its.toArray 0)).get? g.objs.size = some (seqObj "list" its.toArray 0) := Heap.get?_push_size _ rfl
  have er : PySem.W.EachIs (fun v (z : V × PyData) => ∃ as, Reads (PySem.W.sortingHeap (g.push (seqObj "list" its.toArray 0)) g.objs.size its) v z.2 as) its zs :=
    (each_reads I rv hd).mono fun _ _ ⟨as, x⟩ => ⟨as, PyProof.Rows.Reads.keeps (fun b o e => PySem.W.sortingHeap_old (Nat.ne_of_lt (Heap.lt_size (kk b o e))) (Heap.get?_push_of_some _ (kk b o e))) x⟩
  have S := PySem.W.SortsAt.data (prog := X.prog) (w := X.w) (A := X.A.in1.in1) (s := { s with heap := PySem.W.sortingHeap (g.push (seqObj "list" its.toArray 0)) g.objs.size its })
    (PySem.W.each_map (R := fun v d => ∃ as, Reads (PySem.W.sortingHeap (g.push (seqObj "list" its.toArray 0)) g.objs.size its) v d as) Prod.snd er) hal hso (PySem.W.bound_map (enc := Prod.snd) (A := X.A.in1.in1) fun b hb => by
      have := hr.un
      have := hdp b hb
      show X.A.units + 2 + b.2.depth < cLine
      omega)
  have E2 := PySem.W.sortVals_data (enc := Prod.snd) (R := fun v (z : V × PyData) => RelV z.1 v) false (each_vals rv) er hal
  refine wpAny_bind (wpAny_holding (wpAny_call_entry slot_list_sort ⟨_, oL, rfl⟩ entry_list_sort (PySem.W.list_sort_vals (s := { s with heap := g.push (seqObj "list" its.toArray 0) }) oL S (by rw [hil]; exact hz') ⟨_, rfl, ?_⟩) (args_list_sort _)))
  generalize PySem.W.sortVals _ false its its = out at E2
  obtain ⟨c, hc'⟩ := sortedHeap_at (vs := its) (out := out.toArray) oL
  have rv2 := vals_each E2
  have hlen : ((zs.mergeSort (PySem.W.dataLe false Prod.snd)).map Prod.fst).length ≤ sizeLine := by rw [List.length_map, List.length_mergeSort]; exact hz'
  have keep : ∀ b o, s.heap.get? b = some o → (sortedHeap (g.push (seqObj "list" its.toArray 0)) g.objs.size its out.toArray).get? b = some o := fun b o e => by
    have lt := Heap.lt_size (kk b o e)
    rw [sortedHeap_old (Nat.ne_of_lt lt) (by rw [size_push']; exact Nat.lt_succ_of_lt lt)]
    exact Heap.get?_push_of_some _ (kk b o e)
  exact wpAny_pure ⟨_, rfl, .ref g.objs.size, upd H g.objs.size (.lst ((zs.mergeSort (PySem.W.dataLe false Prod.snd)).map Prod.fst)), I.laid (t' := s.toks) keep sz ⟨hlen, out, c, rv2, hc'⟩, rfl, q _ (I.hok.fresh sz)⟩
theorem kcr_sortTu {X : Cx} (K : PySem.W.Frag) {k : Nat} (hr : Room k X.A) (h : X.K = K := by rfl) : CallR X (.builtin "sorted") (rSortTu K) := h ▸ cr_sortTu hr
theorem dC_sortTu {K : PySem.W.Frag} {M : Mem} {P : SV → Mem → Prop} {ds : List PyData} (hal : PySem.W.AllAlike ds) (hso : PySem.W.Sortable ds) (hdp : ∀ d ∈ ds, d.depth ≤ 60) (p : P (.d (.list (ds.mergeSort (PySem.W.dataLe false id)))) M) : dC K (rSortTu K) [.d (.tuple ds)] M P := fun vs H H1 hv wk Q q => by
  cases hv with
  | cons h t =>
    cases t
    cases h with
    | tup h1 h2 =>
      rename_i a vs
      refine ⟨a, vs.zip ds, rfl, by rw [zip_fst h2]; exact sqTx wk.ex h1, fun z hz => Dq.dp _ _ (Dq.mono wk.ex _ _ (zip_dq h2 z hz)), by rw [zip_snd h2]; exact hal, by rw [zip_snd h2]; exact hso, fun z hz => hdp z.2 (by rw [← zip_snd h2]; exact List.mem_map.mpr ⟨z, hz, rfl⟩), fun l hl => ?_⟩
      obtain ⟨w2, s2⟩ := laid_ok (o := .lst (((vs.zip ds).mergeSort (PySem.W.dataLe false Prod.snd)).map Prod.fst)) wk hl
      have hd := dq_of_zip (H := H) (zs := (vs.zip ds).mergeSort (PySem.W.dataLe false Prod.snd)) fun z hz => zip_dq h2 z (List.mem_mergeSort.mp hz)
      rw [List.map_mergeSort (f := Prod.snd) (r := PySem.W.dataLe false Prod.snd) (s := PySem.W.dataLe false id) (fun a _ b _ => rfl), zip_snd h2] at hd
      exact q _ _ _ M _ p s2 w2 (.lst upd_same (DqAll.mono s2.pure _ _ hd))
end Sd

/-! mathematics: fractions in lowest terms, ropes -/
namespace Ma
open PySem
abbrev Q := Int × Int
/-- in lowest terms, from nought on -/
structure Red (q : Q) : Prop where
  p0 : 0 ≤ q.1
  q0 : 0 < q.2
  co : Int.gcd q.1 q.2 = 1
def low (t b : Int) : Q := (t / (Int.gcd t b : Int), b / (Int.gcd t b : Int))
theorem gcd_pos {t b : Int} (hb : 0 < b) : 0 < (Int.gcd t b : Int) := by
  have : Int.gcd t b ≠ 0 := fun h => by
    have := (Int.gcd_eq_zero_iff.mp h).2
    omega
  omega
theorem low_red {t b : Int} (ht : 0 ≤ t) (hb : 0 < b) : Red (low t b) := by
  have hg := gcd_pos (t := t) hb
  refine ⟨Int.ediv_nonneg ht (by omega), ?_, ?_⟩
  · have h1 : (Int.gcd t b : Int) * (b / (Int.gcd t b : Int)) = b := Int.mul_ediv_cancel' (Int.gcd_dvd_right t b)
    show 0 < b / (Int.gcd t b : Int)
    rcases Int.lt_or_le 0 (b / (Int.gcd t b : Int)) with h | h
    · exact h
    · exfalso
      have := Int.mul_nonneg (show 0 ≤ (Int.gcd t b : Int) by omega) (show 0 ≤ -(b / (Int.gcd t b : Int)) by omega)
      rw [Int.mul_neg, h1] at this
      omega
  · exact Int.gcd_ediv_gcd_ediv_gcd (by omega)
theorem low_eq {t b : Int} (hb : 0 < b) : t * (low t b).2 = (low t b).1 * b := by
  have h1 : (Int.gcd t b : Int) * (b / (Int.gcd t b : Int)) = b := Int.mul_ediv_cancel' (Int.gcd_dvd_right t b)
  have h2 : (Int.gcd t b : Int) * (t / (Int.gcd t b : Int)) = t := Int.mul_ediv_cancel' (Int.gcd_dvd_left t b)
  show t * (b / (Int.gcd t b : Int)) = (t / (Int.gcd t b : Int)) * b
  generalize (Int.gcd t b : Int) = g at *
  generalize t / g = t' at *
  generalize b / g = b' at *
  rw [← h1, ← h2]
  rw [Int.mul_assoc, Int.mul_left_comm]
theorem co_dvd {a b c : Int} (h : a ∣ b * c) (g : Int.gcd b a = 1) : a ∣ c := by
  have h1 : a.natAbs ∣ b.natAbs * c.natAbs := by
    rw [← Int.natAbs_mul]
    exact Int.natAbs_dvd_natAbs.mpr h
  have h2 : Nat.Coprime a.natAbs b.natAbs := by
    show Nat.gcd a.natAbs b.natAbs = 1
    rw [Nat.gcd_comm]
    exact g
  exact Int.natAbs_dvd_natAbs.mp (h2.dvd_of_dvd_mul_left h1)
theorem red_unique {x y : Q} (hx : Red x) (hy : Red y) (h : x.1 * y.2 = y.1 * x.2) : x = y := by
  have d1 : x.2 ∣ y.2 := by
    have : x.2 ∣ x.1 * y.2 := ⟨y.1, by rw [h, Int.mul_comm]⟩
    exact co_dvd this hx.co
  have d2 : y.2 ∣ x.2 := by
    have : y.2 ∣ y.1 * x.2 := ⟨x.1, by rw [← h, Int.mul_comm]⟩
    exact co_dvd this hy.co
  have e2 : x.2 = y.2 := Int.dvd_antisymm (Int.le_of_lt hx.q0) (Int.le_of_lt hy.q0) d1 d2
  have e1 : x.1 = y.1 := by
    rw [e2] at h
    exact Int.eq_of_mul_eq_mul_right (Int.ne_of_gt hy.q0) h
  exact Prod.ext e1 e2
theorem low_unique {t b : Int} {y : Q} (ht : 0 ≤ t) (hb : 0 < b) (hy : Red y) (h : t * y.2 = y.1 * b) : low t b = y := by
  refine red_unique (low_red ht hb) hy ?_
  have h1 := low_eq (t := t) hb
  have hb' : b ≠ 0 := by omega
  refine Int.eq_of_mul_eq_mul_right hb' ?_
  calc (low t b).1 * y.2 * b = (low t b).1 * b * y.2 := by rw [Int.mul_assoc, Int.mul_comm y.2 b, ← Int.mul_assoc]
    _ = t * (low t b).2 * y.2 := by rw [h1]
    _ = t * y.2 * (low t b).2 := by rw [Int.mul_assoc, Int.mul_comm (low t b).2 y.2, ← Int.mul_assoc]
    _ = y.1 * b * (low t b).2 := by rw [h]
    _ = y.1 * (low t b).2 * b := by rw [Int.mul_assoc, Int.mul_comm b, ← Int.mul_assoc]
theorem low_zero {b : Int} (hb : 0 < b) : low 0 b = (0, 1) := low_unique (Int.le_refl 0) hb ⟨Int.le_refl _, by decide, by decide⟩ (by simp)
theorem low_le {t b : Int} (ht : 0 ≤ t) (hb : 0 < b) : (low t b).1 ≤ t ∧ (low t b).2 ≤ b := by
  have hg := gcd_pos (t := t) hb
  exact ⟨Int.ediv_le_self _ ht, Int.ediv_le_self _ (by omega)⟩
theorem gcd_le {t b : Int} (hb : 0 < b) : (Int.gcd t b : Int) ≤ b := Int.le_of_dvd hb (Int.gcd_dvd_right t b)
theorem gcd_step {a b : Int} (ha : 0 ≤ a) (hb : 0 < b) : Int.gcd b (a % b) = Int.gcd a b := by
  obtain ⟨m, rfl⟩ := Int.eq_ofNat_of_zero_le ha
  obtain ⟨n, rfl⟩ := Int.eq_ofNat_of_zero_le (Int.le_of_lt hb)
  show Nat.gcd n (((m : Int) % (n : Int)).natAbs) = Nat.gcd m n
  rw [← Int.natCast_emod, Int.natAbs_natCast, Nat.gcd_comm m n, Nat.gcd_rec n m, Nat.gcd_comm]
/-! ropes -/
structure Rope where
  n : Str
  a : Int
  b : Int
  c : Int
/-- the ropes drawn one behind the other, as the program goes -/
def goS (t b : Int) : List Rope → Option Q → Int → Int → Option Q
  | [], s, _, _ => s
  | r :: rs, none, k, l => goS t b rs (some (low (t + (l + r.b * r.a) * b) ((k + r.b) * b))) (k + r.b) (l + r.b * r.a)
  | r :: rs, some q, k, l => if r.a * q.2 < q.1 then goS t b rs (some (low (t + (l + r.b * r.a) * b) ((k + r.b) * b))) (k + r.b) (l + r.b * r.a) else some q
def bySlack (rs : List Rope) : List Rope := rs.mergeSort fun x y => decide (x.a ≤ y.a)
def sunkOf (rs : List Rope) (t b : Int) : Option Q := if t = 0 then some (0, 1) else goS t b (bySlack rs) none 0 0
end Ma

namespace Ma
open PySem
abbrev Pr := Int × Int
/-- how hard a rope of slack p.1 and stiffness p.2 pulls at q, times q.2 -/
def f1 (q : Q) (p : Pr) : Int := p.2 * max 0 (q.1 - p.1 * q.2)
def F (q : Q) (ps : List Pr) : Int := (ps.map (f1 q)).sum
theorem F_nil {q : Q} : F q [] = 0 := rfl
theorem F_cons {q : Q} {p : Pr} {ps : List Pr} : F q (p :: ps) = f1 q p + F q ps := by
  unfold F; rw [List.map_cons, List.sum_cons]
theorem F_append {q : Q} {ps qs : List Pr} : F q (ps ++ qs) = F q ps + F q qs := by
  unfold F; rw [List.map_append, List.sum_append]
theorem F_perm {q : Q} {ps qs : List Pr} (h : ps.Perm qs) : F q ps = F q qs := by
  induction h with
  | nil => rfl
  | cons x _ ih => rw [F_cons, F_cons, ih]
  | swap x y l => rw [F_cons, F_cons, F_cons, F_cons]; omega
  | trans _ _ h1 h2 => rw [h1, h2]
def PosB (ps : List Pr) : Prop := ∀ p ∈ ps, 0 < p.2
theorem f1_nn {q : Q} {p : Pr} (h : 0 < p.2) : 0 ≤ f1 q p := Int.mul_nonneg (Int.le_of_lt h) (by omega)
theorem F_nn {q : Q} : ∀ {ps : List Pr}, PosB ps → 0 ≤ F q ps
  | [], _ => Int.le_refl _
  | p :: ps, h => by
    rw [F_cons]
    have := f1_nn (q := q) (h p List.mem_cons_self)
    have := F_nn (q := q) (ps := ps) fun x hx => h x (List.mem_cons_of_mem _ hx)
    omega
theorem max_lt {x y : Q} {a : Int} (hx : 0 < x.2) (hy : 0 < y.2) (h : x.1 * y.2 < y.1 * x.2) :
    max 0 (x.1 - a * x.2) * y.2 ≤ max 0 (y.1 - a * y.2) * x.2 ∧ (0 < max 0 (y.1 - a * y.2) → max 0 (x.1 - a * x.2) * y.2 < max 0 (y.1 - a * y.2) * x.2) := by
  have e : (x.1 - a * x.2) * y.2 < (y.1 - a * y.2) * x.2 := by grind
  generalize x.1 - a * x.2 = u at *
  generalize y.1 - a * y.2 = v at *
  by_cases hu : 0 < u
  · have h1 : max 0 u = u := by omega
    rw [h1]
    have hv : 0 < v := by
      rcases Int.lt_or_le 0 v with h | h
      · exact h
      · exfalso
        have a1 := Int.mul_pos hu hy
        have a2 := Int.mul_nonneg (show 0 ≤ -v by omega) (Int.le_of_lt hx)
        rw [Int.neg_mul] at a2
        omega
    have h2 : max 0 v = v := by omega
    rw [h2]
    exact ⟨Int.le_of_lt e, fun _ => e⟩
  · have h1 : max 0 u = 0 := by omega
    rw [h1, Int.zero_mul]
    exact ⟨Int.mul_nonneg (by omega) (Int.le_of_lt hx), fun h => Int.mul_pos h hx⟩
theorem f1_lt {x y : Q} {p : Pr} (hp : 0 < p.2) (hx : 0 < x.2) (hy : 0 < y.2) (h : x.1 * y.2 < y.1 * x.2) :
    f1 x p * y.2 ≤ f1 y p * x.2 ∧ (0 < f1 y p → f1 x p * y.2 < f1 y p * x.2) := by
  obtain ⟨h1, h2⟩ := max_lt (a := p.1) hx hy h
  unfold f1
  generalize max 0 (x.1 - p.1 * x.2) = u at *
  generalize hv : max 0 (y.1 - p.1 * y.2) = v at *
  rw [Int.mul_assoc, Int.mul_assoc]
  refine ⟨Int.mul_le_mul_of_nonneg_left h1 (Int.le_of_lt hp), fun h3 => Int.mul_lt_mul_of_pos_left (h2 ?_) hp⟩
  rcases Int.lt_or_le 0 v with h | h
  · exact h
  · exfalso
    have := Int.mul_nonneg (Int.le_of_lt hp) (show 0 ≤ -v by omega)
    rw [Int.mul_neg] at this
    omega
theorem F_lt {x y : Q} (hx : 0 < x.2) (hy : 0 < y.2) (h : x.1 * y.2 < y.1 * x.2) : ∀ {ps : List Pr}, PosB ps → F x ps * y.2 ≤ F y ps * x.2 ∧ (0 < F y ps → F x ps * y.2 < F y ps * x.2)
  | [], _ => by rw [F_nil, F_nil]; exact ⟨by omega, fun h => by omega⟩
  | p :: ps, hp => by
    obtain ⟨h1, h2⟩ := F_lt hx hy h (ps := ps) fun z hz => hp z (List.mem_cons_of_mem _ hz)
    obtain ⟨h3, h4⟩ := f1_lt (hp p List.mem_cons_self) hx hy h
    have n1 := f1_nn (q := y) (hp p List.mem_cons_self)
    have n2 := F_nn (q := y) (ps := ps) fun z hz => hp z (List.mem_cons_of_mem _ hz)
    rw [F_cons, F_cons, Int.add_mul, Int.add_mul]
    refine ⟨by omega, fun h5 => ?_⟩
    rcases Int.lt_or_le 0 (f1 y p) with h6 | h6
    · have := h4 h6; omega
    · have := h2 (by omega); omega
/-- at q the ropes pull together t / b -/
structure Sol (ps : List Pr) (t b : Int) (q : Q) : Prop extends Red q where
  eq : F q ps * b = t * q.2
theorem sol_unique {ps : List Pr} {t b : Int} {x y : Q} (hp : PosB ps) (ht : 0 < t) (hb : 0 < b) (hx : Sol ps t b x) (hy : Sol ps t b y) : x = y := by
  have half : ∀ {x y : Q}, Sol ps t b x → Sol ps t b y → ¬ x.1 * y.2 < y.1 * x.2 := fun {x y} hx hy h => by
    obtain ⟨_, h2⟩ := F_lt hx.q0 hy.q0 h hp
    have hF : 0 < F y ps := by
      rcases Int.lt_or_le 0 (F y ps) with h | h
      · exact h
      · exfalso
        have a1 := Int.mul_pos ht hy.q0
        have a2 := Int.mul_nonneg (show 0 ≤ -F y ps by omega) (Int.le_of_lt hb)
        rw [Int.neg_mul, hy.eq] at a2
        omega
    have h3 := Int.mul_lt_mul_of_pos_right (h2 hF) hb
    have e1 : F x ps * y.2 * b = t * x.2 * y.2 := by rw [← hx.eq]; grind
    have e2 : F y ps * x.2 * b = t * y.2 * x.2 := by rw [← hy.eq]; grind
    rw [e1, e2] at h3
    have e3 : t * x.2 * y.2 = t * y.2 * x.2 := by grind
    omega
  have h1 := half hx hy
  have h2 := half hy hx
  exact red_unique hx.toRed hy.toRed (by omega)
/-! ### drawn one behind the other -/
def goP (t b : Int) : List Pr → Option Q → Int → Int → Option Q
  | [], s, _, _ => s
  | p :: ps, none, k, l => goP t b ps (some (low (t + (l + p.2 * p.1) * b) ((k + p.2) * b))) (k + p.2) (l + p.2 * p.1)
  | p :: ps, some q, k, l => if p.1 * q.2 < q.1 then goP t b ps (some (low (t + (l + p.2 * p.1) * b) ((k + p.2) * b))) (k + p.2) (l + p.2 * p.1) else some q
def pr (r : Rope) : Pr := (r.a, r.b)
theorem goS_P {t b : Int} : ∀ (rs : List Rope) (s : Option Q) (k l : Int), goS t b rs s k l = goP t b (rs.map pr) s k l
  | [], s, k, l => rfl
  | r :: rs, none, k, l => goS_P rs _ _ _
  | r :: rs, some q, k, l => by
    show (if r.a * q.2 < q.1 then goS t b rs _ _ _ else some q) = (if r.a * q.2 < q.1 then goP t b (rs.map pr) _ _ _ else some q)
    rw [goS_P rs]
    rfl
/-- what stands drawn: a prefix, its stiffness k, its l, and the sinking q -/
structure Dr (t b : Int) (ps : List Pr) (k l : Int) (q : Q) : Prop extends Red q where
  kp : 0 < k
  eq : q.1 * (k * b) = (t + l * b) * q.2
  fk : ∀ x : Q, (∀ p ∈ ps, p.1 * x.2 ≤ x.1) → F x ps = k * x.1 - l * x.2
  dr : ∀ p ∈ ps, p.1 * q.2 < q.1
theorem dr_step {t b k l : Int} {ps : List Pr} {p : Pr} (hb : 0 < b) (hp : 0 < p.2) (k0 : 0 ≤ k) (hfk : ∀ x : Q, (∀ p ∈ ps, p.1 * x.2 ≤ x.1) → F x ps = k * x.1 - l * x.2)
    (ht : 0 ≤ t + (l + p.2 * p.1) * b) (hs : ∀ z ∈ ps, z.1 ≤ p.1) (hlt : p.1 * ((k + p.2) * b) < t + (l + p.2 * p.1) * b) :
    Dr t b (ps ++ [p]) (k + p.2) (l + p.2 * p.1) (low (t + (l + p.2 * p.1) * b) ((k + p.2) * b)) := by
  have hkb : 0 < (k + p.2) * b := Int.mul_pos (by omega) hb
  have hr := low_red ht hkb
  have he := low_eq (t := t + (l + p.2 * p.1) * b) hkb
  generalize low (t + (l + p.2 * p.1) * b) ((k + p.2) * b) = q at *
  have hlast : p.1 * q.2 < q.1 := by
    have h1 := Int.mul_lt_mul_of_pos_right hlt hr.q0
    rw [he] at h1
    have h2 : p.1 * ((k + p.2) * b) * q.2 = p.1 * q.2 * ((k + p.2) * b) := by grind
    rw [h2] at h1
    exact Int.lt_of_mul_lt_mul_right h1 (Int.le_of_lt hkb)
  refine ⟨hr, by omega, he.symm, fun x hx => ?_, fun z hz => ?_⟩
  · rw [F_append, hfk x fun z hz => hx z (List.mem_append_left _ hz), F_cons, F_nil]
    have := hx p (List.mem_append_right _ (List.mem_singleton.mpr rfl))
    unfold f1
    rw [show max 0 (x.1 - p.1 * x.2) = x.1 - p.1 * x.2 by omega]
    grind
  · rcases List.mem_append.mp hz with h | h
    · have := Int.mul_le_mul_of_nonneg_right (hs z h) (Int.le_of_lt hr.q0)
      omega
    · rw [List.mem_singleton.mp h]; exact hlast
theorem F_zero {q : Q} : ∀ {ps : List Pr}, (∀ p ∈ ps, q.1 ≤ p.1 * q.2) → F q ps = 0
  | [], _ => rfl
  | p :: ps, h => by
    rw [F_cons, F_zero fun z hz => h z (List.mem_cons_of_mem _ hz)]
    have := h p List.mem_cons_self
    unfold f1
    rw [show max 0 (q.1 - p.1 * q.2) = 0 by omega]
    omega
theorem dr_sol {t b k l : Int} {ps rs : List Pr} {q : Q} (hb : 0 < b) (d : Dr t b ps k l q) (hr : ∀ p ∈ rs, q.1 ≤ p.1 * q.2) : Sol (ps ++ rs) t b q := by
  refine ⟨d.toRed, ?_⟩
  rw [F_append, F_zero hr, d.fk q fun p hp => Int.le_of_lt (d.dr p hp)]
  have := d.eq
  grind
theorem goP_sol {t b : Int} (hb : 0 < b) : ∀ (rs ps : List Pr) (q : Q) (k l : Int), PosB rs → (ps ++ rs).Pairwise (fun x y => x.1 ≤ y.1) → 0 ≤ t → 0 ≤ l → (∀ p ∈ rs, 0 ≤ p.1) → Dr t b ps k l q → ∃ q', goP t b rs (some q) k l = some q' ∧ Sol (ps ++ rs) t b q'
  | [], ps, q, k, l, _, _, _, _, _, d => ⟨q, rfl, dr_sol hb d fun p hp => by cases hp⟩
  | r :: rs, ps, q, k, l, hp, hs, ht, hl, ha, d => by
    have hs' := List.pairwise_append.mp hs
    have hcons := List.pairwise_cons.mp hs'.2.1
    by_cases hc : r.1 * q.2 < q.1
    · have hra : 0 ≤ r.2 * r.1 := Int.mul_nonneg (Int.le_of_lt (hp r List.mem_cons_self)) (ha r List.mem_cons_self)
      have htt : 0 ≤ t + (l + r.2 * r.1) * b := by have := Int.mul_nonneg (show 0 ≤ l + r.2 * r.1 by omega) (Int.le_of_lt hb); omega
      have hlt : r.1 * ((k + r.2) * b) < t + (l + r.2 * r.1) * b := by
        have h1 := Int.mul_lt_mul_of_pos_right hc (Int.mul_pos d.kp hb)
        rw [d.eq] at h1
        have h2 : r.1 * q.2 * (k * b) = r.1 * (k * b) * q.2 := by grind
        rw [h2] at h1
        have h3 := Int.lt_of_mul_lt_mul_right h1 (Int.le_of_lt d.q0)
        grind
      have d' := dr_step hb (hp r List.mem_cons_self) (Int.le_of_lt d.kp) d.fk htt (fun z hz => hs'.2.2 z hz r List.mem_cons_self) hlt
      obtain ⟨q', h1, h2⟩ := goP_sol hb rs (ps ++ [r]) _ _ _ (fun z hz => hp z (List.mem_cons_of_mem _ hz)) (by rw [List.append_assoc]; exact hs) ht (by omega) (fun z hz => ha z (List.mem_cons_of_mem _ hz)) d'
      refine ⟨q', ?_, by rw [List.append_assoc] at h2; exact h2⟩
      show (if r.1 * q.2 < q.1 then _ else _) = _
      rw [if_pos hc]
      exact h1
    · refine ⟨q, ?_, dr_sol hb d fun p hpp => ?_⟩
      · show (if r.1 * q.2 < q.1 then _ else _) = _
        rw [if_neg hc]
      · rcases List.mem_cons.mp hpp with rfl | h
        · omega
        · have := Int.mul_le_mul_of_nonneg_right (hcons.1 p h) (Int.le_of_lt d.q0)
          omega
theorem goP_first {t b : Int} (hb : 0 < b) {rs : List Pr} (h0 : rs ≠ []) (hp : PosB rs) (hs : rs.Pairwise fun x y => x.1 ≤ y.1) (ht : 0 < t) (ha : ∀ p ∈ rs, 0 ≤ p.1) : ∃ q', goP t b rs none 0 0 = some q' ∧ Sol rs t b q' := by
  cases rs with
  | nil => exact absurd rfl h0
  | cons r rs =>
    have hra : 0 ≤ r.2 * r.1 := Int.mul_nonneg (Int.le_of_lt (hp r List.mem_cons_self)) (ha r List.mem_cons_self)
    have htt : 0 ≤ t + (0 + r.2 * r.1) * b := by have := Int.mul_nonneg (show 0 ≤ 0 + r.2 * r.1 by omega) (Int.le_of_lt hb); omega
    have d := dr_step (t := t) (b := b) (k := 0) (l := 0) (ps := []) hb (hp r List.mem_cons_self) (Int.le_refl 0) (fun x _ => by rw [F_nil]; omega) htt (fun z hz => by cases hz) (by grind)
    exact goP_sol hb rs [r] _ _ _ (fun z hz => hp z (List.mem_cons_of_mem _ hz)) hs (Int.le_of_lt ht) (by omega) (fun z hz => ha z (List.mem_cons_of_mem _ hz)) d
/-- the law's way: it goes on to the end -/
def goL (t b : Int) : List Pr → Option Q → Int → Int → Option Q
  | [], s, _, _ => s
  | p :: ps, none, k, l => goL t b ps (some (low (t + b * (l + p.1 * p.2)) ((k + p.2) * b))) (k + p.2) (l + p.1 * p.2)
  | p :: ps, some q, k, l => goL t b ps (if p.1 * q.2 < q.1 then some (low (t + b * (l + p.1 * p.2)) ((k + p.2) * b)) else some q) (k + p.2) (l + p.1 * p.2)
theorem goL_stop {t b : Int} : ∀ (ps : List Pr) (q : Q) (k l : Int), (∀ p ∈ ps, ¬ p.1 * q.2 < q.1) → goL t b ps (some q) k l = some q
  | [], q, k, l, _ => rfl
  | p :: ps, q, k, l, h => by
    show goL t b ps (if p.1 * q.2 < q.1 then _ else some q) _ _ = _
    rw [if_neg (h p List.mem_cons_self)]
    exact goL_stop ps q _ _ fun z hz => h z (List.mem_cons_of_mem _ hz)
theorem goL_P {t b : Int} : ∀ (ps : List Pr) (s : Option Q) (k l : Int), (∀ q, s = some q → 0 < q.2) → (0 < b) → (0 ≤ t) → (0 ≤ k) → (0 ≤ l) → PosB ps → (∀ p ∈ ps, 0 ≤ p.1) → ps.Pairwise (fun x y => x.1 ≤ y.1) → goL t b ps s k l = goP t b ps s k l
  | [], s, k, l, _, _, _, _, _, _, _, _ => rfl
  | p :: ps, s, k, l, hq, hb, ht, hk, hl, hp, ha, hs => by
    have hc := List.pairwise_cons.mp hs
    have hpa : 0 ≤ p.1 * p.2 := Int.mul_nonneg (ha p List.mem_cons_self) (Int.le_of_lt (hp p List.mem_cons_self))
    have hp2 := hp p List.mem_cons_self
    have e1 : p.2 * p.1 = p.1 * p.2 := Int.mul_comm _ _
    have e2 : b * (l + p.1 * p.2) = (l + p.2 * p.1) * b := by rw [e1, Int.mul_comm]
    have hkb : 0 < (k + p.2) * b := Int.mul_pos (by omega) hb
    have htt : 0 ≤ t + (l + p.2 * p.1) * b := by have := Int.mul_nonneg (show 0 ≤ l + p.2 * p.1 by omega) (Int.le_of_lt hb); omega
    have go : goL t b ps (some (low (t + b * (l + p.1 * p.2)) ((k + p.2) * b))) (k + p.2) (l + p.1 * p.2) = goP t b ps (some (low (t + (l + p.2 * p.1) * b) ((k + p.2) * b))) (k + p.2) (l + p.2 * p.1) := by
      rw [e2, goL_P ps _ _ _ (fun q e => by cases e; exact (low_red htt hkb).q0) hb ht (by omega) (by omega) (fun z hz => hp z (List.mem_cons_of_mem _ hz)) (fun z hz => ha z (List.mem_cons_of_mem _ hz)) hc.2, e1]
    cases s with
    | none => exact go
    | some q =>
      show goL t b ps (if p.1 * q.2 < q.1 then some _ else some q) _ _ = (if p.1 * q.2 < q.1 then goP t b ps _ _ _ else some q)
      by_cases h : p.1 * q.2 < q.1
      · rw [if_pos h, if_pos h]; exact go
      · rw [if_neg h, if_neg h]
        refine goL_stop ps q _ _ fun z hz h2 => h ?_
        have := Int.mul_le_mul_of_nonneg_right (hc.1 z hz) (Int.le_of_lt (hq q rfl))
        omega
theorem bySlack_sorted (rs : List Rope) : ((bySlack rs).map pr).Pairwise fun x y => x.1 ≤ y.1 := by
  rw [List.pairwise_map]
  unfold bySlack
  have h := List.pairwise_mergeSort (le := fun x y : Rope => decide (x.a ≤ y.a)) (fun a b c h1 h2 => decide_eq_true (by have := of_decide_eq_true h1; have := of_decide_eq_true h2; omega)) (fun a b => by
    simp only [Bool.or_eq_true, decide_eq_true_eq]; omega) rs
  exact h.imp fun h => of_decide_eq_true h
theorem bySlack_perm (rs : List Rope) : ((bySlack rs).map pr).Perm (rs.map pr) := (List.mergeSort_perm _ _).map _
/-- what the ropes ask -/
structure Pos (rs : List Rope) : Prop where
  a : ∀ r ∈ rs, 0 ≤ r.a
  b : ∀ r ∈ rs, 0 < r.b
theorem Pos.pb {rs : List Rope} (h : Pos rs) : PosB (rs.map pr) := fun p hp => by
  obtain ⟨r, hr, rfl⟩ := List.mem_map.mp hp
  exact h.b r hr
theorem Pos.pa {rs : List Rope} (h : Pos rs) : ∀ p ∈ rs.map pr, 0 ≤ p.1 := fun p hp => by
  obtain ⟨r, hr, rfl⟩ := List.mem_map.mp hp
  exact h.a r hr
theorem sunk_sol {rs : List Rope} {t b : Int} (h0 : rs ≠ []) (hp : Pos rs) (ht : 0 < t) (hb : 0 < b) : ∃ q, sunkOf rs t b = some q ∧ Sol (rs.map pr) t b q := by
  have pm := bySlack_perm rs
  have hne : (bySlack rs).map pr ≠ [] := fun e => h0 (by
    have := pm.length_eq
    rw [e, List.length_map] at this
    exact List.length_eq_zero_iff.mp this.symm)
  obtain ⟨q, h1, h2⟩ := goP_first (t := t) (b := b) hb hne (fun p hpp => hp.pb p (pm.mem_iff.mp hpp)) (bySlack_sorted rs) ht (fun p hpp => hp.pa p (pm.mem_iff.mp hpp))
  refine ⟨q, ?_, ⟨h2.toRed, by rw [← F_perm pm]; exact h2.eq⟩⟩
  unfold sunkOf
  rw [if_neg (by omega), goS_P]
  exact h1
/-- any order by the slacks comes to the same -/
theorem goL_sunk {rs : List Rope} {ps : List Pr} {t b : Int} (hp : Pos rs) (ht : 0 < t) (hb : 0 < b) (pm : ps.Perm (rs.map pr)) (hs : ps.Pairwise fun x y => x.1 ≤ y.1) : goL t b ps none 0 0 = sunkOf rs t b := by
  have pb : PosB ps := fun p hpp => hp.pb p (pm.mem_iff.mp hpp)
  have pa : ∀ p ∈ ps, 0 ≤ p.1 := fun p hpp => hp.pa p (pm.mem_iff.mp hpp)
  rw [goL_P ps none 0 0 (fun q e => by cases e) hb (Int.le_of_lt ht) (Int.le_refl 0) (Int.le_refl 0) pb pa hs]
  cases rs with
  | nil =>
    have : ps = [] := List.length_eq_zero_iff.mp pm.length_eq
    subst this
    unfold sunkOf
    rw [if_neg (by omega)]
    unfold bySlack
    rw [List.mergeSort_nil]
    rfl
  | cons r rs =>
    have h0 : ps ≠ [] := fun e => by
      have := pm.length_eq
      rw [e] at this
      simp at this
    obtain ⟨q1, h1, h2⟩ := goP_first (t := t) (b := b) hb h0 pb hs ht pa
    obtain ⟨q2, h3, h4⟩ := sunk_sol (t := t) (b := b) (List.cons_ne_nil r rs) hp ht hb
    rw [h1, h3]
    have h5 : Sol (((r :: rs)).map pr) t b q1 := ⟨h2.toRed, by rw [← F_perm pm]; exact h2.eq⟩
    rw [sol_unique hp.pb ht hb h5 h4]
end Ma

namespace K2
open PySem L2 Sd Ma
def topS (i : Nat) : Stmt := PySem.Challenge.pw_strandpull_k12_whole_measures_change_not.main.body.getD i (.Pass ⟨0, 0, 0, 0⟩)
local macro_rules | `(tactic| walk_at "d1") => `(tactic| first
  | ((with_reducible refine' dE_var ?dv ?_); (case dv => rfl))
  | with_reducible refine' dE_int ?_
  | with_reducible refine' dE_str ?_
  | with_reducible refine' dE_bl ?_
  | with_reducible refine' dE_non ?_
  | ((with_reducible refine' dE_nt ?dv ?_); (case dv => assumption))
  | with_reducible refine' dE_ref ?_
  | with_reducible refine' dE_op ?_
  | with_reducible refine' dE_un ?_
  | with_reducible refine' dE_cmp ?_
  | with_reducible refine' dE_isN ?_
  | with_reducible refine' dE_notN ?_
  | with_reducible refine' dE_call ?_
  | with_reducible refine' dE_cb ?_
  | with_reducible refine' dE_kw ?_
  | with_reducible refine' dE_tup ?_
  | with_reducible refine' dE_if ?_
  | with_reducible refine' dE_and ?_
  | with_reducible refine' dE_or ?_
  | with_reducible refine' dE_not ?_
  | with_reducible refine' dE_sl ?_
  | with_reducible refine' dO_none ?_
  | with_reducible refine' dO_some ?_
  | with_reducible refine' dA_cons ?_
  | with_reducible refine' dA_nil ?_
  | with_reducible refine' dT_B ?_
  | with_reducible refine' dT_test ?_
  | with_reducible refine' dT_and ?_
  | with_reducible refine' dT_or ?_
  | with_reducible refine' dT_not ?_
  | with_reducible refine' dT_yes ?_
  | with_reducible refine' dR_I0i ?_
  | with_reducible refine' dU_neg ?_
  | ((with_reducible refine' dR_ixT ?dv ?_); (case dv => rfl))
  | with_reducible refine' dS_seq ?_
  | with_reducible refine' dS_next ?_
  | with_reducible refine' dS_ret ?_
  | with_reducible refine' dS_drop ?_
  | with_reducible refine' dS_if ?_
  | with_reducible refine' dS_asg ?_
  | with_reducible refine' dS_par ?_
  | with_reducible refine' dG_name ?_
  | ((with_reducible refine' dG_tup ?dv ?_); (case dv => rfl); (dsimp only [List.map]))
  | with_reducible refine' dGs_cons ?_
  | with_reducible refine' dGs_nil ?_
  | with_reducible refine' dC_abs ?_
  | with_reducible refine' dC_max2 ?_
  | with_reducible refine' dC_min2 ?_
  | with_reducible refine' rtOf.of ?_
  | with_reducible refine' ex_cmp ?_
  | with_reducible refine' ex_bool ?_
  | with_reducible refine' ex_int ?_
  | with_reducible refine' ex_list ?_
  | with_reducible refine' ex_tup ?_
  | with_reducible refine' ex_d ?_
  | with_reducible refine' ex_m ?_
  | with_reducible refine' ex_par ?_
  | with_reducible refine' ex_rg1 ?_
  | with_reducible refine' ex_rg2 ?_
  | ((with_reducible refine' ex_dat ?dv ?dw ?_); (case dv => rfl); (case dw => exact Nat.le_of_ble_eq_true rfl))
  | ((fail_if_success (with_reducible show ∃ _, _)); (fail_if_success (with_reducible show _ ∧ _)); refine ⟨_, _, rfl, ?_⟩)
  | ((fail_if_success (with_reducible show ∃ _, _)); (fail_if_success (with_reducible show _ ∧ _)); refine ⟨_, rfl, ?_⟩)
  | fail)
local macro_rules | `(tactic| walk_at "d") => `(tactic| repeat' walk_at "d1")
local macro_rules | `(tactic| walk_at "e1") => `(tactic| first
  | ((with_reducible refine' dE_var ?dv ?_); (case dv => rfl))
  | with_reducible refine' dE_int ?_
  | with_reducible refine' dE_str ?_
  | with_reducible refine' dE_bl ?_
  | with_reducible refine' dE_non ?_
  | ((with_reducible refine' dE_nt ?dv ?_); (case dv => assumption))
  | with_reducible refine' dE_ref ?_
  | with_reducible refine' dE_op ?_
  | with_reducible refine' dE_un ?_
  | with_reducible refine' dE_cmp ?_
  | with_reducible refine' dE_isN ?_
  | with_reducible refine' dE_notN ?_
  | with_reducible refine' dE_call ?_
  | with_reducible refine' dE_cb ?_
  | with_reducible refine' dE_kw ?_
  | with_reducible refine' dE_tup ?_
  | with_reducible refine' dE_if ?_
  | with_reducible refine' dE_and ?_
  | with_reducible refine' dE_or ?_
  | with_reducible refine' dE_not ?_
  | with_reducible refine' dE_sl ?_
  | with_reducible refine' dO_none ?_
  | with_reducible refine' dO_some ?_
  | with_reducible refine' dA_cons ?_
  | with_reducible refine' dA_nil ?_
  | with_reducible refine' dT_B ?_
  | with_reducible refine' dT_test ?_
  | with_reducible refine' dT_and ?_
  | with_reducible refine' dT_or ?_
  | with_reducible refine' dT_not ?_
  | with_reducible refine' dT_yes ?_
  | with_reducible refine' dR_I0i ?_
  | with_reducible refine' dU_neg ?_
  | ((with_reducible refine' dR_ixT ?dv ?_); (case dv => rfl))
  | with_reducible refine' dS_next ?_
  | with_reducible refine' dS_ret ?_
  | with_reducible refine' dS_drop ?_
  | with_reducible refine' dS_if ?_
  | with_reducible refine' dS_asg ?_
  | with_reducible refine' dS_par ?_
  | with_reducible refine' dG_name ?_
  | ((with_reducible refine' dG_tup ?dv ?_); (case dv => rfl); (dsimp only [List.map]))
  | with_reducible refine' dGs_cons ?_
  | with_reducible refine' dGs_nil ?_
  | with_reducible refine' dC_abs ?_
  | with_reducible refine' dC_max2 ?_
  | with_reducible refine' dC_min2 ?_
  | with_reducible refine' rtOf.of ?_
  | with_reducible refine' ex_cmp ?_
  | with_reducible refine' ex_bool ?_
  | with_reducible refine' ex_int ?_
  | with_reducible refine' ex_list ?_
  | with_reducible refine' ex_tup ?_
  | with_reducible refine' ex_d ?_
  | with_reducible refine' ex_m ?_
  | with_reducible refine' ex_par ?_
  | with_reducible refine' ex_rg1 ?_
  | with_reducible refine' ex_rg2 ?_
  | ((with_reducible refine' ex_dat ?dv ?dw ?_); (case dv => rfl); (case dw => exact Nat.le_of_ble_eq_true rfl))
  | ((fail_if_success (with_reducible show ∃ _, _)); (fail_if_success (with_reducible show _ ∧ _)); refine ⟨_, _, rfl, ?_⟩)
  | ((fail_if_success (with_reducible show ∃ _, _)); (fail_if_success (with_reducible show _ ∧ _)); refine ⟨_, rfl, ?_⟩)
  | fail)
local macro_rules | `(tactic| walk_at "e") => `(tactic| repeat' walk_at "e1")

/-- a size -/
def Sz (n : Nat) (x : Int) : Prop := x.natAbs < 2 ^ n
abbrev fr (q : Q) : PyData := .tuple [.int q.1, .int q.2]
structure Txt (mg : Str → Option Value) : Prop where
  len : mg "len" = none
  abs : mg "abs" = none
  max : mg "max" = none
  min : mg "min" = none
  sum : mg "sum" = none
  sorted : mg "sorted" = none
  tuple : mg "tuple" = none
  range : mg "range" = none
  list : mg "list" = none
  isinstance : mg "isinstance" = none
  bool : mg "bool" = none
  set : mg "set" = none
  dict : mg "dict" = none
  int : mg "int" = none
  str : mg "str" = none
  all : mg "all" = none
  zip : mg "zip" = none
  any : mg "any" = none
  enumerate : mg "enumerate" = none
def S_cd : SpD := fun rs M P => ∃ a b : Int, rs = [.d (.int a), .d (.int b)] ∧ 0 ≤ a ∧ 0 ≤ b ∧ P (.d (.int (Int.gcd a b : Int))) M
def S_fraction : SpD := fun rs M P => ∃ t b : Int, rs = [.d (.int t), .d (.int b)] ∧ 0 ≤ t ∧ 0 < b ∧ Sz 8000 b ∧ P (.d (fr (low t b))) M
theorem getElem?_map_some {α β : Type} {f : α → β} {l : List α} {i : Nat} {y : β} (h : (l.map f)[i]? = some y) : ∃ x, l[i]? = some x ∧ y = f x := by
  rw [List.getElem?_map] at h
  cases q : l[i]? with
  | none => rw [q] at h; cases h
  | some x => rw [q] at h; exact ⟨x, rfl, (Option.some.inj h).symm⟩
section
variable {P : Program} {w : World} {K : PySem.W.Frag} {mg : Str → Option Value} {base : Heap} {f : Addr} {fd : FuncData}
abbrev s_common_divisor : Stmt := topS 5
theorem sc_common_divisor : FnScope ["one", "other"] ["one", "other"] (defScope s_common_divisor) := ⟨rfl, rfl, rfl, by decide +kernel, rfl, by decide +kernel, by decide +kernel⟩
theorem ok_common_divisor (F : Fun K "common_divisor" "common_divisor" s_common_divisor f fd) : FnOk P w K mg base CX0 1 f fd ["one", "other"] (spOf K S_cd) := by
  refine ok_of F sc_common_divisor (fun rs M P h => by obtain ⟨a, b, rfl, _⟩ := h; rfl) fun cdv A outer s H E hr => ⟨_, (pss_cons (ps_while PassesOwn.never (pt_cmp (pc_gt (pv 1) pe_int)) (pss_one (ps_par (i := 0) (j := 1) (by rfl) sc_common_divisor.nd rfl rfl (by decide) rfl rfl (pa_cons (pv 1) (pa_cons (pe_op op_mod (pv 0) (pv 1)) pa_nil)) (by rfl))))
      (pss_one (ps_ret (pv 0)))), fun rs M P h => ?_⟩
  obtain ⟨a, b, rfl, ha, hb, p⟩ := h
  refine dS_seq (dS_while (fun m δ M' => ∃ a' b' : Int, δ = [some (.d (.int a')), some (.d (.int b'))] ∧ M' = M ∧ 0 ≤ a' ∧ 0 ≤ b' ∧ Int.gcd a' b' = Int.gcd a b ∧ m = b'.toNat) b.toNat ⟨a, b, rfl, rfl, ha, hb, rfl, rfl⟩ ?_)
  rintro m δ M' ⟨a', b', rfl, rfl, ha', hb', hg, rfl⟩
  walk_at "d"
  refine ifB (fun h => ?_) (fun h => ?_)
  · have h0 : 0 < b' := of_decide_eq_true h
    walk_at "d"
    refine dR_Ii h0 ?_
    walk_at "d"
    exact ⟨(a' % b').toNat, by have := Int.emod_lt_of_pos a' h0; have := Int.emod_nonneg a' (Int.ne_of_gt h0); omega, b', a' % b', rfl, rfl, hb', Int.emod_nonneg _ (Int.ne_of_gt h0), by rw [gcd_step ha' h0, hg], rfl⟩
  · have h0 : b' = 0 := by have := of_decide_eq_false h; omega
    subst h0
    walk_at "d"
    rw [← hg, Int.gcd_zero_right] at p
    rw [show ((a'.natAbs : Nat) : Int) = a' by omega] at p
    exact p
abbrev s_fraction : Stmt := topS 6
theorem sc_fraction : FnScope ["top", "bottom", "divisor"] ["top", "bottom"] (defScope s_fraction) := ⟨rfl, rfl, rfl, by decide +kernel, rfl, by decide +kernel, by decide +kernel⟩
theorem ok_fraction (F : Fun K "fraction" "fraction" s_fraction f fd) (c_common_divisor : Has P w K mg base 1 "common_divisor" ["one", "other"] S_cd) : FnOk P w K mg base CX0 2 f fd ["top", "bottom"] (spOf K S_fraction) := by
  refine ok_of F sc_fraction (fun rs M P h => by obtain ⟨a, b, rfl, _⟩ := h; rfl) fun cdv A outer s H E hr => ⟨_, (pss_cons (ps_set (i := 2) sc_fraction.nd rfl (Or.inl rfl) (pe_callH' c_common_divisor (hr.mono (by first | decide | omega)) rfl (pa_cons (pv 0) (pa_cons (pv 1) pa_nil))))
      (pss_one (ps_ret (pe_tup (pa_cons (pe_op op_fdivW (pv 0) (pv 2)) (pa_cons (pe_op op_fdivW (pv 1) (pv 2)) pa_nil)))))), fun rs M P h => ?_⟩
  obtain ⟨t, b, rfl, ht, hb, hz, p⟩ := h
  walk_at "d"
  have hg := gcd_pos (t := t) hb
  have hl := gcd_le (t := t) hb
  have hd : ∀ i, CDivW i (Int.gcd t b : Int) := fun i => wide_div hg (wide_le (by omega) hl hz) (by decide) (by decide)
  refine ⟨ht, by omega, ?_⟩
  walk_at "d"
  refine dR_Ii (hd t) ?_
  walk_at "d"
  refine dR_Ii (hd b) ?_
  walk_at "d"
  exact p
/-! ropes -/
abbrev _root_.Ma.Rope.d (r : Rope) : PyData := .tuple [.str r.n, .int r.a, .int r.b, .int r.c]
structure _root_.Ma.Rope.Ok (r : Rope) : Prop where
  a0 : 0 ≤ r.a
  aS : Sz 40 r.a
  b0 : 0 < r.b
  bS : Sz 40 r.b
  c0 : 0 < r.c
  cS : Sz 40 r.c
/-- the names of those that are broken -/
abbrev nm (ns : List Str) : PyData := .tuple (ns.map .str)
def leftOf (rs : List Rope) (ns : List Str) : List Rope := rs.filter fun r => !ns.contains r.n
def S_left : SpD := fun rs M P => ∃ (ro : List Rope) (ns : List Str), rs = [.d (.tuple (ro.map Rope.d)), .d (nm ns)] ∧ ro.length ≤ 100 ∧ P (.d (.list ((leftOf ro ns).map Rope.d))) M
def S_drawn : SpD := fun rs M P => ∃ (a : Int) (q : Q), rs = [.d (.int a), .d (fr q)] ∧ Sz 100 a ∧ Sz 2000 q.2 ∧ P (.d (.bool (decide (a * q.2 < q.1)))) M
def pullOf (r : Rope) (q : Q) : Q := if r.a * q.2 < q.1 then low (r.b * (q.1 - r.a * q.2)) q.2 else (0, 1)
def S_pull : SpD := fun rs M P => ∃ (r : Rope) (q : Q), rs = [.d r.d, .d (fr q)] ∧ r.Ok ∧ 0 < q.2 ∧ Sz 2000 q.1 ∧ Sz 2000 q.2 ∧ P (.d (fr (pullOf r q))) M
theorem Sz.mul {m n : Nat} {x y : Int} (h : Sz m x) (k : Sz n y) : Sz (m + n) (x * y) := wide_lt h k
theorem Sz.mulOk {m n : Nat} {x y : Int} (h : Sz m x) (k : Sz n y) (h0 : 0 < m) (h1 : 0 < n) (hs : m + n ≤ 1000000) : CMulW x y := wide_mul h k h0 h1 hs
theorem Sz.up {m n : Nat} {x : Int} (h : Sz m x) (k : m ≤ n) : Sz n x := Nat.lt_of_lt_of_le h (Nat.pow_le_pow_right (by decide) k)
theorem Sz.add {m : Nat} {x y : Int} (h : Sz m x) (k : Sz m y) : Sz (m + 1) (x + y) := by
  have h' : x.natAbs < 2 ^ m := h
  have k' : y.natAbs < 2 ^ m := k
  show (x + y).natAbs < 2 ^ (m + 1)
  rw [Nat.pow_succ]
  omega
theorem Sz.sub {m : Nat} {x y : Int} (h : Sz m x) (k : Sz m y) : Sz (m + 1) (x - y) := by
  have h' : x.natAbs < 2 ^ m := h
  have k' : y.natAbs < 2 ^ m := k
  show (x - y).natAbs < 2 ^ (m + 1)
  rw [Nat.pow_succ]
  omega
theorem Sz.le {m : Nat} {x y : Int} (h : Sz m y) (h0 : 0 ≤ x) (h1 : x ≤ y) : Sz m x := wide_le h0 h1 h
abbrev s_ropes_left : Stmt := topS 20
theorem sc_ropes_left : FnScope ["bundle", "broken", "rope"] ["bundle", "broken"] (defScope s_ropes_left) := ⟨rfl, rfl, rfl, by decide +kernel, rfl, by decide +kernel, by decide +kernel⟩
theorem ok_ropes_left (F : Fun K "ropes_left" "ropes_left" s_ropes_left f fd) : FnOk P w K mg base CX0 1 f fd ["bundle", "broken"] (spOf K S_left) := by
  refine ok_of F sc_ropes_left (fun rs M P h => by obtain ⟨a, b, rfl, _⟩ := h; rfl) fun cdv A outer s H E hr => ⟨_, (pss_one (ps_ret (pe_lc (own := [("rope", 2)]) (by rfl) sc_ropes_left.nd (kpi_tup K (pv 0)) (blkOk_by (N := ["bundle", "broken", "rope"]) (sc := defScope s_ropes_left) (own := [("rope", 2)]) (by decide +kernel)) (fun _ _ _ _ _ => (pg_name (i := 2) sc_ropes_left.nd rfl (Or.inl rfl))) (fun _ _ _ _ _ => (pts_one (pt_cmpR (kop_notIn K) (pe_ix (kix_tup K) (pv 2) pe_int (fun _ _ => rfl)) (pv 1) (by rfl)))) (fun _ _ _ _ _ => (pv 2))))), fun rs M P h => ?_⟩
  obtain ⟨ro, ns, rfl, hl, p⟩ := h
  walk_at "d"
  refine dE_lcT (gw_name 2) ?_
  walk_at "d"
  refine ⟨by rw [List.length_map]; omega, fun i acc M' => M' = M ∧ acc = (leftOf (ro.take i) ns).map Rope.d, ⟨rfl, rfl⟩, fun i x acc M' hx hI => ?_, fun acc M' hI => .inl ?_⟩
  · obtain ⟨rfl, rfl⟩ := hI
    obtain ⟨r, hr1, rfl⟩ := getElem?_map_some hx
    walk_at "d"
    refine dR_no (ns := ns) (.inr (.inl rfl)) ?_
    walk_at "d"
    have ht : ro.take (i + 1) = ro.take i ++ [r] := by rw [List.take_succ, hr1]; rfl
    refine ifB (fun h => ?_) (fun h => ?_)
    · walk_at "d"
      refine ⟨rfl, ?_⟩
      rw [ht]
      unfold leftOf
      rw [List.filter_append, List.map_append, List.filter_cons, if_pos h]
      rfl
    · refine ⟨rfl, ?_⟩
      rw [ht]
      unfold leftOf
      rw [List.filter_append, List.map_append, List.filter_cons, if_neg (by rw [h]; decide)]
      simp
  · obtain ⟨rfl, rfl⟩ := hI
    rw [List.length_map, List.take_length]
    exact rtOf.of p
abbrev s_is_drawn : Stmt := topS 23
theorem sc_is_drawn : FnScope ["slack", "sunk"] ["slack", "sunk"] (defScope s_is_drawn) := ⟨rfl, rfl, rfl, by decide +kernel, rfl, by decide +kernel, by decide +kernel⟩
theorem ok_is_drawn (F : Fun K "is_drawn" "is_drawn" s_is_drawn f fd) : FnOk P w K mg base CX0 1 f fd ["slack", "sunk"] (spOf K S_drawn) := by
  refine ok_of F sc_is_drawn (fun rs M P h => by obtain ⟨a, b, rfl, _⟩ := h; rfl) fun cdv A outer s H E hr => ⟨_, (pss_one (ps_ret (pe_cmp (pc_gt (pe_ix (kix_tup K) (pv 1) pe_int (fun _ _ => rfl)) (pe_op op_mulW (pv 0) (pe_ix (kix_tup K) (pv 1) pe_int (fun _ _ => rfl))))))), fun rs M P h => ?_⟩
  obtain ⟨a, q, rfl, h1, h2, p⟩ := h
  walk_at "d"
  refine dR_Ii (h1.mulOk h2 (by decide) (by decide) (by decide)) ?_
  walk_at "d"
  exact p
abbrev s_pull_at : Stmt := topS 24
theorem sc_pull_at : FnScope ["rope", "sunk", "slack", "stiff", "top", "bottom"] ["rope", "sunk"] (defScope s_pull_at) := ⟨rfl, rfl, rfl, by decide +kernel, rfl, by decide +kernel, by decide +kernel⟩
theorem ok_pull_at {a_N : Addr} (N : Nt K mg a_N) (F : Fun K "pull_at" "pull_at" s_pull_at f fd) (c_is_drawn : Has P w K mg base 1 "is_drawn" ["slack", "sunk"] S_drawn) (c_fraction : Has P w K mg base 2 "fraction" ["top", "bottom"] S_fraction) : FnOk P w K mg base CX0 3 f fd ["rope", "sunk"] (spOf K S_pull) := by
  refine ok_of F sc_pull_at (fun rs M P h => by obtain ⟨a, b, rfl, _⟩ := h; rfl) fun cdv A outer s H E hr => ⟨_, (pss_cons (ps_set (i := 2) sc_pull_at.nd rfl (Or.inl rfl) (pe_ix (kix_tup K) (pv 0) pe_int (fun _ _ => rfl)))
      (pss_cons (ps_set (i := 3) sc_pull_at.nd rfl (Or.inl rfl) (pe_ix (kix_tup K) (pv 0) pe_int (fun _ _ => rfl)))
      (pss_cons (ps_if (pt_not (pt_val (pe_callH' c_is_drawn (hr.mono (by first | decide | omega)) rfl (pa_cons (pv 2) (pa_cons (pv 1) pa_nil))))) (pss_one (ps_ret (pe_glob (v := .ref a_N) rfl N.m rfl))) pss_nil)
      (pss_cons (ps_asg (pv 1) (kpg_tup K (n := 2) rfl (pgs_cons (pg_name (i := 4) sc_pull_at.nd rfl (Or.inl rfl)) (pgs_cons (pg_name (i := 5) sc_pull_at.nd rfl (Or.inl rfl)) pgs_nil))))
      (pss_one (ps_ret (pe_callH' c_fraction (hr.mono (by first | decide | omega)) rfl (pa_cons (pe_op op_mulW (pv 3) (pe_op op_sub (pv 4) (pe_op op_mulW (pv 2) (pv 5)))) (pa_cons (pv 5) pa_nil))))))))), fun rs M P h => ?_⟩
  obtain ⟨r, q, rfl, hr1, hq0, hq1, hq2, p⟩ := h
  walk_at "d"
  refine ⟨hr1.aS.up (by decide), hq2, ?_⟩
  walk_at "d"
  refine ifB (fun h => ?_) (fun h => ?_)
  · walk_at "d"
    unfold pullOf at p
    rw [if_neg (by simpa using h)] at p
    exact p
  · have h' : r.a * q.2 < q.1 := by simpa using h
    unfold pullOf at p
    rw [if_pos h'] at p
    walk_at "d"
    have z1 : Sz 2040 (r.a * q.2) := (hr1.aS.mul hq2).up (by decide)
    refine dR_Ii (hr1.aS.mulOk hq2 (by decide) (by decide) (by decide)) ?_
    walk_at "d"
    have z2 : Sz 2041 (q.1 - r.a * q.2) := (hq1.up (by decide)).sub z1
    refine dR_Ii (hr1.bS.mulOk z2 (by decide) (by decide) (by decide)) ?_
    walk_at "d"
    exact ⟨Int.mul_nonneg (Int.le_of_lt hr1.b0) (by omega), hq0, hq2.up (by decide), rtOf.of p⟩
end
end K2

namespace K2
open PySem L2 Sd Ma
local macro_rules | `(tactic| walk_at "d1") => `(tactic| first
  | ((with_reducible refine' dE_var ?dv ?_); (case dv => rfl))
  | with_reducible refine' dE_int ?_
  | with_reducible refine' dE_str ?_
  | with_reducible refine' dE_bl ?_
  | with_reducible refine' dE_non ?_
  | ((with_reducible refine' dE_nt ?dv ?_); (case dv => assumption))
  | with_reducible refine' dE_ref ?_
  | with_reducible refine' dE_op ?_
  | with_reducible refine' dE_un ?_
  | with_reducible refine' dE_cmp ?_
  | with_reducible refine' dE_isN ?_
  | with_reducible refine' dE_notN ?_
  | with_reducible refine' dE_call ?_
  | with_reducible refine' dE_cb ?_
  | with_reducible refine' dE_kw ?_
  | with_reducible refine' dE_tup ?_
  | with_reducible refine' dE_if ?_
  | with_reducible refine' dE_and ?_
  | with_reducible refine' dE_or ?_
  | with_reducible refine' dE_not ?_
  | with_reducible refine' dE_sl ?_
  | with_reducible refine' dO_none ?_
  | with_reducible refine' dO_some ?_
  | with_reducible refine' dA_cons ?_
  | with_reducible refine' dA_nil ?_
  | with_reducible refine' dT_B ?_
  | with_reducible refine' dT_test ?_
  | with_reducible refine' dT_and ?_
  | with_reducible refine' dT_or ?_
  | with_reducible refine' dT_not ?_
  | with_reducible refine' dT_yes ?_
  | with_reducible refine' dR_I0i ?_
  | with_reducible refine' dU_neg ?_
  | ((with_reducible refine' dR_ixT ?dv ?_); (case dv => rfl))
  | with_reducible refine' dS_seq ?_
  | with_reducible refine' dS_next ?_
  | with_reducible refine' dS_ret ?_
  | with_reducible refine' dS_drop ?_
  | with_reducible refine' dS_if ?_
  | with_reducible refine' dS_asg ?_
  | with_reducible refine' dS_par ?_
  | with_reducible refine' dG_name ?_
  | ((with_reducible refine' dG_tup ?dv ?_); (case dv => rfl); (dsimp only [List.map]))
  | with_reducible refine' dGs_cons ?_
  | with_reducible refine' dGs_nil ?_
  | with_reducible refine' dC_abs ?_
  | with_reducible refine' dC_max2 ?_
  | with_reducible refine' dC_min2 ?_
  | with_reducible refine' rtOf.of ?_
  | with_reducible refine' ex_cmp ?_
  | with_reducible refine' ex_bool ?_
  | with_reducible refine' ex_int ?_
  | with_reducible refine' ex_list ?_
  | with_reducible refine' ex_tup ?_
  | with_reducible refine' ex_d ?_
  | with_reducible refine' ex_m ?_
  | with_reducible refine' ex_par ?_
  | with_reducible refine' ex_rg1 ?_
  | with_reducible refine' ex_rg2 ?_
  | ((with_reducible refine' ex_dat ?dv ?dw ?_); (case dv => rfl); (case dw => exact Nat.le_of_ble_eq_true rfl))
  | ((fail_if_success (with_reducible show ∃ _, _)); (fail_if_success (with_reducible show _ ∧ _)); refine ⟨_, _, rfl, ?_⟩)
  | ((fail_if_success (with_reducible show ∃ _, _)); (fail_if_success (with_reducible show _ ∧ _)); refine ⟨_, rfl, ?_⟩)
  | fail)
local macro_rules | `(tactic| walk_at "d") => `(tactic| repeat' walk_at "d1")
local macro_rules | `(tactic| walk_at "e1") => `(tactic| first
  | ((with_reducible refine' dE_var ?dv ?_); (case dv => rfl))
  | with_reducible refine' dE_int ?_
  | with_reducible refine' dE_str ?_
  | with_reducible refine' dE_bl ?_
  | with_reducible refine' dE_non ?_
  | ((with_reducible refine' dE_nt ?dv ?_); (case dv => assumption))
  | with_reducible refine' dE_ref ?_
  | with_reducible refine' dE_op ?_
  | with_reducible refine' dE_un ?_
  | with_reducible refine' dE_cmp ?_
  | with_reducible refine' dE_isN ?_
  | with_reducible refine' dE_notN ?_
  | with_reducible refine' dE_call ?_
  | with_reducible refine' dE_cb ?_
  | with_reducible refine' dE_kw ?_
  | with_reducible refine' dE_tup ?_
  | with_reducible refine' dE_if ?_
  | with_reducible refine' dE_and ?_
  | with_reducible refine' dE_or ?_
  | with_reducible refine' dE_not ?_
  | with_reducible refine' dE_sl ?_
  | with_reducible refine' dO_none ?_
  | with_reducible refine' dO_some ?_
  | with_reducible refine' dA_cons ?_
  | with_reducible refine' dA_nil ?_
  | with_reducible refine' dT_B ?_
  | with_reducible refine' dT_test ?_
  | with_reducible refine' dT_and ?_
  | with_reducible refine' dT_or ?_
  | with_reducible refine' dT_not ?_
  | with_reducible refine' dT_yes ?_
  | with_reducible refine' dR_I0i ?_
  | with_reducible refine' dU_neg ?_
  | ((with_reducible refine' dR_ixT ?dv ?_); (case dv => rfl))
  | with_reducible refine' dS_next ?_
  | with_reducible refine' dS_ret ?_
  | with_reducible refine' dS_drop ?_
  | with_reducible refine' dS_if ?_
  | with_reducible refine' dS_asg ?_
  | with_reducible refine' dS_par ?_
  | with_reducible refine' dG_name ?_
  | ((with_reducible refine' dG_tup ?dv ?_); (case dv => rfl); (dsimp only [List.map]))
  | with_reducible refine' dGs_cons ?_
  | with_reducible refine' dGs_nil ?_
  | with_reducible refine' dC_abs ?_
  | with_reducible refine' dC_max2 ?_
  | with_reducible refine' dC_min2 ?_
  | with_reducible refine' rtOf.of ?_
  | with_reducible refine' ex_cmp ?_
  | with_reducible refine' ex_bool ?_
  | with_reducible refine' ex_int ?_
  | with_reducible refine' ex_list ?_
  | with_reducible refine' ex_tup ?_
  | with_reducible refine' ex_d ?_
  | with_reducible refine' ex_m ?_
  | with_reducible refine' ex_par ?_
  | with_reducible refine' ex_rg1 ?_
  | with_reducible refine' ex_rg2 ?_
  | ((with_reducible refine' ex_dat ?dv ?dw ?_); (case dv => rfl); (case dw => exact Nat.le_of_ble_eq_true rfl))
  | ((fail_if_success (with_reducible show ∃ _, _)); (fail_if_success (with_reducible show _ ∧ _)); refine ⟨_, _, rfl, ?_⟩)
  | ((fail_if_success (with_reducible show ∃ _, _)); (fail_if_success (with_reducible show _ ∧ _)); refine ⟨_, rfl, ?_⟩)
  | fail)
local macro_rules | `(tactic| walk_at "e") => `(tactic| repeat' walk_at "e1")

section
variable {P : Program} {w : World} {K : PySem.W.Frag} {mg : Str → Option Value} {base : Heap} {f : Addr} {fd : FuncData}
abbrev keyS : PyData → Option Int := itemKey 1
def kvS (d : PyData) : Int := (itemKey 1 d).getD 0
abbrev opt : Option Q → PyData
  | none => .none
  | some q => fr q
def S_sunk : SpD := fun rs M P => ∃ (ro : List Rope) (t b : Int), rs = [.d (.list (ro.map Rope.d)), .d (fr (t, b))] ∧ ro.length ≤ 100 ∧ (∀ r ∈ ro, r.Ok) ∧ 0 ≤ t ∧ 0 < b ∧ Sz 300 t ∧ Sz 300 b ∧ P (.d (opt (sunkOf ro t b))) M
abbrev s_slack_of : Stmt := topS 22
theorem sc_slack_of : FnScope ["rope"] ["rope"] (defScope s_slack_of) := ⟨rfl, rfl, rfl, by decide +kernel, rfl, by decide +kernel, by decide +kernel⟩
abbrev s_sunk_by : Stmt := topS 21
theorem sc_sunk_by : FnScope ["left", "load", "top", "bottom", "sunk", "stiff_drawn", "lost_to_slack", "name", "slack", "stiff", "strong"] ["left", "load"] (defScope s_sunk_by) := ⟨rfl, rfl, rfl, by decide +kernel, rfl, by decide +kernel, by decide +kernel⟩
theorem ok_sunk_by {f_slack_of a_N : Addr} (N : Nt K mg a_N) (T : Txt mg) (F : Fun K "sunk_by" "sunk_by" s_sunk_by f fd) (c_slack_of_key : KeyFn P w K f_slack_of keyS) (c_slack_of_mg : mg "slack_of" = some (.ref f_slack_of)) (c_is_drawn : Has P w K mg base 1 "is_drawn" ["slack", "sunk"] S_drawn) (c_fraction : Has P w K mg base 2 "fraction" ["top", "bottom"] S_fraction) : FnOk P w K mg base CX0 4 f fd ["left", "load"] (spOf K S_sunk) := by
  refine ok_of F sc_sunk_by (fun rs M P h => by obtain ⟨a, b, c, rfl, _⟩ := h; rfl) fun cdv A outer s H E hr => ⟨_, (pss_cons (ps_asg (pv 1) (kpg_tup K (n := 2) rfl (pgs_cons (pg_name (i := 2) sc_sunk_by.nd rfl (Or.inl rfl)) (pgs_cons (pg_name (i := 3) sc_sunk_by.nd rfl (Or.inl rfl)) pgs_nil))))
      (pss_cons (ps_if (pt_cmp (pc_eqI (pv 2) pe_int)) (pss_one (ps_ret (pe_glob (v := .ref a_N) rfl N.m rfl))) pss_nil)
      (pss_cons (ps_set (i := 4) sc_sunk_by.nd rfl (Or.inl rfl) pe_non)
      (pss_cons (ps_set (i := 5) sc_sunk_by.nd rfl (Or.inl rfl) pe_int)
      (pss_cons (ps_set (i := 6) sc_sunk_by.nd rfl (Or.inl rfl) pe_int)
      (pss_cons (ps_for PassesOwn.never rfl (kpi_list K (pe_callBK (kcr_sortedF K c_slack_of_key hr (by decide)) (by rfl) T.sorted (by decide +kernel) (pa_cons (pv 0) pa_nil) (pk_cons (pe_glob (v := .ref f_slack_of) rfl c_slack_of_mg rfl) pk_nil))) (kpg_tup K (n := 4) rfl (pgs_cons (pg_name (i := 7) sc_sunk_by.nd rfl (Or.inl rfl)) (pgs_cons (pg_name (i := 8) sc_sunk_by.nd rfl (Or.inl rfl)) (pgs_cons (pg_name (i := 9) sc_sunk_by.nd rfl (Or.inl rfl)) (pgs_cons (pg_name (i := 10) sc_sunk_by.nd rfl (Or.inl rfl)) pgs_nil))))) (pss_cons (ps_if (PW.pt (pw_and (pt_cmp (pc_notN (pv 4))) (pw_and1 (pt_not (pt_val (pe_callH' c_is_drawn (hr.mono (by first | decide | omega)) rfl (pa_cons (pv 8) (pa_cons (pv 4) pa_nil)))))))) (pss_one (ps_ret (pv 4))) pss_nil)
      (pss_cons (ps_aug (i := 5) sc_sunk_by.nd rfl (Or.inl rfl) (pv 9) ip_add)
      (pss_cons (ps_aug (i := 6) sc_sunk_by.nd rfl (Or.inl rfl) (pe_op op_mulW (pv 9) (pv 8)) ip_add)
      (pss_one (ps_set (i := 4) sc_sunk_by.nd rfl (Or.inl rfl) (pe_callH' c_fraction (hr.mono (by first | decide | omega)) rfl (pa_cons (pe_op op_add (pv 2) (pe_op op_mulW (pv 6) (pv 3))) (pa_cons (pe_op op_mulW (pv 5) (pv 3)) pa_nil)))))))))
      (pss_one (ps_ret (pv 4))))))))), fun rs M P h => ?_⟩
  obtain ⟨ro, t, b, rfl, hl, hro, ht, hb, st, sb, p⟩ := h
  walk_at "d"
  refine ifB (fun h => ?_) (fun h => ?_)
  · walk_at "d"
    have h0 : t = 0 := of_decide_eq_true h
    unfold sunkOf at p
    rw [if_pos h0] at p
    exact p
  have h0 : t ≠ 0 := of_decide_eq_false h
  unfold sunkOf at p
  rw [if_neg h0] at p
  walk_at "d"
  refine dS_forL ?_
  walk_at "d"
  refine dK_sortedF (kv := kvS) (.inl rfl) (fun d hd => ?_) ?_
  · obtain ⟨r, _, rfl⟩ := List.mem_map.mp hd
    rfl
  rw [show (ro.map Rope.d).mergeSort (fun a b => decide (kvS a ≤ kvS b)) = (bySlack ro).map Rope.d from (List.map_mergeSort (r := fun x y : Rope => decide (x.a ≤ y.a)) (f := Rope.d) (fun a _ b _ => rfl)).symm]
  have hlen : (bySlack ro).length ≤ 100 := by unfold bySlack; rw [List.length_mergeSort]; exact hl
  have hok : ∀ r ∈ bySlack ro, r.Ok := fun r hr => hro r (List.mem_mergeSort.mp hr)
  generalize bySlack ro = so at hlen hok p
  refine ⟨_, rfl, fun i δ M' => ∃ (sk : Option Q) (k l : Int) (x1 x2 x3 x4 : Option SV), δ = [some (.d (.list (ro.map Rope.d))), some (.d (fr (t, b))), some (.d (.int t)), some (.d (.int b)), some (.d (opt sk)), some (.d (.int k)), some (.d (.int l)), x1, x2, x3, x4] ∧
      M' = M ∧ goS t b (so.drop i) sk k l = goS t b so none 0 0 ∧ Sz (41 + i) k ∧ Sz (81 + i) l ∧ 0 ≤ k ∧ 0 ≤ l ∧ (∀ q, sk = some q → 0 < q.2 ∧ Sz 600 q.2), ⟨none, 0, 0, _, _, _, _, rfl, rfl, rfl, Nat.pow_pos (by decide), Nat.pow_pos (by decide), by decide, by decide, fun q e => by cases e⟩, fun i x δ M' hx hI => ?_, fun δ M' hI => ?_⟩
  · obtain ⟨sk, k, l, x1, x2, x3, x4, rfl, rfl, hg, zk, zl, k0, l0, hq⟩ := hI
    obtain ⟨r, hr1, rfl⟩ := getElem?_map_some hx
    have hi : i < so.length := (List.getElem?_eq_some_iff.mp hr1).1
    have rok := hok r (List.mem_of_getElem? hr1)
    have hdr : so.drop i = r :: so.drop (i + 1) := by rw [List.drop_eq_getElem_cons hi, (List.getElem?_eq_some_iff.mp hr1).2]
    have next : ∀ (sk' : Option Q), sk' = some (low (t + (l + r.b * r.a) * b) ((k + r.b) * b)) → goS t b (so.drop (i + 1)) sk' (k + r.b) (l + r.b * r.a) = goS t b so none 0 0 →
        ∃ (sk : Option Q) (k' l' : Int) (x1 x2 x3 x4 : Option SV), [some (.d (.list (ro.map Rope.d))), some (.d (fr (t, b))), some (.d (.int t)), some (.d (.int b)), some (.d (opt sk')), some (.d (.int (k + r.b))), some (.d (.int (l + r.b * r.a))), some (.d (.str r.n)), some (.d (.int r.a)), some (.d (.int r.b)), some (.d (.int r.c))] = [some (.d (.list (ro.map Rope.d))), some (.d (fr (t, b))), some (.d (.int t)), some (.d (.int b)), some (.d (opt sk)), some (.d (.int k')), some (.d (.int l')), x1, x2, x3, x4] ∧
      M' = M' ∧ goS t b (so.drop (i + 1)) sk k' l' = goS t b so none 0 0 ∧ Sz (41 + (i + 1)) k' ∧ Sz (81 + (i + 1)) l' ∧ 0 ≤ k' ∧ 0 ≤ l' ∧ (∀ q, sk = some q → 0 < q.2 ∧ Sz 600 q.2) := fun sk' e1 e2 => by
      have hba : 0 ≤ r.b * r.a := Int.mul_nonneg (Int.le_of_lt rok.b0) rok.a0
      have hkb : 0 < (k + r.b) * b := Int.mul_pos (by have := rok.b0; omega) hb
      have zk' : Sz (41 + (i + 1)) (k + r.b) := (zk.add (rok.bS.up (by omega))).up (by omega)
      have zl' : Sz (81 + (i + 1)) (l + r.b * r.a) := (zl.add ((rok.bS.mul rok.aS).up (by omega))).up (by omega)
      refine ⟨sk', k + r.b, l + r.b * r.a, _, _, _, _, rfl, rfl, e2, zk', zl', by have := rok.b0; omega, by omega, fun q e => ?_⟩
      rw [e1] at e
      cases e
      have hz : Sz 600 ((k + r.b) * b) := (zk'.mul sb).up (by omega)
      have ht' : 0 ≤ t + (l + r.b * r.a) * b := by
        have := Int.mul_nonneg (show 0 ≤ l + r.b * r.a by omega) (Int.le_of_lt hb)
        omega
      exact ⟨(low_red ht' hkb).q0, hz.le (Int.le_of_lt (low_red ht' hkb).q0) (low_le ht' hkb).2⟩
    have zk' : Sz (41 + (i + 1)) (k + r.b) := (zk.add (rok.bS.up (by omega))).up (by omega)
    have zl' : Sz (81 + (i + 1)) (l + r.b * r.a) := (zl.add ((rok.bS.mul rok.aS).up (by omega))).up (by omega)
    have hba : 0 ≤ r.b * r.a := Int.mul_nonneg (Int.le_of_lt rok.b0) rok.a0
    have hkb : 0 < (k + r.b) * b := Int.mul_pos (by have := rok.b0; omega) hb
    have ht' : 0 ≤ t + (l + r.b * r.a) * b := by
      have := Int.mul_nonneg (show 0 ≤ l + r.b * r.a by omega) (Int.le_of_lt hb)
      omega
    cases sk with
    | none =>
      walk_at "d"
      refine ifF rfl ?_
      refine ifF rfl ?_
      walk_at "d"
      refine dS_aug (a := k) rfl ?_
      walk_at "d"
      refine dS_aug (a := l) rfl ?_
      walk_at "d"
      refine dR_Ii (rok.bS.mulOk rok.aS (by decide) (by decide) (by decide)) ?_
      walk_at "d"
      refine dR_Ii (zl'.mulOk sb (by omega) (by omega) (by omega)) ?_
      walk_at "d"
      refine dR_Ii (zk'.mulOk sb (by omega) (by omega) (by omega)) ?_
      walk_at "d"
      refine ⟨ht', hkb, (zk'.mul sb).up (by omega), ?_⟩
      walk_at "d"
      exact next _ rfl (by rw [hdr] at hg; exact hg)
    | some q =>
      obtain ⟨q0, qs⟩ := hq q rfl
      walk_at "d"
      refine ifT rfl ?_
      walk_at "d"
      refine ⟨rok.aS.up (by decide), qs.up (by decide), ?_⟩
      walk_at "d"
      rw [hdr] at hg
      refine ifB (fun h => ?_) (fun h => ?_)
      · walk_at "d"
        have hg' : (if r.a * q.2 < q.1 then goS t b (so.drop (i + 1)) (some (low (t + (l + r.b * r.a) * b) ((k + r.b) * b))) (k + r.b) (l + r.b * r.a) else some q) = goS t b so none 0 0 := hg
        rw [if_neg (by simpa using h)] at hg'
        rw [← hg'] at p
        exact p
      · have hg' : (if r.a * q.2 < q.1 then goS t b (so.drop (i + 1)) (some (low (t + (l + r.b * r.a) * b) ((k + r.b) * b))) (k + r.b) (l + r.b * r.a) else some q) = goS t b so none 0 0 := hg
        rw [if_pos (by simpa using h)] at hg'
        walk_at "d"
        refine dS_aug (a := k) rfl ?_
        walk_at "d"
        refine dS_aug (a := l) rfl ?_
        walk_at "d"
        refine dR_Ii (rok.bS.mulOk rok.aS (by decide) (by decide) (by decide)) ?_
        walk_at "d"
        refine dR_Ii (zl'.mulOk sb (by omega) (by omega) (by omega)) ?_
        walk_at "d"
        refine dR_Ii (zk'.mulOk sb (by omega) (by omega) (by omega)) ?_
        walk_at "d"
        refine ⟨ht', hkb, (zk'.mul sb).up (by omega), ?_⟩
        walk_at "d"
        exact next _ rfl hg'
  · obtain ⟨sk, k, l, x1, x2, x3, x4, rfl, rfl, hg, _⟩ := hI
    rw [List.length_map, List.drop_length] at hg
    walk_at "d"
    rw [← hg] at p
    exact p
end
end K2

namespace K2
open PySem L2 Sd Ma
local macro_rules | `(tactic| walk_at "d1") => `(tactic| first
  | ((with_reducible refine' dE_var ?dv ?_); (case dv => rfl))
  | with_reducible refine' dE_int ?_
  | with_reducible refine' dE_str ?_
  | with_reducible refine' dE_bl ?_
  | with_reducible refine' dE_non ?_
  | ((with_reducible refine' dE_nt ?dv ?_); (case dv => assumption))
  | with_reducible refine' dE_ref ?_
  | with_reducible refine' dE_op ?_
  | with_reducible refine' dE_un ?_
  | with_reducible refine' dE_cmp ?_
  | with_reducible refine' dE_isN ?_
  | with_reducible refine' dE_notN ?_
  | with_reducible refine' dE_call ?_
  | with_reducible refine' dE_cb ?_
  | with_reducible refine' dE_kw ?_
  | with_reducible refine' dE_tup ?_
  | with_reducible refine' dE_if ?_
  | with_reducible refine' dE_and ?_
  | with_reducible refine' dE_or ?_
  | with_reducible refine' dE_not ?_
  | with_reducible refine' dE_sl ?_
  | with_reducible refine' dO_none ?_
  | with_reducible refine' dO_some ?_
  | with_reducible refine' dA_cons ?_
  | with_reducible refine' dA_nil ?_
  | with_reducible refine' dT_B ?_
  | with_reducible refine' dT_test ?_
  | with_reducible refine' dT_and ?_
  | with_reducible refine' dT_or ?_
  | with_reducible refine' dT_not ?_
  | with_reducible refine' dT_yes ?_
  | with_reducible refine' dR_I0i ?_
  | with_reducible refine' dU_neg ?_
  | ((with_reducible refine' dR_ixT ?dv ?_); (case dv => rfl))
  | with_reducible refine' dS_seq ?_
  | with_reducible refine' dS_next ?_
  | with_reducible refine' dS_ret ?_
  | with_reducible refine' dS_drop ?_
  | with_reducible refine' dS_if ?_
  | with_reducible refine' dS_asg ?_
  | with_reducible refine' dS_par ?_
  | with_reducible refine' dG_name ?_
  | ((with_reducible refine' dG_tup ?dv ?_); (case dv => rfl); (dsimp only [List.map]))
  | with_reducible refine' dGs_cons ?_
  | with_reducible refine' dGs_nil ?_
  | with_reducible refine' dC_abs ?_
  | with_reducible refine' dC_max2 ?_
  | with_reducible refine' dC_min2 ?_
  | with_reducible refine' rtOf.of ?_
  | with_reducible refine' ex_cmp ?_
  | with_reducible refine' ex_bool ?_
  | with_reducible refine' ex_int ?_
  | with_reducible refine' ex_list ?_
  | with_reducible refine' ex_tup ?_
  | with_reducible refine' ex_d ?_
  | with_reducible refine' ex_m ?_
  | with_reducible refine' ex_par ?_
  | with_reducible refine' ex_rg1 ?_
  | with_reducible refine' ex_rg2 ?_
  | ((with_reducible refine' ex_dat ?dv ?dw ?_); (case dv => rfl); (case dw => exact Nat.le_of_ble_eq_true rfl))
  | ((fail_if_success (with_reducible show ∃ _, _)); (fail_if_success (with_reducible show _ ∧ _)); refine ⟨_, _, rfl, ?_⟩)
  | ((fail_if_success (with_reducible show ∃ _, _)); (fail_if_success (with_reducible show _ ∧ _)); refine ⟨_, rfl, ?_⟩)
  | fail)
local macro_rules | `(tactic| walk_at "d") => `(tactic| repeat' walk_at "d1")
local macro_rules | `(tactic| walk_at "e1") => `(tactic| first
  | ((with_reducible refine' dE_var ?dv ?_); (case dv => rfl))
  | with_reducible refine' dE_int ?_
  | with_reducible refine' dE_str ?_
  | with_reducible refine' dE_bl ?_
  | with_reducible refine' dE_non ?_
  | ((with_reducible refine' dE_nt ?dv ?_); (case dv => assumption))
  | with_reducible refine' dE_ref ?_
  | with_reducible refine' dE_op ?_
  | with_reducible refine' dE_un ?_
  | with_reducible refine' dE_cmp ?_
  | with_reducible refine' dE_isN ?_
  | with_reducible refine' dE_notN ?_
  | with_reducible refine' dE_call ?_
  | with_reducible refine' dE_cb ?_
  | with_reducible refine' dE_kw ?_
  | with_reducible refine' dE_tup ?_
  | with_reducible refine' dE_if ?_
  | with_reducible refine' dE_and ?_
  | with_reducible refine' dE_or ?_
  | with_reducible refine' dE_not ?_
  | with_reducible refine' dE_sl ?_
  | with_reducible refine' dO_none ?_
  | with_reducible refine' dO_some ?_
  | with_reducible refine' dA_cons ?_
  | with_reducible refine' dA_nil ?_
  | with_reducible refine' dT_B ?_
  | with_reducible refine' dT_test ?_
  | with_reducible refine' dT_and ?_
  | with_reducible refine' dT_or ?_
  | with_reducible refine' dT_not ?_
  | with_reducible refine' dT_yes ?_
  | with_reducible refine' dR_I0i ?_
  | with_reducible refine' dU_neg ?_
  | ((with_reducible refine' dR_ixT ?dv ?_); (case dv => rfl))
  | with_reducible refine' dS_next ?_
  | with_reducible refine' dS_ret ?_
  | with_reducible refine' dS_drop ?_
  | with_reducible refine' dS_if ?_
  | with_reducible refine' dS_asg ?_
  | with_reducible refine' dS_par ?_
  | with_reducible refine' dG_name ?_
  | ((with_reducible refine' dG_tup ?dv ?_); (case dv => rfl); (dsimp only [List.map]))
  | with_reducible refine' dGs_cons ?_
  | with_reducible refine' dGs_nil ?_
  | with_reducible refine' dC_abs ?_
  | with_reducible refine' dC_max2 ?_
  | with_reducible refine' dC_min2 ?_
  | with_reducible refine' rtOf.of ?_
  | with_reducible refine' ex_cmp ?_
  | with_reducible refine' ex_bool ?_
  | with_reducible refine' ex_int ?_
  | with_reducible refine' ex_list ?_
  | with_reducible refine' ex_tup ?_
  | with_reducible refine' ex_d ?_
  | with_reducible refine' ex_m ?_
  | with_reducible refine' ex_par ?_
  | with_reducible refine' ex_rg1 ?_
  | with_reducible refine' ex_rg2 ?_
  | ((with_reducible refine' ex_dat ?dv ?dw ?_); (case dv => rfl); (case dw => exact Nat.le_of_ble_eq_true rfl))
  | ((fail_if_success (with_reducible show ∃ _, _)); (fail_if_success (with_reducible show _ ∧ _)); refine ⟨_, _, rfl, ?_⟩)
  | ((fail_if_success (with_reducible show ∃ _, _)); (fail_if_success (with_reducible show _ ∧ _)); refine ⟨_, rfl, ?_⟩)
  | fail)
local macro_rules | `(tactic| walk_at "e") => `(tactic| repeat' walk_at "e1")

structure QOk (q : Q) : Prop extends Red q where
  s1 : Sz 600 q.1
  s2 : Sz 600 q.2
theorem goS_ok {t b : Int} (ht : 0 ≤ t) (hb : 0 < b) (st : Sz 300 t) (sb : Sz 300 b) : ∀ (rs : List Rope) (s : Option Q) (k l : Int) (m : Nat), m + rs.length ≤ 100 → (∀ r ∈ rs, r.Ok) → Sz (41 + m) k → Sz (81 + m) l → 0 ≤ k → 0 ≤ l → (∀ q, s = some q → QOk q) → ∀ q, goS t b rs s k l = some q → QOk q
  | [], s, k, l, m, _, _, _, _, _, _, hs, q, e => hs q e
  | r :: rs, s, k, l, m, hm, hro, zk, zl, k0, l0, hs, q, e => by
    rw [List.length_cons] at hm
    have rok := hro r List.mem_cons_self
    have hba : 0 ≤ r.b * r.a := Int.mul_nonneg (Int.le_of_lt rok.b0) rok.a0
    have hkb : 0 < (k + r.b) * b := Int.mul_pos (by have := rok.b0; omega) hb
    have zk' : Sz (41 + (m + 1)) (k + r.b) := (zk.add (rok.bS.up (by omega))).up (by omega)
    have zl' : Sz (81 + (m + 1)) (l + r.b * r.a) := (zl.add ((rok.bS.mul rok.aS).up (by omega))).up (by omega)
    have ht' : 0 ≤ t + (l + r.b * r.a) * b := by
      have := Int.mul_nonneg (show 0 ≤ l + r.b * r.a by omega) (Int.le_of_lt hb)
      omega
    have hz : Sz 600 ((k + r.b) * b) := (zk'.mul sb).up (by omega)
    have hz1 : Sz 600 (t + (l + r.b * r.a) * b) := (Sz.add (st.up (show 300 ≤ 500 by decide)) ((zl'.mul sb).up (by omega))).up (by decide)
    have new : QOk (low (t + (l + r.b * r.a) * b) ((k + r.b) * b)) := ⟨low_red ht' hkb, hz1.le (low_red ht' hkb).p0 (low_le ht' hkb).1, hz.le (Int.le_of_lt (low_red ht' hkb).q0) (low_le ht' hkb).2⟩
    have go : goS t b rs (some (low (t + (l + r.b * r.a) * b) ((k + r.b) * b))) (k + r.b) (l + r.b * r.a) = some q → QOk q := fun e => goS_ok ht hb st sb rs _ _ _ (m + 1) (by omega) (fun x hx => hro x (List.mem_cons_of_mem _ hx)) zk' zl' (by have := rok.b0; omega) (by omega) (fun q' e' => by cases e'; exact new) q e
    cases s with
    | none => exact go e
    | some q0 =>
      have e' : (if r.a * q0.2 < q0.1 then goS t b rs (some (low (t + (l + r.b * r.a) * b) ((k + r.b) * b))) (k + r.b) (l + r.b * r.a) else some q0) = some q := e
      by_cases hc : r.a * q0.2 < q0.1
      · rw [if_pos hc] at e'; exact go e'
      · rw [if_neg hc] at e'; exact hs q e'
theorem sunk_ok {ro : List Rope} {t b : Int} (hl : ro.length ≤ 100) (hro : ∀ r ∈ ro, r.Ok) (ht : 0 ≤ t) (hb : 0 < b) (st : Sz 300 t) (sb : Sz 300 b) {q : Q} (e : sunkOf ro t b = some q) : QOk q := by
  unfold sunkOf at e
  by_cases h : t = 0
  · rw [if_pos h] at e; cases e
    exact ⟨⟨by decide, by decide, by decide⟩, Nat.pow_pos (by decide), Nat.lt_of_lt_of_le (by decide) (Nat.pow_le_pow_right (by decide) (show 1 ≤ 600 by decide))⟩
  · rw [if_neg h] at e
    exact goS_ok ht hb st sb (bySlack ro) none 0 0 0 (by unfold bySlack; rw [List.length_mergeSort]; omega) (fun r hr => hro r (List.mem_mergeSort.mp hr)) (Nat.pow_pos (by decide)) (Nat.pow_pos (by decide)) (by decide) (by decide) (fun q e => by cases e) q e
theorem goS_some {t b : Int} : ∀ (rs : List Rope) (q : Q) (k l : Int), ∃ q', goS t b rs (some q) k l = some q'
  | [], q, k, l => ⟨q, rfl⟩
  | r :: rs, q, k, l => by
    show ∃ q', (if r.a * q.2 < q.1 then goS t b rs (some (low (t + (l + r.b * r.a) * b) ((k + r.b) * b))) (k + r.b) (l + r.b * r.a) else some q) = some q'
    by_cases hc : r.a * q.2 < q.1
    · rw [if_pos hc]; exact goS_some rs _ _ _
    · rw [if_neg hc]; exact ⟨q, rfl⟩
/-- the ropes of a bundle -/
structure BOk (ro : List Rope) : Prop where
  len : ro.length ≤ 100
  ok : ∀ r ∈ ro, r.Ok
structure LOk (q : Q) : Prop extends Red q where
  s1 : Sz 300 q.1
  s2 : Sz 300 q.2
abbrev bd (ro : List Rope) : PyData := .tuple (ro.map Rope.d)
abbrev ld (ro : List Rope) : PyData := .list (ro.map Rope.d)
theorem left_ok {ro : List Rope} (h : BOk ro) (ns : List Str) : BOk (leftOf ro ns) := ⟨Nat.le_trans (List.length_filter_le _ _) h.len, fun r hr => h.ok r (List.mem_filter.mp hr).1⟩
theorem sunk_some {ro : List Rope} {t b : Int} (h : ro ≠ []) : ∃ q, sunkOf ro t b = some q := by
  unfold sunkOf
  by_cases h0 : t = 0
  · rw [if_pos h0]; exact ⟨_, rfl⟩
  · rw [if_neg h0]
    cases e : bySlack ro with
    | nil =>
      exfalso
      have := congrArg List.length e
      unfold bySlack at this
      rw [List.length_mergeSort] at this
      exact h (List.length_eq_zero_iff.mp this)
    | cons r rs => exact goS_some rs _ _ _
theorem sunk_none {t b : Int} : sunkOf [] t b = if t = 0 then some (0, 1) else none := by
  unfold sunkOf bySlack
  rw [List.mergeSort_nil]
  rfl
abbrev pullD (sk : Option Q) (r : Rope) : PyData := .tuple [.str r.n, fr (pullOf r (sk.getD (0, 1)))]
section
variable {P : Program} {w : World} {K : PySem.W.Frag} {mg : Str → Option Value} {base : Heap} {f : Addr} {fd : FuncData}
def S_sinking : SpD := fun rs M P => ∃ (ro : List Rope) (ns : List Str) (q : Q), rs = [.d (bd ro), .d (nm ns), .d (fr q)] ∧ BOk ro ∧ LOk q ∧ P (.d (opt (sunkOf (leftOf ro ns) q.1 q.2))) M
def S_pulls : SpD := fun rs M P => ∃ (ro : List Rope) (ns : List Str) (q : Q), rs = [.d (bd ro), .d (nm ns), .d (fr q)] ∧ BOk ro ∧ LOk q ∧ ∀ a, M a = none → P (.m a) (mset M a ((leftOf ro ns).map (pullD (sunkOf (leftOf ro ns) q.1 q.2))))
abbrev s_sinking : Stmt := topS 16
theorem sc_sinking : FnScope ["bundle", "broken", "load"] ["bundle", "broken", "load"] (defScope s_sinking) := ⟨rfl, rfl, rfl, by decide +kernel, rfl, by decide +kernel, by decide +kernel⟩
theorem ok_sinking (F : Fun K "sinking" "sinking" s_sinking f fd) (c_ropes_left : Has P w K mg base 1 "ropes_left" ["bundle", "broken"] S_left) (c_sunk_by : Has P w K mg base 4 "sunk_by" ["left", "load"] S_sunk) : FnOk P w K mg base CX0 5 f fd ["bundle", "broken", "load"] (spOf K S_sinking) := by
  refine ok_of F sc_sinking (fun rs M P h => by obtain ⟨a, b, c, rfl, _⟩ := h; rfl) fun cdv A outer s H E hr => ⟨_, (pss_one (ps_ret (pe_callH' c_sunk_by (hr.mono (by first | decide | omega)) rfl (pa_cons (pe_callH' c_ropes_left (hr.mono (by first | decide | omega)) rfl (pa_cons (pv 0) (pa_cons (pv 1) pa_nil))) (pa_cons (pv 2) pa_nil))))), fun rs M P h => ?_⟩
  obtain ⟨ro, ns, q, rfl, hB, hL, p⟩ := h
  walk_at "d"
  refine ⟨hB.len, ?_⟩
  walk_at "d"
  refine ⟨leftOf ro ns, q.1, q.2, rfl, (left_ok hB ns).len, (left_ok hB ns).ok, hL.p0, hL.q0, hL.s1, hL.s2, rtOf.of p⟩
abbrev s_pulls : Stmt := topS 17
theorem sc_pulls : FnScope ["bundle", "broken", "load", "left", "sunk", "rope"] ["bundle", "broken", "load"] (defScope s_pulls) := ⟨rfl, rfl, rfl, by decide +kernel, rfl, by decide +kernel, by decide +kernel⟩
theorem ok_pulls (F : Fun K "pulls" "pulls" s_pulls f fd) (c_ropes_left : Has P w K mg base 1 "ropes_left" ["bundle", "broken"] S_left) (c_sunk_by : Has P w K mg base 4 "sunk_by" ["left", "load"] S_sunk) (c_pull_at : Has P w K mg base 3 "pull_at" ["rope", "sunk"] S_pull) : FnOk P w K mg base CX0 5 f fd ["bundle", "broken", "load"] (spOf K S_pulls) := by
  refine ok_of F sc_pulls (fun rs M P h => by obtain ⟨a, b, c, rfl, _⟩ := h; rfl) fun cdv A outer s H E hr => ⟨_, (pss_cons (ps_set (i := 3) sc_pulls.nd rfl (Or.inl rfl) (pe_callH' c_ropes_left (hr.mono (by first | decide | omega)) rfl (pa_cons (pv 0) (pa_cons (pv 1) pa_nil))))
      (pss_cons (ps_set (i := 4) sc_pulls.nd rfl (Or.inr rfl) (pe_callH' c_sunk_by (hr.mono (by first | decide | omega)) rfl (pa_cons (pv 3) (pa_cons (pv 2) pa_nil))))
      (pss_one (ps_ret (pe_lc (own := [("rope", 5)]) (by rfl) sc_pulls.nd (kpi_list K (pv 3)) (blkOk_by (N := ["bundle", "broken", "load", "left", "sunk", "rope"]) (sc := defScope s_pulls) (own := [("rope", 5)]) (by decide +kernel)) (fun _ _ _ _ _ => (pg_name (i := 5) sc_pulls.nd rfl (Or.inl rfl))) (fun _ _ _ _ _ => pts_nil) (fun _ _ _ _ _ => (pe_tup (pa_cons (pe_ix (kix_tup K) (pv 5) pe_int (fun _ _ => rfl)) (pa_cons (pe_callH' c_pull_at (hr.mono (by first | decide | omega)) rfl (pa_cons (pv 5) (pa_cons (pv 4) pa_nil))) pa_nil))))))))), fun rs M P h => ?_⟩
  obtain ⟨ro, ns, q, rfl, hB, hL, p⟩ := h
  have hB' := left_ok hB ns
  walk_at "d"
  refine ⟨hB.len, ?_⟩
  walk_at "d"
  refine ⟨leftOf ro ns, q.1, q.2, rfl, hB'.len, hB'.ok, hL.p0, hL.q0, hL.s1, hL.s2, ?_⟩
  generalize leftOf ro ns = lo at hB' p
  walk_at "d"
  refine dE_lcL (gw_name 5) ?_
  walk_at "d"
  refine ⟨by rw [List.length_map]; have := hB'.len; omega, fun i acc M' => M' = M ∧ acc = (lo.take i).map (pullD (sunkOf lo q.1 q.2)), ⟨rfl, rfl⟩, fun i x acc M' hx hI => ?_, fun acc M' hI => .inr fun a ha => ?_⟩
  · obtain ⟨rfl, rfl⟩ := hI
    obtain ⟨r, hr1, rfl⟩ := getElem?_map_some hx
    obtain ⟨sk, hsk⟩ := sunk_some (ro := lo) (t := q.1) (b := q.2) (fun e => by rw [e] at hr1; simp at hr1)
    have hq := sunk_ok hB'.len hB'.ok hL.p0 hL.q0 hL.s1 hL.s2 hsk
    rw [hsk]
    walk_at "d"
    refine ifT rfl ?_
    walk_at "d"
    refine ⟨hB'.ok r (List.mem_of_getElem? hr1), hq.q0, hq.s1.up (by decide), hq.s2.up (by decide), ?_⟩
    walk_at "d"
    refine ⟨rfl, ?_⟩
    rw [List.take_succ, hr1, List.map_append]
    rfl
  · obtain ⟨rfl, rfl⟩ := hI
    rw [List.length_map, List.take_length]
    exact rtOf.of (p a ha)
end
end K2

namespace K2
open PySem L2 Sd Ma
local macro_rules | `(tactic| walk_at "d1") => `(tactic| first
  | ((with_reducible refine' dE_var ?dv ?_); (case dv => rfl))
  | with_reducible refine' dE_int ?_
  | with_reducible refine' dE_str ?_
  | with_reducible refine' dE_bl ?_
  | with_reducible refine' dE_non ?_
  | ((with_reducible refine' dE_nt ?dv ?_); (case dv => assumption))
  | with_reducible refine' dE_ref ?_
  | with_reducible refine' dE_op ?_
  | with_reducible refine' dE_un ?_
  | with_reducible refine' dE_cmp ?_
  | with_reducible refine' dE_isN ?_
  | with_reducible refine' dE_notN ?_
  | with_reducible refine' dE_call ?_
  | with_reducible refine' dE_cb ?_
  | with_reducible refine' dE_kw ?_
  | with_reducible refine' dE_tup ?_
  | with_reducible refine' dE_if ?_
  | with_reducible refine' dE_and ?_
  | with_reducible refine' dE_or ?_
  | with_reducible refine' dE_not ?_
  | with_reducible refine' dE_sl ?_
  | with_reducible refine' dO_none ?_
  | with_reducible refine' dO_some ?_
  | with_reducible refine' dA_cons ?_
  | with_reducible refine' dA_nil ?_
  | with_reducible refine' dT_B ?_
  | with_reducible refine' dT_test ?_
  | with_reducible refine' dT_and ?_
  | with_reducible refine' dT_or ?_
  | with_reducible refine' dT_not ?_
  | with_reducible refine' dT_yes ?_
  | with_reducible refine' dR_I0i ?_
  | with_reducible refine' dU_neg ?_
  | ((with_reducible refine' dR_ixT ?dv ?_); (case dv => rfl))
  | with_reducible refine' dS_seq ?_
  | with_reducible refine' dS_next ?_
  | with_reducible refine' dS_ret ?_
  | with_reducible refine' dS_drop ?_
  | with_reducible refine' dS_if ?_
  | with_reducible refine' dS_asg ?_
  | with_reducible refine' dS_par ?_
  | with_reducible refine' dG_name ?_
  | ((with_reducible refine' dG_tup ?dv ?_); (case dv => rfl); (dsimp only [List.map]))
  | with_reducible refine' dGs_cons ?_
  | with_reducible refine' dGs_nil ?_
  | with_reducible refine' dC_abs ?_
  | with_reducible refine' dC_max2 ?_
  | with_reducible refine' dC_min2 ?_
  | with_reducible refine' rtOf.of ?_
  | with_reducible refine' ex_cmp ?_
  | with_reducible refine' ex_bool ?_
  | with_reducible refine' ex_int ?_
  | with_reducible refine' ex_list ?_
  | with_reducible refine' ex_tup ?_
  | with_reducible refine' ex_d ?_
  | with_reducible refine' ex_m ?_
  | with_reducible refine' ex_par ?_
  | with_reducible refine' ex_rg1 ?_
  | with_reducible refine' ex_rg2 ?_
  | ((with_reducible refine' ex_dat ?dv ?dw ?_); (case dv => rfl); (case dw => exact Nat.le_of_ble_eq_true rfl))
  | ((fail_if_success (with_reducible show ∃ _, _)); (fail_if_success (with_reducible show _ ∧ _)); refine ⟨_, _, rfl, ?_⟩)
  | ((fail_if_success (with_reducible show ∃ _, _)); (fail_if_success (with_reducible show _ ∧ _)); refine ⟨_, rfl, ?_⟩)
  | fail)
local macro_rules | `(tactic| walk_at "d") => `(tactic| repeat' walk_at "d1")
local macro_rules | `(tactic| walk_at "e1") => `(tactic| first
  | ((with_reducible refine' dE_var ?dv ?_); (case dv => rfl))
  | with_reducible refine' dE_int ?_
  | with_reducible refine' dE_str ?_
  | with_reducible refine' dE_bl ?_
  | with_reducible refine' dE_non ?_
  | ((with_reducible refine' dE_nt ?dv ?_); (case dv => assumption))
  | with_reducible refine' dE_ref ?_
  | with_reducible refine' dE_op ?_
  | with_reducible refine' dE_un ?_
  | with_reducible refine' dE_cmp ?_
  | with_reducible refine' dE_isN ?_
  | with_reducible refine' dE_notN ?_
  | with_reducible refine' dE_call ?_
  | with_reducible refine' dE_cb ?_
  | with_reducible refine' dE_kw ?_
  | with_reducible refine' dE_tup ?_
  | with_reducible refine' dE_if ?_
  | with_reducible refine' dE_and ?_
  | with_reducible refine' dE_or ?_
  | with_reducible refine' dE_not ?_
  | with_reducible refine' dE_sl ?_
  | with_reducible refine' dO_none ?_
  | with_reducible refine' dO_some ?_
  | with_reducible refine' dA_cons ?_
  | with_reducible refine' dA_nil ?_
  | with_reducible refine' dT_B ?_
  | with_reducible refine' dT_test ?_
  | with_reducible refine' dT_and ?_
  | with_reducible refine' dT_or ?_
  | with_reducible refine' dT_not ?_
  | with_reducible refine' dT_yes ?_
  | with_reducible refine' dR_I0i ?_
  | with_reducible refine' dU_neg ?_
  | ((with_reducible refine' dR_ixT ?dv ?_); (case dv => rfl))
  | with_reducible refine' dS_next ?_
  | with_reducible refine' dS_ret ?_
  | with_reducible refine' dS_drop ?_
  | with_reducible refine' dS_if ?_
  | with_reducible refine' dS_asg ?_
  | with_reducible refine' dS_par ?_
  | with_reducible refine' dG_name ?_
  | ((with_reducible refine' dG_tup ?dv ?_); (case dv => rfl); (dsimp only [List.map]))
  | with_reducible refine' dGs_cons ?_
  | with_reducible refine' dGs_nil ?_
  | with_reducible refine' dC_abs ?_
  | with_reducible refine' dC_max2 ?_
  | with_reducible refine' dC_min2 ?_
  | with_reducible refine' rtOf.of ?_
  | with_reducible refine' ex_cmp ?_
  | with_reducible refine' ex_bool ?_
  | with_reducible refine' ex_int ?_
  | with_reducible refine' ex_list ?_
  | with_reducible refine' ex_tup ?_
  | with_reducible refine' ex_d ?_
  | with_reducible refine' ex_m ?_
  | with_reducible refine' ex_par ?_
  | with_reducible refine' ex_rg1 ?_
  | with_reducible refine' ex_rg2 ?_
  | ((with_reducible refine' ex_dat ?dv ?dw ?_); (case dv => rfl); (case dw => exact Nat.le_of_ble_eq_true rfl))
  | ((fail_if_success (with_reducible show ∃ _, _)); (fail_if_success (with_reducible show _ ∧ _)); refine ⟨_, _, rfl, ?_⟩)
  | ((fail_if_success (with_reducible show ∃ _, _)); (fail_if_success (with_reducible show _ ∧ _)); refine ⟨_, rfl, ?_⟩)
  | fail)
local macro_rules | `(tactic| walk_at "e") => `(tactic| repeat' walk_at "e1")

/-! ### data that == may look at -/
def Shp (n : Nat) (d : PyData) : Prop := d.canLay0 = true ∧ d.depth ≤ n
theorem Shp.shaped {n : Nat} {d : PyData} (h : Shp n d) (hn : n ≤ 64 := by decide) : SeqAt.shaped d = true := by
  unfold SeqAt.shaped
  rw [h.1, Bool.true_and]
  exact decide_eq_true (Nat.le_trans h.2 hn)
theorem Shp.int {n : Nat} {i : Int} : Shp n (.int i) := ⟨rfl, Nat.zero_le _⟩
theorem Shp.str {n : Nat} {x : Str} (h : PyData.canLay0 (.str x) = true) : Shp n (.str x) := ⟨h, Nat.zero_le _⟩
theorem Shp.non {n : Nat} : Shp n .none := ⟨rfl, Nat.zero_le _⟩
theorem Shp.bool {n : Nat} {b : Bool} : Shp n (.bool b) := ⟨rfl, Nat.zero_le _⟩
theorem shp_all {n : Nat} : ∀ {ds : List PyData}, (∀ d ∈ ds, Shp n d) → PyData.canLayAll0 ds = true ∧ PyData.depthAll ds ≤ n
  | [], _ => ⟨rfl, Nat.zero_le _⟩
  | d :: ds, h => by
    obtain ⟨h1, h2⟩ := shp_all (ds := ds) fun x hx => h x (List.mem_cons_of_mem _ hx)
    obtain ⟨h3, h4⟩ := h d List.mem_cons_self
    refine ⟨?_, ?_⟩
    · rw [PyData.canLayAll0, h3, h1]; rfl
    · rw [PyData.depthAll]; omega
theorem Shp.list {n : Nat} {ds : List PyData} (h : ∀ d ∈ ds, Shp n d) : Shp (n + 1) (.list ds) := by
  obtain ⟨h1, h2⟩ := shp_all h
  exact ⟨by rw [PyData.canLay0]; exact h1, by rw [PyData.depth]; omega⟩
theorem Shp.tup {n : Nat} {ds : List PyData} (h : ∀ d ∈ ds, Shp n d) : Shp (n + 1) (.tuple ds) := by
  obtain ⟨h1, h2⟩ := shp_all h
  exact ⟨by rw [PyData.canLay0]; exact h1, by rw [PyData.depth]; omega⟩
theorem Shp.fr {q : Q} : Shp 1 (fr q) := Shp.tup fun d hd => by
  rcases List.mem_cons.mp hd with rfl | hd
  · exact .int
  · rcases List.mem_cons.mp hd with rfl | hd
    · exact .int
    · cases hd
theorem Shp.rope {r : Rope} (hn : PyData.canLay0 (.str r.n) = true) : Shp 1 r.d := Shp.tup fun d hd => by
  simp only [List.mem_cons, List.not_mem_nil, or_false] at hd
  rcases hd with rfl | rfl | rfl | rfl
  · exact .str hn
  · exact .int
  · exact .int
  · exact .int
theorem Shp.opt {o : Option Q} : Shp 1 (opt o) := by
  cases o with
  | none => exact .non
  | some q => exact .fr
theorem Shp.pull {o : Option Q} {r : Rope} (hn : PyData.canLay0 (.str r.n) = true) : Shp 2 (pullD o r) := Shp.tup fun d hd => by
  simp only [List.mem_cons, List.not_mem_nil, or_false] at hd
  rcases hd with rfl | rfl
  · exact .str hn
  · exact ⟨Shp.fr.1, Shp.fr.2⟩
/-! ### the bag -/
def Bag (ds : List PyData) : Prop := ∃ x y : Int, ds = [.int x, .int y] ∧ 0 ≤ x ∧ 0 ≤ y ∧ y < 2147483648
theorem sz_lt {n : Nat} {x : Int} (h0 : 0 ≤ x) (h : x < 2 ^ n) : Sz n x := by
  show x.natAbs < 2 ^ n
  have e : ((2 ^ n : Nat) : Int) = 2 ^ n := by simp
  omega
theorem Sz.ofC {n : Nat} {x : Int} (h : x.natAbs < 2 ^ n) : Sz n x := h
section
variable {P : Program} {w : World} {K : PySem.W.Frag} {mg : Str → Option Value} {base : Heap} {f : Addr} {fd : FuncData}
def S_bag : SpD := fun rs M P => ∃ (ns : List Int) (k : Int), rs = [.l ns, .d (.int k)] ∧ 0 ≤ k ∧ k < 1000 ∧ ∀ a ds, M a = none → Bag ds → P (.m a) (mset M a ds)
/-- a bag stands at b; it was drawn from -/
def BI (M : Mem) (b : Addr) : Prop := ∃ ds, M b = some ds ∧ Bag ds
def BS (M : Mem) (b : Addr) (M' : Mem) : Prop := ∃ ds, Bag ds ∧ M' = mset M b ds
theorem BS.bi {M M' : Mem} {b : Addr} (h : BS M b M') : BI M' b := by
  obtain ⟨ds, h1, rfl⟩ := h
  exact ⟨ds, mset_same, h1⟩
theorem BS.trans {M M1 M2 : Mem} {b : Addr} (h : BS M b M1) (k : BS M1 b M2) : BS M b M2 := by
  obtain ⟨ds, h1, rfl⟩ := h
  obtain ⟨es, h2, rfl⟩ := k
  exact ⟨es, h2, mset_mset⟩
theorem BS.ne {M M' : Mem} {b c : Addr} (h : BS M b M') (n : c ≠ b) : M' c = M c := by
  obtain ⟨ds, h1, rfl⟩ := h
  exact mset_ne n
theorem mset_self {M : Mem} {b : Addr} {ds : List PyData} (h : M b = some ds) : mset M b ds = M := by
  funext c
  unfold mset
  split
  · rename_i e; rw [e, h]
  · rfl
theorem BI.refl {M : Mem} {b : Addr} (h : BI M b) : BS M b M := by
  obtain ⟨ds, h1, h2⟩ := h
  exact ⟨ds, h2, (mset_self h1).symm⟩
def S_take : SpD := fun rs M P => ∃ (b : Addr) (n : Int), rs = [.m b, .d (.int n)] ∧ 0 < n ∧ n < 2147483648 ∧ BI M b ∧ ∀ i M', 0 ≤ i → i < n → BS M b M' → P (.d (.int i)) M'
def S_of : SpD := fun rs M P => ∃ (b : Addr) (s : SV) (es : List PyData), rs = [.m b, s] ∧ SeqL M s es ∧ s ≠ .m b ∧ es ≠ [] ∧ es.length ≤ 1000 ∧ BI M b ∧ ∀ d M', d ∈ es → BS M b M' → P (.d d) M'
abbrev S_lowest : SpD := S_fraction
abbrev s_law_bag : Stmt := topS 50
theorem sc_law_bag : FnScope ["script", "k", "cell"] ["script", "k"] (defScope s_law_bag) := ⟨rfl, rfl, rfl, by decide +kernel, rfl, by decide +kernel, by decide +kernel⟩
theorem ok_law_bag (T : Txt mg) (F : Fun K "_law_bag" "_law_bag" s_law_bag f fd) : FnOk P w K mg base CX0 1 f fd ["script", "k"] (spOf K S_bag) := by
  refine ok_of F sc_law_bag (fun rs M P h => by obtain ⟨a, b, rfl, _⟩ := h; rfl) fun cdv A outer s H E hr => ⟨_, (pss_cons (ps_set (i := 2) sc_law_bag.nd rfl (Or.inl rfl) pe_int)
      (pss_cons (ps_if (pt_cmp (pc_lt (pv 1) (pe_callB (kcall_len K) (by rfl) T.len (by decide +kernel) (pa_cons (pv 0) pa_nil)))) (pss_one (ps_set (i := 2) sc_law_bag.nd rfl (Or.inl rfl) (pe_callB call_abs (by rfl) T.abs (by decide +kernel) (pa_cons (pe_ix (kix_list K) (pv 0) (pv 1) (fun _ _ => rfl)) pa_nil)))) pss_nil)
      (pss_cons (ps_if (pt_cmp (pc_lt (pv 2) (pe_op op_pow pe_int pe_int))) (pss_one (ps_ret (pe_lst (pa_cons pe_int (pa_cons (pe_op op_add pe_int (pe_op op_mod (pe_op op_add (pe_op op_mulW (pv 2) pe_int) (pe_op op_mulW pe_int (pv 1))) pe_int)) pa_nil))))) pss_nil)
      (pss_one (ps_ret (pe_lst (pa_cons (pv 2) (pa_cons (pe_op op_add pe_int (pe_op op_mod (pe_op op_add (pv 2) (pv 1)) pe_int)) pa_nil)))))))), fun rs M P h => ?_⟩
  obtain ⟨ns, k, rfl, h0, h1, p⟩ := h
  have rest : ∀ c : Int, 0 ≤ c → dS K (tSeq (tIfS (tB (tCmp (fun i j => decide (i < j)) (tVar 2) (tOp (rI CPow fun i j => .int (i ^ j.toNat)) (tC (.int 10)) (tC (.int 18)))))
      (tRet (tLst (tCons (tC (.int 0)) (tCons (tOp (rI0 fun i j => .int (i + j)) (tC (.int 1)) (tOp (rI (fun _ j => 0 < j) fun i j => .int (i % j)) (tOp (rI0 fun i j => .int (i + j)) (tOp (rI CMulW fun i j => .int (i * j)) (tVar 2) (tC (.int 7919))) (tOp (rI CMulW fun i j => .int (i * j)) (tC (.int 104729)) (tVar 1))) (tC (.int 2147483646)))) tNil)))) tNext)
      (tRet (tLst (tCons (tVar 2) (tCons (tOp (rI0 fun i j => .int (i + j)) (tC (.int 1)) (tOp (rI (fun _ j => 0 < j) fun i j => .int (i % j)) (tOp (rI0 fun i j => .int (i + j)) (tVar 2) (tVar 1)) (tC (.int 2147483646)))) tNil)))))
      { nx := fun _ M' => rtOf P (.d .none) M', rt := rtOf P } [some (.l ns), some (.d (.int k)), some (.d (.int c))] M := fun c hc => by
    walk_at "d"
    refine dR_Ii (show CPow 10 18 from ⟨by decide, by decide, by decide⟩) ?_
    walk_at "d"
    refine ifB (fun h => ?_) (fun h => ?_)
    · have hc2 : c < 10 ^ 18 := of_decide_eq_true h
      walk_at "d"
      refine dE_lstM ?_
      walk_at "d"
      refine dR_Ii (Sz.mulOk (m := 100) (n := 100) (sz_lt hc (Int.lt_trans hc2 (by decide))) (sz_lt (by decide) (by decide)) (by decide) (by decide) (by decide)) ?_
      walk_at "d"
      refine dR_Ii (Sz.mulOk (m := 100) (n := 100) (sz_lt (by decide) (by decide)) (sz_lt h0 (Int.lt_trans h1 (by decide))) (by decide) (by decide) (by decide)) ?_
      walk_at "d"
      refine dR_Ii (by decide) ?_
      walk_at "d"
      intro a ha
      refine rtOf.of (p a _ ha ⟨_, _, rfl, by decide, ?_, ?_⟩)
      · have := Int.emod_nonneg (c * 7919 + 104729 * k) (show (2147483646 : Int) ≠ 0 by decide); omega
      · have := Int.emod_lt_of_pos (c * 7919 + 104729 * k) (show (0 : Int) < 2147483646 by decide); omega
    · walk_at "d"
      refine dE_lstM ?_
      walk_at "d"
      refine dR_Ii (by decide) ?_
      walk_at "d"
      intro a ha
      refine rtOf.of (p a _ ha ⟨_, _, rfl, hc, ?_, ?_⟩)
      · have := Int.emod_nonneg (c + k) (show (2147483646 : Int) ≠ 0 by decide); omega
      · have := Int.emod_lt_of_pos (c + k) (show (0 : Int) < 2147483646 by decide); omega
  walk_at "d"
  refine dC_lenS ?_
  walk_at "d"
  refine ifB (fun h => ?_) (fun h => ?_)
  · have hk : k < ns.length := of_decide_eq_true h
    walk_at "e"
    have hj : k.toNat < ns.length := by omega
    refine dR_ixS (n := ns[k.toNat]) ?_ ?_
    · unfold atI ixN
      rw [if_pos h0, if_pos hk]
      simp [hj]
    walk_at "e"
    refine rest _ ?_
    split <;> omega
  · walk_at "e"
    exact rest 0 (by decide)
end
end K2

namespace K2
open PySem L2 Sd Ma
local macro_rules | `(tactic| walk_at "d1") => `(tactic| first
  | ((with_reducible refine' dE_var ?dv ?_); (case dv => rfl))
  | with_reducible refine' dE_int ?_
  | with_reducible refine' dE_str ?_
  | with_reducible refine' dE_bl ?_
  | with_reducible refine' dE_non ?_
  | ((with_reducible refine' dE_nt ?dv ?_); (case dv => assumption))
  | with_reducible refine' dE_ref ?_
  | with_reducible refine' dE_op ?_
  | with_reducible refine' dE_un ?_
  | with_reducible refine' dE_cmp ?_
  | with_reducible refine' dE_isN ?_
  | with_reducible refine' dE_notN ?_
  | with_reducible refine' dE_call ?_
  | with_reducible refine' dE_cb ?_
  | with_reducible refine' dE_kw ?_
  | with_reducible refine' dE_tup ?_
  | with_reducible refine' dE_if ?_
  | with_reducible refine' dE_and ?_
  | with_reducible refine' dE_or ?_
  | with_reducible refine' dE_not ?_
  | with_reducible refine' dE_sl ?_
  | with_reducible refine' dO_none ?_
  | with_reducible refine' dO_some ?_
  | with_reducible refine' dA_cons ?_
  | with_reducible refine' dA_nil ?_
  | with_reducible refine' dT_B ?_
  | with_reducible refine' dT_test ?_
  | with_reducible refine' dT_and ?_
  | with_reducible refine' dT_or ?_
  | with_reducible refine' dT_not ?_
  | with_reducible refine' dT_yes ?_
  | with_reducible refine' dR_I0i ?_
  | with_reducible refine' dU_neg ?_
  | ((with_reducible refine' dR_ixT ?dv ?_); (case dv => rfl))
  | with_reducible refine' dS_seq ?_
  | with_reducible refine' dS_next ?_
  | with_reducible refine' dS_ret ?_
  | with_reducible refine' dS_drop ?_
  | with_reducible refine' dS_if ?_
  | with_reducible refine' dS_asg ?_
  | with_reducible refine' dS_par ?_
  | with_reducible refine' dG_name ?_
  | ((with_reducible refine' dG_tup ?dv ?_); (case dv => rfl); (dsimp only [List.map]))
  | with_reducible refine' dGs_cons ?_
  | with_reducible refine' dGs_nil ?_
  | with_reducible refine' dC_abs ?_
  | with_reducible refine' dC_max2 ?_
  | with_reducible refine' dC_min2 ?_
  | with_reducible refine' rtOf.of ?_
  | with_reducible refine' ex_cmp ?_
  | with_reducible refine' ex_bool ?_
  | with_reducible refine' ex_int ?_
  | with_reducible refine' ex_list ?_
  | with_reducible refine' ex_tup ?_
  | with_reducible refine' ex_d ?_
  | with_reducible refine' ex_m ?_
  | with_reducible refine' ex_par ?_
  | with_reducible refine' ex_rg1 ?_
  | with_reducible refine' ex_rg2 ?_
  | ((with_reducible refine' ex_dat ?dv ?dw ?_); (case dv => rfl); (case dw => exact Nat.le_of_ble_eq_true rfl))
  | ((fail_if_success (with_reducible show ∃ _, _)); (fail_if_success (with_reducible show _ ∧ _)); refine ⟨_, _, rfl, ?_⟩)
  | ((fail_if_success (with_reducible show ∃ _, _)); (fail_if_success (with_reducible show _ ∧ _)); refine ⟨_, rfl, ?_⟩)
  | fail)
local macro_rules | `(tactic| walk_at "d") => `(tactic| repeat' walk_at "d1")
local macro_rules | `(tactic| walk_at "e1") => `(tactic| first
  | ((with_reducible refine' dE_var ?dv ?_); (case dv => rfl))
  | with_reducible refine' dE_int ?_
  | with_reducible refine' dE_str ?_
  | with_reducible refine' dE_bl ?_
  | with_reducible refine' dE_non ?_
  | ((with_reducible refine' dE_nt ?dv ?_); (case dv => assumption))
  | with_reducible refine' dE_ref ?_
  | with_reducible refine' dE_op ?_
  | with_reducible refine' dE_un ?_
  | with_reducible refine' dE_cmp ?_
  | with_reducible refine' dE_isN ?_
  | with_reducible refine' dE_notN ?_
  | with_reducible refine' dE_call ?_
  | with_reducible refine' dE_cb ?_
  | with_reducible refine' dE_kw ?_
  | with_reducible refine' dE_tup ?_
  | with_reducible refine' dE_if ?_
  | with_reducible refine' dE_and ?_
  | with_reducible refine' dE_or ?_
  | with_reducible refine' dE_not ?_
  | with_reducible refine' dE_sl ?_
  | with_reducible refine' dO_none ?_
  | with_reducible refine' dO_some ?_
  | with_reducible refine' dA_cons ?_
  | with_reducible refine' dA_nil ?_
  | with_reducible refine' dT_B ?_
  | with_reducible refine' dT_test ?_
  | with_reducible refine' dT_and ?_
  | with_reducible refine' dT_or ?_
  | with_reducible refine' dT_not ?_
  | with_reducible refine' dT_yes ?_
  | with_reducible refine' dR_I0i ?_
  | with_reducible refine' dU_neg ?_
  | ((with_reducible refine' dR_ixT ?dv ?_); (case dv => rfl))
  | with_reducible refine' dS_next ?_
  | with_reducible refine' dS_ret ?_
  | with_reducible refine' dS_drop ?_
  | with_reducible refine' dS_if ?_
  | with_reducible refine' dS_asg ?_
  | with_reducible refine' dS_par ?_
  | with_reducible refine' dG_name ?_
  | ((with_reducible refine' dG_tup ?dv ?_); (case dv => rfl); (dsimp only [List.map]))
  | with_reducible refine' dGs_cons ?_
  | with_reducible refine' dGs_nil ?_
  | with_reducible refine' dC_abs ?_
  | with_reducible refine' dC_max2 ?_
  | with_reducible refine' dC_min2 ?_
  | with_reducible refine' rtOf.of ?_
  | with_reducible refine' ex_cmp ?_
  | with_reducible refine' ex_bool ?_
  | with_reducible refine' ex_int ?_
  | with_reducible refine' ex_list ?_
  | with_reducible refine' ex_tup ?_
  | with_reducible refine' ex_d ?_
  | with_reducible refine' ex_m ?_
  | with_reducible refine' ex_par ?_
  | with_reducible refine' ex_rg1 ?_
  | with_reducible refine' ex_rg2 ?_
  | ((with_reducible refine' ex_dat ?dv ?dw ?_); (case dv => rfl); (case dw => exact Nat.le_of_ble_eq_true rfl))
  | ((fail_if_success (with_reducible show ∃ _, _)); (fail_if_success (with_reducible show _ ∧ _)); refine ⟨_, _, rfl, ?_⟩)
  | ((fail_if_success (with_reducible show ∃ _, _)); (fail_if_success (with_reducible show _ ∧ _)); refine ⟨_, rfl, ?_⟩)
  | fail)
local macro_rules | `(tactic| walk_at "e") => `(tactic| repeat' walk_at "e1")

theorem atI_nat' {α : Type} {es : List α} {i : Int} (h0 : 0 ≤ i) (h1 : i < es.length) : ∃ d, atI es i = some d ∧ d ∈ es := by
  have hj : i.toNat < es.length := by omega
  refine ⟨es[i.toNat], ?_, List.getElem_mem hj⟩
  unfold atI ixN
  rw [if_pos h0, if_pos h1]
  simp [hj]
section
variable {P : Program} {w : World} {K : PySem.W.Frag} {mg : Str → Option Value} {base : Heap} {f : Addr} {fd : FuncData}
abbrev s_law_take : Stmt := topS 51
theorem sc_law_take : FnScope ["bag", "many", "found"] ["bag", "many"] (defScope s_law_take) := ⟨rfl, rfl, rfl, by decide +kernel, rfl, by decide +kernel, by decide +kernel⟩
theorem ok_law_take (F : Fun K "_law_take" "_law_take" s_law_take f fd) : FnOk P w K mg base CX0 1 f fd ["bag", "many"] (spOf K S_take) := by
  refine ok_of F sc_law_take (fun rs M P h => by obtain ⟨a, b, rfl, _⟩ := h; rfl) fun cdv A outer s H E hr => ⟨_, (pss_cons (ps_if (pt_cmp (pc_gt (pe_ix (kix_list K) (pv 0) pe_int (fun _ _ => rfl)) pe_int)) (pss_cons (ps_set (i := 2) sc_law_take.nd rfl (Or.inl rfl) (pe_op op_mod (pe_ix (kix_list K) (pv 0) pe_int (fun _ _ => rfl)) (pv 1)))
      (pss_cons (ps_asg (pe_op op_fdivW (pe_ix (kix_list K) (pv 0) pe_int (fun _ _ => rfl)) (pv 1)) (pg_sub (pv 0) pe_int set_list))
      (pss_one (ps_ret (pv 2))))) pss_nil)
      (pss_cons (ps_asg (pe_op op_mod (pe_op op_mulW (pe_ix (kix_list K) (pv 0) pe_int (fun _ _ => rfl)) pe_int) pe_int) (pg_sub (pv 0) pe_int set_list))
      (pss_one (ps_ret (pe_op op_mod (pe_op op_fdivW (pe_op op_mod (pe_op op_mulW (pe_ix (kix_list K) (pv 0) pe_int (fun _ _ => rfl)) (pe_ix (kix_list K) (pv 0) pe_int (fun _ _ => rfl))) pe_int) pe_int) (pv 1)))))), fun rs M P h => ?_⟩
  obtain ⟨b, n, rfl, h0, h1, ⟨ds, hm, x, y, rfl, hx, hy, hy2⟩, p⟩ := h
  have hd : ∀ i, CDivW i n := fun i => wide_div (b := 40) h0 (sz_lt (by omega) (by omega)) (by decide) (by decide)
  walk_at "d"
  refine dR_ixL (.inr ⟨b, rfl, hm⟩) rfl ?_
  walk_at "d"
  refine ifB (fun h => ?_) (fun h => ?_)
  · have hx0 : 0 < x := of_decide_eq_true h
    walk_at "d"
    refine dR_ixL (.inr ⟨b, rfl, hm⟩) rfl ?_
    walk_at "d"
    refine dR_Ii h0 ?_
    walk_at "d"
    refine dR_ixL (.inr ⟨b, rfl, hm⟩) rfl ?_
    walk_at "d"
    refine dR_Ii (hd x) ?_
    refine dG_sub (a := b) (j := 0) (ds := [.int x, .int y]) ?_
    walk_at "d"
    refine ⟨rfl, ?_⟩
    walk_at "d"
    refine ⟨rfl, hm, by simp, ?_⟩
    walk_at "d"
    refine p _ _ (Int.emod_nonneg _ (Int.ne_of_gt h0)) (Int.emod_lt_of_pos _ h0) ⟨_, ⟨x / n, y, rfl, Int.ediv_nonneg hx (by omega), hy, hy2⟩, rfl⟩
  · walk_at "d"
    refine dR_ixL (.inr ⟨b, rfl, hm⟩) rfl ?_
    walk_at "d"
    refine dR_Ii (Sz.mulOk (m := 100) (n := 100) (sz_lt (by omega) (by omega)) (sz_lt (by decide) (by decide)) (by decide) (by decide) (by decide)) ?_
    walk_at "d"
    refine dR_Ii (by decide) ?_
    have e1 := Int.emod_nonneg (y * 48271) (show (2147483647 : Int) ≠ 0 by decide)
    have e2 := Int.emod_lt_of_pos (y * 48271) (show (0 : Int) < 2147483647 by decide)
    generalize hz : y * 48271 % 2147483647 = z at e1 e2
    refine dG_sub (a := b) (j := 1) (ds := [.int x, .int y]) ?_
    walk_at "d"
    refine ⟨rfl, ?_⟩
    walk_at "d"
    refine ⟨rfl, hm, by simp, ?_⟩
    walk_at "d"
    refine dR_ixL (.inr ⟨b, rfl, mset_same⟩) rfl ?_
    walk_at "d"
    refine dR_ixL (.inr ⟨b, rfl, mset_same⟩) rfl ?_
    refine dR_Ii (Sz.mulOk (m := 100) (n := 100) (sz_lt (by omega) (by omega)) (sz_lt (by omega) (by omega)) (by decide) (by decide) (by decide)) ?_
    walk_at "d"
    refine dR_Ii (by decide) ?_
    walk_at "d"
    refine dR_Ii (wide_div (b := 40) (by decide) (by decide) (by decide) (by decide)) ?_
    walk_at "d"
    refine dR_Ii h0 ?_
    walk_at "d"
    exact p _ _ (Int.emod_nonneg _ (Int.ne_of_gt h0)) (Int.emod_lt_of_pos _ h0) ⟨_, ⟨x, z, rfl, hx, e1, by omega⟩, rfl⟩
abbrev s_law_of : Stmt := topS 52
theorem sc_law_of : FnScope ["bag", "some"] ["bag", "some"] (defScope s_law_of) := ⟨rfl, rfl, rfl, by decide +kernel, rfl, by decide +kernel, by decide +kernel⟩
theorem ok_law_of (T : Txt mg) (F : Fun K "_law_of" "_law_of" s_law_of f fd) (c_law_take : Has P w K mg base 1 "_law_take" ["bag", "many"] S_take) : FnOk P w K mg base CX0 2 f fd ["bag", "some"] (spOf K S_of) := by
  refine ok_of F sc_law_of (fun rs M P h => by obtain ⟨a, b, c, rfl, _⟩ := h; rfl) fun cdv A outer s H E hr => ⟨_, (pss_one (ps_ret (pe_ix (kix_list K) (pv 1) (pe_callH' c_law_take (hr.mono (by first | decide | omega)) rfl (pa_cons (pv 0) (pa_cons (pe_callB (kcall_len K) (by rfl) T.len (by decide +kernel) (pa_cons (pv 1) pa_nil)) pa_nil))) (fun _ _ => rfl)))), fun rs M P h => ?_⟩
  obtain ⟨b, sv, es, rfl, hs, hne, h0, h1, hb, p⟩ := h
  have hlen : 0 < es.length := List.length_pos_iff.mpr h0
  walk_at "d"
  refine dC_len (ds := es) (by rcases hs with rfl | ⟨a, rfl, hm⟩; exact .inl rfl; exact .inr (.inr ⟨a, rfl, hm⟩)) ?_
  walk_at "d"
  refine ⟨by omega, by omega, hb, fun i M' i0 i1 hB => ?_⟩
  obtain ⟨d, hd, hdm⟩ := atI_nat' (es := es) i0 i1
  refine dR_ixL (ds := es) ?_ hd (rtOf.of (p d M' hdm hB))
  rcases hs with rfl | ⟨a, rfl, hm⟩
  · exact .inl rfl
  · refine .inr ⟨a, rfl, ?_⟩
    rw [hB.ne (fun e => hne (by rw [e]))]
    exact hm
abbrev s_law_lowest : Stmt := topS 53
theorem sc_law_lowest : FnScope ["top", "bottom", "one", "other"] ["top", "bottom"] (defScope s_law_lowest) := ⟨rfl, rfl, rfl, by decide +kernel, rfl, by decide +kernel, by decide +kernel⟩
theorem ok_law_lowest (T : Txt mg) (F : Fun K "_law_lowest" "_law_lowest" s_law_lowest f fd) : FnOk P w K mg base CX0 1 f fd ["top", "bottom"] (spOf K S_lowest) := by
  refine ok_of F sc_law_lowest (fun rs M P h => by obtain ⟨a, b, rfl, _⟩ := h; rfl) fun cdv A outer s H E hr => ⟨_, (pss_cons (ps_par (i := 2) (j := 3) (by rfl) sc_law_lowest.nd rfl rfl (by decide) rfl rfl (pa_cons (pe_callB call_abs (by rfl) T.abs (by decide +kernel) (pa_cons (pv 0) pa_nil)) (pa_cons (pv 1) pa_nil)) (by rfl))
      (pss_cons (ps_while PassesOwn.never (pt_cmp (pc_gt (pv 3) pe_int)) (pss_one (ps_par (i := 2) (j := 3) (by rfl) sc_law_lowest.nd rfl rfl (by decide) rfl rfl (pa_cons (pv 3) (pa_cons (pe_op op_mod (pv 2) (pv 3)) pa_nil)) (by rfl))))
      (pss_one (ps_ret (pe_tup (pa_cons (pe_op op_fdivW (pv 0) (pv 2)) (pa_cons (pe_op op_fdivW (pv 1) (pv 2)) pa_nil))))))), fun rs M P h => ?_⟩
  obtain ⟨t, b, rfl, ht, hb, hz, p⟩ := h
  have hg := gcd_pos (t := t) hb
  have hl := gcd_le (t := t) hb
  have hd : ∀ i, CDivW i (Int.gcd t b : Int) := fun i => wide_div hg (wide_le (by omega) hl hz) (by decide) (by decide)
  walk_at "d"
  rw [show (if t < 0 then -t else t) = t by split <;> omega]
  refine dS_while (fun m δ M' => ∃ a' b' : Int, δ = [some (.d (.int t)), some (.d (.int b)), some (.d (.int a')), some (.d (.int b'))] ∧ M' = M ∧ 0 ≤ a' ∧ 0 ≤ b' ∧ Int.gcd a' b' = Int.gcd t b ∧ m = b'.toNat) b.toNat ⟨t, b, rfl, rfl, ht, by omega, rfl, rfl⟩ ?_
  rintro m δ M' ⟨a', b', rfl, rfl, ha', hb', hg', rfl⟩
  walk_at "d"
  refine ifB (fun h => ?_) (fun h => ?_)
  · have h0 : 0 < b' := of_decide_eq_true h
    walk_at "d"
    refine dR_Ii h0 ?_
    walk_at "d"
    exact ⟨(a' % b').toNat, by have := Int.emod_lt_of_pos a' h0; have := Int.emod_nonneg a' (Int.ne_of_gt h0); omega, b', a' % b', rfl, rfl, hb', Int.emod_nonneg _ (Int.ne_of_gt h0), by rw [gcd_step ha' h0, hg'], rfl⟩
  · have h0 : b' = 0 := by have := of_decide_eq_false h; omega
    subst h0
    rw [Int.gcd_zero_right] at hg'
    have ea : a' = (Int.gcd t b : Int) := by omega
    subst ea
    walk_at "d"
    refine dR_Ii (hd t) ?_
    walk_at "d"
    refine dR_Ii (hd b) ?_
    walk_at "d"
    exact p
end
end K2

namespace K2
open PySem L2 Sd Ma
local macro_rules | `(tactic| walk_at "d1") => `(tactic| first
  | ((with_reducible refine' dE_var ?dv ?_); (case dv => rfl))
  | with_reducible refine' dE_int ?_
  | with_reducible refine' dE_str ?_
  | with_reducible refine' dE_bl ?_
  | with_reducible refine' dE_non ?_
  | ((with_reducible refine' dE_nt ?dv ?_); (case dv => assumption))
  | with_reducible refine' dE_ref ?_
  | with_reducible refine' dE_op ?_
  | with_reducible refine' dE_un ?_
  | with_reducible refine' dE_cmp ?_
  | with_reducible refine' dE_isN ?_
  | with_reducible refine' dE_notN ?_
  | with_reducible refine' dE_call ?_
  | with_reducible refine' dE_cb ?_
  | with_reducible refine' dE_kw ?_
  | with_reducible refine' dE_tup ?_
  | with_reducible refine' dE_if ?_
  | with_reducible refine' dE_and ?_
  | with_reducible refine' dE_or ?_
  | with_reducible refine' dE_not ?_
  | with_reducible refine' dE_sl ?_
  | with_reducible refine' dO_none ?_
  | with_reducible refine' dO_some ?_
  | with_reducible refine' dA_cons ?_
  | with_reducible refine' dA_nil ?_
  | with_reducible refine' dT_B ?_
  | with_reducible refine' dT_test ?_
  | with_reducible refine' dT_and ?_
  | with_reducible refine' dT_or ?_
  | with_reducible refine' dT_not ?_
  | with_reducible refine' dT_yes ?_
  | with_reducible refine' dR_I0i ?_
  | with_reducible refine' dU_neg ?_
  | ((with_reducible refine' dR_ixT ?dv ?_); (case dv => rfl))
  | with_reducible refine' dS_seq ?_
  | with_reducible refine' dS_next ?_
  | with_reducible refine' dS_ret ?_
  | with_reducible refine' dS_drop ?_
  | with_reducible refine' dS_if ?_
  | with_reducible refine' dS_asg ?_
  | with_reducible refine' dS_par ?_
  | with_reducible refine' dG_name ?_
  | ((with_reducible refine' dG_tup ?dv ?_); (case dv => rfl); (dsimp only [List.map]))
  | with_reducible refine' dGs_cons ?_
  | with_reducible refine' dGs_nil ?_
  | with_reducible refine' dC_abs ?_
  | with_reducible refine' dC_max2 ?_
  | with_reducible refine' dC_min2 ?_
  | with_reducible refine' rtOf.of ?_
  | with_reducible refine' ex_cmp ?_
  | with_reducible refine' ex_bool ?_
  | with_reducible refine' ex_int ?_
  | with_reducible refine' ex_list ?_
  | with_reducible refine' ex_tup ?_
  | with_reducible refine' ex_d ?_
  | with_reducible refine' ex_m ?_
  | with_reducible refine' ex_par ?_
  | with_reducible refine' ex_rg1 ?_
  | with_reducible refine' ex_rg2 ?_
  | ((with_reducible refine' ex_dat ?dv ?dw ?_); (case dv => rfl); (case dw => exact Nat.le_of_ble_eq_true rfl))
  | ((fail_if_success (with_reducible show ∃ _, _)); (fail_if_success (with_reducible show _ ∧ _)); refine ⟨_, _, rfl, ?_⟩)
  | ((fail_if_success (with_reducible show ∃ _, _)); (fail_if_success (with_reducible show _ ∧ _)); refine ⟨_, rfl, ?_⟩)
  | fail)
local macro_rules | `(tactic| walk_at "d") => `(tactic| repeat' walk_at "d1")
local macro_rules | `(tactic| walk_at "e1") => `(tactic| first
  | ((with_reducible refine' dE_var ?dv ?_); (case dv => rfl))
  | with_reducible refine' dE_int ?_
  | with_reducible refine' dE_str ?_
  | with_reducible refine' dE_bl ?_
  | with_reducible refine' dE_non ?_
  | ((with_reducible refine' dE_nt ?dv ?_); (case dv => assumption))
  | with_reducible refine' dE_ref ?_
  | with_reducible refine' dE_op ?_
  | with_reducible refine' dE_un ?_
  | with_reducible refine' dE_cmp ?_
  | with_reducible refine' dE_isN ?_
  | with_reducible refine' dE_notN ?_
  | with_reducible refine' dE_call ?_
  | with_reducible refine' dE_cb ?_
  | with_reducible refine' dE_kw ?_
  | with_reducible refine' dE_tup ?_
  | with_reducible refine' dE_if ?_
  | with_reducible refine' dE_and ?_
  | with_reducible refine' dE_or ?_
  | with_reducible refine' dE_not ?_
  | with_reducible refine' dE_sl ?_
  | with_reducible refine' dO_none ?_
  | with_reducible refine' dO_some ?_
  | with_reducible refine' dA_cons ?_
  | with_reducible refine' dA_nil ?_
  | with_reducible refine' dT_B ?_
  | with_reducible refine' dT_test ?_
  | with_reducible refine' dT_and ?_
  | with_reducible refine' dT_or ?_
  | with_reducible refine' dT_not ?_
  | with_reducible refine' dT_yes ?_
  | with_reducible refine' dR_I0i ?_
  | with_reducible refine' dU_neg ?_
  | ((with_reducible refine' dR_ixT ?dv ?_); (case dv => rfl))
  | with_reducible refine' dS_next ?_
  | with_reducible refine' dS_ret ?_
  | with_reducible refine' dS_drop ?_
  | with_reducible refine' dS_if ?_
  | with_reducible refine' dS_asg ?_
  | with_reducible refine' dS_par ?_
  | with_reducible refine' dG_name ?_
  | ((with_reducible refine' dG_tup ?dv ?_); (case dv => rfl); (dsimp only [List.map]))
  | with_reducible refine' dGs_cons ?_
  | with_reducible refine' dGs_nil ?_
  | with_reducible refine' dC_abs ?_
  | with_reducible refine' dC_max2 ?_
  | with_reducible refine' dC_min2 ?_
  | with_reducible refine' rtOf.of ?_
  | with_reducible refine' ex_cmp ?_
  | with_reducible refine' ex_bool ?_
  | with_reducible refine' ex_int ?_
  | with_reducible refine' ex_list ?_
  | with_reducible refine' ex_tup ?_
  | with_reducible refine' ex_d ?_
  | with_reducible refine' ex_m ?_
  | with_reducible refine' ex_par ?_
  | with_reducible refine' ex_rg1 ?_
  | with_reducible refine' ex_rg2 ?_
  | ((with_reducible refine' ex_dat ?dv ?dw ?_); (case dv => rfl); (case dw => exact Nat.le_of_ble_eq_true rfl))
  | ((fail_if_success (with_reducible show ∃ _, _)); (fail_if_success (with_reducible show _ ∧ _)); refine ⟨_, _, rfl, ?_⟩)
  | ((fail_if_success (with_reducible show ∃ _, _)); (fail_if_success (with_reducible show _ ∧ _)); refine ⟨_, rfl, ?_⟩)
  | fail)
local macro_rules | `(tactic| walk_at "e") => `(tactic| repeat' walk_at "e1")

theorem pickI {ns : List Int} {i : Int} (h0 : 0 ≤ i) (h1 : i < ns.length) : ∃ n, atI (ns.map PyData.int) i = some (.int n) ∧ n ∈ ns := by
  obtain ⟨d, hd, hm⟩ := atI_nat' (es := ns.map PyData.int) h0 (by rw [List.length_map]; exact h1)
  obtain ⟨n, hn, rfl⟩ := List.mem_map.mp hm
  exact ⟨n, hd, hn⟩
structure _root_.Ma.Rope.Fine (r : Rope) : Prop where
  a0 : 0 ≤ r.a
  a1 : r.a ≤ 1000
  b0 : 1 ≤ r.b
  b1 : r.b ≤ 100
  c0 : 1 ≤ r.c
  c1 : r.c ≤ 1000000
theorem fine_ok {r : Rope} (h : r.Fine) : r.Ok := ⟨h.a0, sz_lt h.a0 (by have := h.a1; omega), by have := h.b0; omega, sz_lt (by have := h.b0; omega) (by have := h.b1; omega), by have := h.c0; omega, sz_lt (by have := h.c0; omega) (by have := h.c1; omega)⟩
def names6 : List Str := ["ann", "bo", "cy", "dee", "eli", "fay"]
/-- a bundle: names short, of plain letters, rising -/
structure Bun (ro : List Rope) : Prop where
  ne : ro ≠ []
  len : ro.length ≤ 6
  asc : ∀ r ∈ ro, r.n.length ≤ 10 ∧ ∀ c ∈ r.n.cps.toList, c < 128
  ris : (ro.map Rope.n).Pairwise fun a b => a.cps.toList < b.cps.toList
  fine : ∀ r ∈ ro, r.Fine
theorem names6_asc : ∀ x ∈ names6, x.length ≤ 10 ∧ ∀ c ∈ x.cps.toList, c < 128 := by decide +kernel
theorem names6_ris : names6.Pairwise fun a b => a.cps.toList < b.cps.toList := by decide +kernel
theorem Bun.of6 {ro : List Rope} (ne : ro ≠ []) (len : ro.length ≤ 6) (nam : ro.map Rope.n = names6.take ro.length) (fine : ∀ r ∈ ro, r.Fine) : Bun ro :=
  ⟨ne, len, fun r hr => names6_asc _ (List.mem_of_mem_take (by rw [← nam]; exact List.mem_map_of_mem hr)), by rw [nam]; exact names6_ris.sublist (List.take_sublist _ _), fine⟩
theorem Bun.ok {ro : List Rope} (h : Bun ro) : BOk ro := ⟨by have := h.len; omega, fun r hr => fine_ok (h.fine r hr)⟩
section
variable {P : Program} {w : World} {K : PySem.W.Frag} {mg : Str → Option Value} {base : Heap} {f : Addr} {fd : FuncData}
def S_rope : SpD := fun rs M P => ∃ (b : Addr) (x : Str), rs = [.m b, .d (.str x)] ∧ BI M b ∧ ∀ (r : Rope) M', r.n = x → r.Fine → BS M b M' → P (.d r.d) M'
def S_bundle : SpD := fun rs M P => ∃ (b : Addr) (n : Int), rs = [.m b, .d (.int n)] ∧ 1 ≤ n ∧ n ≤ 6 ∧ BI M b ∧ ∀ ro M', Bun ro → BS M b M' → P (.d (bd ro)) M'
def S_bundleN : SpD := fun rs M P => ∃ (b : Addr) (n : Int), rs = [.m b, .d (.int n)] ∧ 1 ≤ n ∧ n ≤ 6 ∧ BI M b ∧ ∀ ro M', Bun ro → ro.map Rope.n = names6.take ro.length → BS M b M' → P (.d (bd ro)) M'
theorem bunN_imp : ∀ rs M P, S_bundle rs M P → S_bundleN rs M P := fun rs M P ⟨b, n, h1, h2, h3, h4, h5⟩ => ⟨b, n, h1, h2, h3, h4, fun ro M' k _ => h5 ro M' k⟩
def S_load : SpD := fun rs M P => ∃ (b : Addr), rs = [.m b] ∧ BI M b ∧ ∀ (q : Q) M', Red q → q.1 ≤ 3000000 → q.2 ≤ 6 → BS M b M' → P (.d (fr q)) M'
abbrev s_law_rope : Stmt := topS 54
theorem sc_law_rope : FnScope ["bag", "name", "slack", "stiff"] ["bag", "name"] (defScope s_law_rope) := ⟨rfl, rfl, rfl, by decide +kernel, rfl, by decide +kernel, by decide +kernel⟩
theorem ok_law_rope (F : Fun K "_law_rope" "_law_rope" s_law_rope f fd) (c_law_take : Has P w K mg base 1 "_law_take" ["bag", "many"] S_take) : FnOk P w K mg base CX0 2 f fd ["bag", "name"] (spOf K S_rope) := by
  refine ok_of F sc_law_rope (fun rs M P h => by obtain ⟨a, b, rfl, _⟩ := h; rfl) fun cdv A outer s H E hr => ⟨_, (pss_cons (ps_set (i := 2) sc_law_rope.nd rfl (Or.inl rfl) (pe_callH' c_law_take (hr.mono (by first | decide | omega)) rfl (pa_cons (pv 0) (pa_cons (pe_ix (kix_list K) (pe_lst (pa_cons pe_int (pa_cons pe_int (pa_cons pe_int pa_nil)))) (pe_callH' c_law_take (hr.mono (by first | decide | omega)) rfl (pa_cons (pv 0) (pa_cons pe_int pa_nil))) (fun _ _ => rfl)) pa_nil))))
      (pss_cons (ps_set (i := 3) sc_law_rope.nd rfl (Or.inl rfl) (pe_op op_add pe_int (pe_callH' c_law_take (hr.mono (by first | decide | omega)) rfl (pa_cons (pv 0) (pa_cons (pe_ix (kix_list K) (pe_lst (pa_cons pe_int (pa_cons pe_int (pa_cons pe_int pa_nil)))) (pe_callH' c_law_take (hr.mono (by first | decide | omega)) rfl (pa_cons (pv 0) (pa_cons pe_int pa_nil))) (fun _ _ => rfl)) pa_nil)))))
      (pss_one (ps_ret (pe_tup (pa_cons (pv 1) (pa_cons (pv 2) (pa_cons (pv 3) (pa_cons (pe_op op_add pe_int (pe_callH' c_law_take (hr.mono (by first | decide | omega)) rfl (pa_cons (pv 0) (pa_cons (pe_ix (kix_list K) (pe_lst (pa_cons pe_int (pa_cons pe_int (pa_cons pe_int pa_nil)))) (pe_callH' c_law_take (hr.mono (by first | decide | omega)) rfl (pa_cons (pv 0) (pa_cons pe_int pa_nil))) (fun _ _ => rfl)) pa_nil)))) pa_nil))))))))), fun rs M P h => ?_⟩
  obtain ⟨b, x, rfl, hb, p⟩ := h
  walk_at "d"
  refine dE_lst ?_
  walk_at "d"
  refine ⟨by decide, by decide, hb, fun i M1 i0 i1 B1 => ?_⟩
  obtain ⟨n1, hn1, hm1⟩ := pickI (ns := [3, 30, 1001]) i0 i1
  refine dR_ixL (.inl rfl) hn1 ?_
  have hn1' : 1 ≤ n1 ∧ n1 ≤ 1001 := by simp at hm1; omega
  walk_at "d"
  refine ⟨by omega, by omega, B1.bi, fun i2 M2 i20 i21 B2 => ?_⟩
  walk_at "d"
  refine dE_lst ?_
  walk_at "d"
  refine ⟨by decide, by decide, B2.bi, fun i3 M3 i30 i31 B3 => ?_⟩
  obtain ⟨n3, hn3, hm3⟩ := pickI (ns := [3, 10, 100]) i30 i31
  refine dR_ixL (.inl rfl) hn3 ?_
  have hn3' : 1 ≤ n3 ∧ n3 ≤ 100 := by simp at hm3; omega
  walk_at "d"
  refine ⟨by omega, by omega, B3.bi, fun i4 M4 i40 i41 B4 => ?_⟩
  walk_at "d"
  refine dE_lst ?_
  walk_at "d"
  refine ⟨by decide, by decide, B4.bi, fun i5 M5 i50 i51 B5 => ?_⟩
  obtain ⟨n5, hn5, hm5⟩ := pickI (ns := [12, 200, 1000000]) i50 i51
  refine dR_ixL (.inl rfl) hn5 ?_
  have hn5' : 1 ≤ n5 ∧ n5 ≤ 1000000 := by simp at hm5; omega
  walk_at "d"
  refine ⟨by omega, by omega, B5.bi, fun i6 M6 i60 i61 B6 => ?_⟩
  walk_at "d"
  exact p ⟨x, i2, 1 + i4, 1 + i6⟩ M6 rfl ⟨i20, by show i2 ≤ 1000; omega, by show 1 ≤ 1 + i4; omega, by show 1 + i4 ≤ 100; omega, by show 1 ≤ 1 + i6; omega, by show 1 + i6 ≤ 1000000; omega⟩ (((((B1.trans B2).trans B3).trans B4).trans B5).trans B6)
abbrev s_law_load : Stmt := topS 56
theorem sc_law_load : FnScope ["bag", "wide"] ["bag"] (defScope s_law_load) := ⟨rfl, rfl, rfl, by decide +kernel, rfl, by decide +kernel, by decide +kernel⟩
theorem ok_law_load (F : Fun K "_law_load" "_law_load" s_law_load f fd) (c_law_take : Has P w K mg base 1 "_law_take" ["bag", "many"] S_take) (c_law_lowest : Has P w K mg base 1 "_law_lowest" ["top", "bottom"] S_lowest) : FnOk P w K mg base CX0 2 f fd ["bag"] (spOf K S_load) := by
  refine ok_of F sc_law_load (fun rs M P h => by obtain ⟨a, rfl, _⟩ := h; rfl) fun cdv A outer s H E hr => ⟨_, (pss_cons (ps_set (i := 1) sc_law_load.nd rfl (Or.inl rfl) (pe_ix (kix_list K) (pe_lst (pa_cons pe_int (pa_cons pe_int (pa_cons pe_int (pa_cons pe_int pa_nil))))) (pe_callH' c_law_take (hr.mono (by first | decide | omega)) rfl (pa_cons (pv 0) (pa_cons pe_int pa_nil))) (fun _ _ => rfl)))
      (pss_one (ps_ret (pe_callH' c_law_lowest (hr.mono (by first | decide | omega)) rfl (pa_cons (pe_callH' c_law_take (hr.mono (by first | decide | omega)) rfl (pa_cons (pv 0) (pa_cons (pv 1) pa_nil))) (pa_cons (pe_op op_add pe_int (pe_callH' c_law_take (hr.mono (by first | decide | omega)) rfl (pa_cons (pv 0) (pa_cons (pe_ix (kix_list K) (pe_lst (pa_cons pe_int (pa_cons pe_int pa_nil))) (pe_callH' c_law_take (hr.mono (by first | decide | omega)) rfl (pa_cons (pv 0) (pa_cons pe_int pa_nil))) (fun _ _ => rfl)) pa_nil)))) pa_nil)))))), fun rs M P h => ?_⟩
  obtain ⟨b, rfl, hb, p⟩ := h
  walk_at "d"
  refine dE_lst ?_
  walk_at "d"
  refine ⟨by decide, by decide, hb, fun i M1 i0 i1 B1 => ?_⟩
  obtain ⟨n1, hn1, hm1⟩ := pickI (ns := [1, 30, 1000, 3000000]) i0 i1
  refine dR_ixL (.inl rfl) hn1 ?_
  have hn1' : 1 ≤ n1 ∧ n1 ≤ 3000000 := by simp at hm1; omega
  walk_at "d"
  refine ⟨by omega, by omega, B1.bi, fun i2 M2 i20 i21 B2 => ?_⟩
  walk_at "d"
  refine dE_lst ?_
  walk_at "d"
  refine ⟨by decide, by decide, B2.bi, fun i3 M3 i30 i31 B3 => ?_⟩
  obtain ⟨n3, hn3, hm3⟩ := pickI (ns := [1, 6]) i30 i31
  refine dR_ixL (.inl rfl) hn3 ?_
  have hn3' : 1 ≤ n3 ∧ n3 ≤ 6 := by simp at hm3; omega
  walk_at "d"
  refine ⟨by omega, by omega, B3.bi, fun i4 M4 i40 i41 B4 => ?_⟩
  walk_at "d"
  have hb4 : 0 < 1 + i4 := by omega
  refine ⟨i20, hb4, sz_lt (n := 8000) (by omega) ?_, ?_⟩
  · exact Int.lt_of_le_of_lt (show 1 + i4 ≤ 6 by omega) (Int.lt_of_lt_of_le (show (6 : Int) < 2 ^ 3 by decide) (by
      have := Nat.pow_le_pow_right (show 0 < 2 by decide) (show 3 ≤ 8000 by decide)
      have e1 : ((2 ^ 8000 : Nat) : Int) = (2 : Int) ^ 8000 := by simp
      have e2 : ((2 ^ 3 : Nat) : Int) = (2 : Int) ^ 3 := by simp
      omega))
  · have hl := low_le i20 hb4
    exact rtOf.of (p _ M4 (low_red i20 hb4) (by omega) (by omega) (((B1.trans B2).trans B3).trans B4))
end
end K2

namespace K2
open PySem L2 Sd Ma
local macro_rules | `(tactic| walk_at "d1") => `(tactic| first
  | ((with_reducible refine' dE_var ?dv ?_); (case dv => rfl))
  | with_reducible refine' dE_int ?_
  | with_reducible refine' dE_str ?_
  | with_reducible refine' dE_bl ?_
  | with_reducible refine' dE_non ?_
  | ((with_reducible refine' dE_nt ?dv ?_); (case dv => assumption))
  | with_reducible refine' dE_ref ?_
  | with_reducible refine' dE_op ?_
  | with_reducible refine' dE_un ?_
  | with_reducible refine' dE_cmp ?_
  | with_reducible refine' dE_isN ?_
  | with_reducible refine' dE_notN ?_
  | with_reducible refine' dE_call ?_
  | with_reducible refine' dE_cb ?_
  | with_reducible refine' dE_kw ?_
  | with_reducible refine' dE_tup ?_
  | with_reducible refine' dE_if ?_
  | with_reducible refine' dE_and ?_
  | with_reducible refine' dE_or ?_
  | with_reducible refine' dE_not ?_
  | with_reducible refine' dE_sl ?_
  | with_reducible refine' dO_none ?_
  | with_reducible refine' dO_some ?_
  | with_reducible refine' dA_cons ?_
  | with_reducible refine' dA_nil ?_
  | with_reducible refine' dT_B ?_
  | with_reducible refine' dT_test ?_
  | with_reducible refine' dT_and ?_
  | with_reducible refine' dT_or ?_
  | with_reducible refine' dT_not ?_
  | with_reducible refine' dT_yes ?_
  | with_reducible refine' dR_I0i ?_
  | with_reducible refine' dU_neg ?_
  | ((with_reducible refine' dR_ixT ?dv ?_); (case dv => rfl))
  | with_reducible refine' dS_seq ?_
  | with_reducible refine' dS_next ?_
  | with_reducible refine' dS_ret ?_
  | with_reducible refine' dS_drop ?_
  | with_reducible refine' dS_if ?_
  | with_reducible refine' dS_asg ?_
  | with_reducible refine' dS_par ?_
  | with_reducible refine' dG_name ?_
  | ((with_reducible refine' dG_tup ?dv ?_); (case dv => rfl); (dsimp only [List.map]))
  | with_reducible refine' dGs_cons ?_
  | with_reducible refine' dGs_nil ?_
  | with_reducible refine' dC_abs ?_
  | with_reducible refine' dC_max2 ?_
  | with_reducible refine' dC_min2 ?_
  | with_reducible refine' rtOf.of ?_
  | with_reducible refine' ex_cmp ?_
  | with_reducible refine' ex_bool ?_
  | with_reducible refine' ex_int ?_
  | with_reducible refine' ex_list ?_
  | with_reducible refine' ex_tup ?_
  | with_reducible refine' ex_d ?_
  | with_reducible refine' ex_m ?_
  | with_reducible refine' ex_par ?_
  | with_reducible refine' ex_rg1 ?_
  | with_reducible refine' ex_rg2 ?_
  | ((with_reducible refine' ex_dat ?dv ?dw ?_); (case dv => rfl); (case dw => exact Nat.le_of_ble_eq_true rfl))
  | ((fail_if_success (with_reducible show ∃ _, _)); (fail_if_success (with_reducible show _ ∧ _)); refine ⟨_, _, rfl, ?_⟩)
  | ((fail_if_success (with_reducible show ∃ _, _)); (fail_if_success (with_reducible show _ ∧ _)); refine ⟨_, rfl, ?_⟩)
  | fail)
local macro_rules | `(tactic| walk_at "d") => `(tactic| repeat' walk_at "d1")
local macro_rules | `(tactic| walk_at "e1") => `(tactic| first
  | ((with_reducible refine' dE_var ?dv ?_); (case dv => rfl))
  | with_reducible refine' dE_int ?_
  | with_reducible refine' dE_str ?_
  | with_reducible refine' dE_bl ?_
  | with_reducible refine' dE_non ?_
  | ((with_reducible refine' dE_nt ?dv ?_); (case dv => assumption))
  | with_reducible refine' dE_ref ?_
  | with_reducible refine' dE_op ?_
  | with_reducible refine' dE_un ?_
  | with_reducible refine' dE_cmp ?_
  | with_reducible refine' dE_isN ?_
  | with_reducible refine' dE_notN ?_
  | with_reducible refine' dE_call ?_
  | with_reducible refine' dE_cb ?_
  | with_reducible refine' dE_kw ?_
  | with_reducible refine' dE_tup ?_
  | with_reducible refine' dE_if ?_
  | with_reducible refine' dE_and ?_
  | with_reducible refine' dE_or ?_
  | with_reducible refine' dE_not ?_
  | with_reducible refine' dE_sl ?_
  | with_reducible refine' dO_none ?_
  | with_reducible refine' dO_some ?_
  | with_reducible refine' dA_cons ?_
  | with_reducible refine' dA_nil ?_
  | with_reducible refine' dT_B ?_
  | with_reducible refine' dT_test ?_
  | with_reducible refine' dT_and ?_
  | with_reducible refine' dT_or ?_
  | with_reducible refine' dT_not ?_
  | with_reducible refine' dT_yes ?_
  | with_reducible refine' dR_I0i ?_
  | with_reducible refine' dU_neg ?_
  | ((with_reducible refine' dR_ixT ?dv ?_); (case dv => rfl))
  | with_reducible refine' dS_next ?_
  | with_reducible refine' dS_ret ?_
  | with_reducible refine' dS_drop ?_
  | with_reducible refine' dS_if ?_
  | with_reducible refine' dS_asg ?_
  | with_reducible refine' dS_par ?_
  | with_reducible refine' dG_name ?_
  | ((with_reducible refine' dG_tup ?dv ?_); (case dv => rfl); (dsimp only [List.map]))
  | with_reducible refine' dGs_cons ?_
  | with_reducible refine' dGs_nil ?_
  | with_reducible refine' dC_abs ?_
  | with_reducible refine' dC_max2 ?_
  | with_reducible refine' dC_min2 ?_
  | with_reducible refine' rtOf.of ?_
  | with_reducible refine' ex_cmp ?_
  | with_reducible refine' ex_bool ?_
  | with_reducible refine' ex_int ?_
  | with_reducible refine' ex_list ?_
  | with_reducible refine' ex_tup ?_
  | with_reducible refine' ex_d ?_
  | with_reducible refine' ex_m ?_
  | with_reducible refine' ex_par ?_
  | with_reducible refine' ex_rg1 ?_
  | with_reducible refine' ex_rg2 ?_
  | ((with_reducible refine' ex_dat ?dv ?dw ?_); (case dv => rfl); (case dw => exact Nat.le_of_ble_eq_true rfl))
  | ((fail_if_success (with_reducible show ∃ _, _)); (fail_if_success (with_reducible show _ ∧ _)); refine ⟨_, _, rfl, ?_⟩)
  | ((fail_if_success (with_reducible show ∃ _, _)); (fail_if_success (with_reducible show _ ∧ _)); refine ⟨_, rfl, ?_⟩)
  | fail)
local macro_rules | `(tactic| walk_at "e") => `(tactic| repeat' walk_at "e1")

theorem mset_comm {M : Mem} {a b : Addr} {x y : List PyData} (h : a ≠ b) : mset (mset M a x) b y = mset (mset M b y) a x := by
  funext c
  unfold mset
  by_cases h1 : c = a
  · subst h1; rw [if_neg h, if_pos rfl, if_pos rfl]
  · rw [if_neg h1, if_neg h1]
theorem BS.under {M M' : Mem} {a b : Addr} {x : List PyData} (h : a ≠ b) (k : BS (mset M a x) b M') : ∃ M1, BS M b M1 ∧ M' = mset M1 a x := by
  obtain ⟨ds, h1, rfl⟩ := k
  exact ⟨_, ⟨ds, h1, rfl⟩, mset_comm h⟩
theorem BI.under {M : Mem} {a b : Addr} {x : List PyData} (h : a ≠ b) (k : BI M b) : BI (mset M a x) b := by
  obtain ⟨ds, h1, h2⟩ := k
  exact ⟨ds, by rw [mset_ne (Ne.symm h)]; exact h1, h2⟩
theorem BI.ne {M : Mem} {a b : Addr} (h : M a = none) (k : BI M b) : a ≠ b := by
  rintro rfl
  obtain ⟨ds, h1, _⟩ := k
  rw [h] at h1; cases h1
theorem cutD_take {ds : List PyData} {k : Int} (h : 0 ≤ k) : cutD ds none (some k) = ds.take k.toNat := by
  unfold cutD
  show (ds.drop 0).take ((if k < 0 then (k + (ds.length : Int)).toNat else min k.toNat ds.length) - 0) = ds.take k.toNat
  rw [if_neg (by omega), List.drop_zero, Nat.sub_zero]
  by_cases hk : k.toNat ≤ ds.length
  · rw [Nat.min_eq_left hk]
  · rw [Nat.min_eq_right (by omega), List.take_of_length_le (Nat.le_refl _), List.take_of_length_le (by omega)]
theorem names6_lay : ∀ z ∈ names6, PyData.canLay0 (.str z) = true := by
  intro z hz
  simp only [names6, List.mem_cons, List.not_mem_nil, or_false] at hz
  rcases hz with rfl | rfl | rfl | rfl | rfl | rfl <;> decide +kernel
section
variable {P : Program} {w : World} {K : PySem.W.Frag} {mg : Str → Option Value} {base : Heap} {f : Addr} {fd : FuncData}
abbrev s_law_bundle : Stmt := topS 55
theorem sc_law_bundle : FnScope ["bag", "most", "found", "name", "rope"] ["bag", "most"] (defScope s_law_bundle) := ⟨rfl, rfl, rfl, by decide +kernel, rfl, by decide +kernel, by decide +kernel⟩
theorem ok_law_bundle (T : Txt mg) (F : Fun K "_law_bundle" "_law_bundle" s_law_bundle f fd) (c_law_take : Has P w K mg base 1 "_law_take" ["bag", "many"] S_take) (c_law_of : Has P w K mg base 2 "_law_of" ["bag", "some"] S_of) (c_law_rope : Has P w K mg base 2 "_law_rope" ["bag", "name"] S_rope) : FnOk P w K mg base CX0 3 f fd ["bag", "most"] (spOf K S_bundleN) := by
  refine ok_of F sc_law_bundle (fun rs M P h => by obtain ⟨a, b, rfl, _⟩ := h; rfl) fun cdv A outer s H E hr => ⟨_, (pss_cons (ps_set (i := 2) sc_law_bundle.nd rfl (Or.inl rfl) (pe_lst pa_nil))
      (pss_cons (ps_for PassesOwn.never rfl (kpi_list K (pe_slice (ksl_list K) (pe_lst (pa_cons pe_str (pa_cons pe_str (pa_cons pe_str (pa_cons pe_str (pa_cons pe_str (pa_cons pe_str pa_nil))))))) po_none (po_some (pe_op op_add pe_int (pe_callH' c_law_take (hr.mono (by first | decide | omega)) rfl (pa_cons (pv 0) (pa_cons (pv 1) pa_nil))))))) (pg_name (i := 3) sc_law_bundle.nd rfl (Or.inl rfl)) (pss_cons (ps_set (i := 4) sc_law_bundle.nd rfl (Or.inl rfl) (pe_callH' c_law_rope (hr.mono (by first | decide | omega)) rfl (pa_cons (pv 0) (pa_cons (pv 3) pa_nil))))
      (pss_cons (ps_if (PW.pt (pw_and (pt_cmpR (kop_neD K hr.units) (pv 2) (pe_lst pa_nil) (nomark _)) (pw_and1 (pt_cmp (pc_eqI (pe_callH' c_law_take (hr.mono (by first | decide | omega)) rfl (pa_cons (pv 0) (pa_cons pe_int pa_nil))) pe_int))))) (pss_one (ps_set (i := 4) sc_law_bundle.nd rfl (Or.inl rfl) (pe_op (kop_catT K) (pe_tup (pa_cons (pv 3) pa_nil)) (pe_slice (ksl_tup K) (pe_callH' c_law_of (hr.mono (by first | decide | omega)) rfl (pa_cons (pv 0) (pa_cons (pv 2) pa_nil))) (po_some pe_int) po_none)))) pss_nil)
      (pss_one (ps_expr (kpe_bm K (pe_bm PySem.F.plainAttrs_list PySem.F.slot_list_append PySem.F.type_list_append mt_append (pv 2) (pa_cons (pv 4) pa_nil))))))))
      (pss_one (ps_ret (pe_callTy (kcall_tuple K) (by rfl) T.tuple (by decide +kernel) (pa_cons (pv 2) pa_nil)))))), fun rs M P h => ?_⟩
  obtain ⟨b, n, rfl, n0, n1, hb, p⟩ := h
  walk_at "d"
  refine dE_lstM ?_
  walk_at "d"
  intro a ha
  have hab : a ≠ b := BI.ne ha hb
  walk_at "d"
  refine dS_forL ?_
  walk_at "d"
  refine dE_lst ?_
  walk_at "d"
  refine ⟨by omega, by omega, hb.under hab, fun i M1 i0 i1 B1 => ?_⟩
  obtain ⟨Ma, Ba, rfl⟩ := B1.under hab
  walk_at "d"
  refine dU_slL (.inl rfl) ?_
  rw [cutD_take (by omega)]
  have hk : (1 + i).toNat ≤ 6 := by omega
  have hk0 : 1 ≤ (1 + i).toNat := by omega
  generalize (1 + i).toNat = k at hk hk0
  have e6 : ([.str "ann", .str "bo", .str "cy", .str "dee", .str "eli", .str "fay"] : List PyData).take k = (names6.take k).map PyData.str := by rw [List.map_take]; rfl
  rw [e6]
  refine ⟨_, rfl, fun j δ M' => ∃ (ro : List Rope) (M2 : Mem) (x1 x2 : Option SV), δ = [some (.m b), some (.d (.int n)), some (.m a), x1, x2] ∧ M' = mset M2 a (ro.map Rope.d) ∧ BS M b M2 ∧ ro.length = j ∧ ro.map Rope.n = names6.take j ∧ ∀ r ∈ ro, r.Fine, ⟨[], Ma, _, _, rfl, rfl, Ba, rfl, rfl, fun r hr => by cases hr⟩, fun j x δ M' hx hI => ?_, fun δ M' hI => ?_⟩
  · obtain ⟨ro, M2, x1, x2, rfl, rfl, B2, hlen, hnam, hfin⟩ := hI
    obtain ⟨nm', hn1, rfl⟩ := getElem?_map_some hx
    have hj : j < k := by
      have := (List.getElem?_eq_some_iff.mp hn1).1
      rw [List.length_take] at this
      omega
    have hn6 : names6[j]? = some nm' := by rw [List.getElem?_take_of_lt hj] at hn1; exact hn1
    have done : ∀ (r : Rope) (M3 : Mem), r.n = nm' → r.Fine → BS M b M3 → ∃ (ro' : List Rope) (M2 : Mem) (x1 x2 : Option SV), [some (.m b), some (.d (.int n)), some (.m a), some (.d (.str nm')), some (.d r.d)] = [some (.m b), some (.d (.int n)), some (.m a), x1, x2] ∧ mset (mset M3 a (ro.map Rope.d)) a (ro.map Rope.d ++ [r.d]) = mset M2 a (ro'.map Rope.d) ∧ BS M b M2 ∧ ro'.length = j + 1 ∧ ro'.map Rope.n = names6.take (j + 1) ∧ ∀ r ∈ ro', r.Fine := fun r M3 e1 e2 e3 =>
      ⟨ro ++ [r], M3, _, _, rfl, by rw [mset_mset, List.map_append]; rfl, e3, by rw [List.length_append, hlen]; rfl, by rw [List.map_append, hnam, List.take_succ, hn6]; show _ ++ [r.n] = _; rw [e1]; rfl, fun y hy => by
        rcases List.mem_append.mp hy with h | h
        · exact hfin y h
        · rw [List.mem_singleton.mp h]; exact e2⟩
    walk_at "d"
    refine ⟨B2.bi.under hab, fun r M3 hr1 hr2 B3 => ?_⟩
    obtain ⟨Mc, Bc, rfl⟩ := B3.under hab
    walk_at "d"
    refine dE_lst ?_
    walk_at "d"
    refine dR_ne (d := .list (ro.map Rope.d)) (.inr ⟨a, _, rfl, mset_same, rfl⟩) .of ?_ rfl ?_
    · exact Shp.shaped (Shp.list fun d hd => by
        obtain ⟨y, hy, rfl⟩ := List.mem_map.mp hd
        refine Shp.rope ?_
        have : y.n ∈ names6 := List.mem_of_mem_take (by rw [← hnam]; exact List.mem_map.mpr ⟨y, hy, rfl⟩)
        exact names6_lay _ this)
    walk_at "d"
    refine ifB (fun h => ?_) (fun h => ?_)
    · have hro : ro ≠ [] := by rintro rfl; revert h; decide
      walk_at "d"
      refine ⟨by decide, by decide, Bc.bi.under hab, fun i4 M4 _ _ B4 => ?_⟩
      obtain ⟨Md, Bd, rfl⟩ := B4.under hab
      walk_at "d"
      refine ifB (fun h => ?_) (fun h => ?_)
      · walk_at "d"
        refine ⟨b, .m a, ro.map Rope.d, rfl, .inr ⟨a, rfl, mset_same⟩, fun e => hab (by cases e; rfl), by simpa using hro, by rw [List.length_map, hlen]; omega, Bd.bi.under hab, fun d M5 hd B5 => ?_⟩
        obtain ⟨y, hy, rfl⟩ := List.mem_map.mp hd
        obtain ⟨Me, Be, rfl⟩ := B5.under hab
        have hy' := hfin y hy
        walk_at "d"
        refine dU_slT (ds := [.str y.n, .int y.a, .int y.b, .int y.c]) (by simp only [List.length_cons, List.length_nil]; decide) ?_
        rw [show cutD [.str y.n, .int y.a, .int y.b, .int y.c] (some 1) none = [.int y.a, .int y.b, .int y.c] from rfl]
        walk_at "d"
        refine dR_catT (by simp) (by simp) (by simp) ?_
        walk_at "d"
        refine dE_app ?_
        walk_at "d"
        refine ⟨⟨_, mset_same⟩, ?_⟩
        walk_at "d"
        refine ⟨_, _, rfl, mset_same, by rw [List.length_map, hlen]; omega, ?_⟩
        exact done ⟨nm', y.a, y.b, y.c⟩ Me rfl ⟨hy'.a0, hy'.a1, hy'.b0, hy'.b1, hy'.c0, hy'.c1⟩ (((B2.trans Bc).trans Bd).trans Be)
      · walk_at "d"
        refine dE_app ?_
        walk_at "d"
        refine ⟨⟨_, mset_same⟩, ?_⟩
        walk_at "d"
        refine ⟨_, _, rfl, mset_same, by rw [List.length_map, hlen]; omega, ?_⟩
        exact done r Md hr1 hr2 ((B2.trans Bc).trans Bd)
    · refine ifF rfl ?_
      walk_at "d"
      refine dE_app ?_
      walk_at "d"
      refine ⟨⟨_, mset_same⟩, ?_⟩
      walk_at "d"
      refine ⟨_, _, rfl, mset_same, by rw [List.length_map, hlen]; omega, ?_⟩
      exact done r Mc hr1 hr2 (B2.trans Bc)
  · obtain ⟨ro, M2, x1, x2, rfl, rfl, B2, hlen, hnam, hfin⟩ := hI
    rw [List.length_map, List.length_take] at hlen hnam
    have hl : ro.length = k := by rw [hlen]; exact Nat.min_eq_left hk
    rw [show min k names6.length = k from Nat.min_eq_left hk] at hnam
    walk_at "d"
    refine dC_tuple (.inr ⟨a, rfl, mset_same⟩) ?_
    exact ⟨M2, p ro M2 (Bun.of6 (fun e => by rw [e] at hl; simp at hl; omega) (by omega) (by rw [hl]; exact hnam) hfin) (by rw [hl]; exact hnam) B2, msub_set MSub.refl (by rw [B2.ne hab]; exact ha)⟩
end
end K2

namespace K2
open PySem L2 Sd Ma
local macro_rules | `(tactic| walk_at "d1") => `(tactic| first
  | ((with_reducible refine' dE_var ?dv ?_); (case dv => rfl))
  | with_reducible refine' dE_int ?_
  | with_reducible refine' dE_str ?_
  | with_reducible refine' dE_bl ?_
  | with_reducible refine' dE_non ?_
  | ((with_reducible refine' dE_nt ?dv ?_); (case dv => assumption))
  | with_reducible refine' dE_ref ?_
  | with_reducible refine' dE_op ?_
  | with_reducible refine' dE_un ?_
  | with_reducible refine' dE_cmp ?_
  | with_reducible refine' dE_isN ?_
  | with_reducible refine' dE_notN ?_
  | with_reducible refine' dE_call ?_
  | with_reducible refine' dE_cb ?_
  | with_reducible refine' dE_kw ?_
  | with_reducible refine' dE_tup ?_
  | with_reducible refine' dE_if ?_
  | with_reducible refine' dE_and ?_
  | with_reducible refine' dE_or ?_
  | with_reducible refine' dE_not ?_
  | with_reducible refine' dE_sl ?_
  | with_reducible refine' dO_none ?_
  | with_reducible refine' dO_some ?_
  | with_reducible refine' dA_cons ?_
  | with_reducible refine' dA_nil ?_
  | with_reducible refine' dT_B ?_
  | with_reducible refine' dT_test ?_
  | with_reducible refine' dT_and ?_
  | with_reducible refine' dT_or ?_
  | with_reducible refine' dT_not ?_
  | with_reducible refine' dT_yes ?_
  | with_reducible refine' dR_I0i ?_
  | with_reducible refine' dU_neg ?_
  | ((with_reducible refine' dR_ixT ?dv ?_); (case dv => rfl))
  | with_reducible refine' dS_seq ?_
  | with_reducible refine' dS_next ?_
  | with_reducible refine' dS_ret ?_
  | with_reducible refine' dS_drop ?_
  | with_reducible refine' dS_if ?_
  | with_reducible refine' dS_asg ?_
  | with_reducible refine' dS_par ?_
  | with_reducible refine' dG_name ?_
  | ((with_reducible refine' dG_tup ?dv ?_); (case dv => rfl); (dsimp only [List.map]))
  | with_reducible refine' dGs_cons ?_
  | with_reducible refine' dGs_nil ?_
  | with_reducible refine' dC_abs ?_
  | with_reducible refine' dC_max2 ?_
  | with_reducible refine' dC_min2 ?_
  | with_reducible refine' rtOf.of ?_
  | with_reducible refine' ex_cmp ?_
  | with_reducible refine' ex_bool ?_
  | with_reducible refine' ex_int ?_
  | with_reducible refine' ex_list ?_
  | with_reducible refine' ex_tup ?_
  | with_reducible refine' ex_d ?_
  | with_reducible refine' ex_m ?_
  | with_reducible refine' ex_par ?_
  | with_reducible refine' ex_rg1 ?_
  | with_reducible refine' ex_rg2 ?_
  | ((with_reducible refine' ex_dat ?dv ?dw ?_); (case dv => rfl); (case dw => exact Nat.le_of_ble_eq_true rfl))
  | ((fail_if_success (with_reducible show ∃ _, _)); (fail_if_success (with_reducible show _ ∧ _)); refine ⟨_, _, rfl, ?_⟩)
  | ((fail_if_success (with_reducible show ∃ _, _)); (fail_if_success (with_reducible show _ ∧ _)); refine ⟨_, rfl, ?_⟩)
  | fail)
local macro_rules | `(tactic| walk_at "d") => `(tactic| repeat' walk_at "d1")
local macro_rules | `(tactic| walk_at "e1") => `(tactic| first
  | ((with_reducible refine' dE_var ?dv ?_); (case dv => rfl))
  | with_reducible refine' dE_int ?_
  | with_reducible refine' dE_str ?_
  | with_reducible refine' dE_bl ?_
  | with_reducible refine' dE_non ?_
  | ((with_reducible refine' dE_nt ?dv ?_); (case dv => assumption))
  | with_reducible refine' dE_ref ?_
  | with_reducible refine' dE_op ?_
  | with_reducible refine' dE_un ?_
  | with_reducible refine' dE_cmp ?_
  | with_reducible refine' dE_isN ?_
  | with_reducible refine' dE_notN ?_
  | with_reducible refine' dE_call ?_
  | with_reducible refine' dE_cb ?_
  | with_reducible refine' dE_kw ?_
  | with_reducible refine' dE_tup ?_
  | with_reducible refine' dE_if ?_
  | with_reducible refine' dE_and ?_
  | with_reducible refine' dE_or ?_
  | with_reducible refine' dE_not ?_
  | with_reducible refine' dE_sl ?_
  | with_reducible refine' dO_none ?_
  | with_reducible refine' dO_some ?_
  | with_reducible refine' dA_cons ?_
  | with_reducible refine' dA_nil ?_
  | with_reducible refine' dT_B ?_
  | with_reducible refine' dT_test ?_
  | with_reducible refine' dT_and ?_
  | with_reducible refine' dT_or ?_
  | with_reducible refine' dT_not ?_
  | with_reducible refine' dT_yes ?_
  | with_reducible refine' dR_I0i ?_
  | with_reducible refine' dU_neg ?_
  | ((with_reducible refine' dR_ixT ?dv ?_); (case dv => rfl))
  | with_reducible refine' dS_next ?_
  | with_reducible refine' dS_ret ?_
  | with_reducible refine' dS_drop ?_
  | with_reducible refine' dS_if ?_
  | with_reducible refine' dS_asg ?_
  | with_reducible refine' dS_par ?_
  | with_reducible refine' dG_name ?_
  | ((with_reducible refine' dG_tup ?dv ?_); (case dv => rfl); (dsimp only [List.map]))
  | with_reducible refine' dGs_cons ?_
  | with_reducible refine' dGs_nil ?_
  | with_reducible refine' dC_abs ?_
  | with_reducible refine' dC_max2 ?_
  | with_reducible refine' dC_min2 ?_
  | with_reducible refine' rtOf.of ?_
  | with_reducible refine' ex_cmp ?_
  | with_reducible refine' ex_bool ?_
  | with_reducible refine' ex_int ?_
  | with_reducible refine' ex_list ?_
  | with_reducible refine' ex_tup ?_
  | with_reducible refine' ex_d ?_
  | with_reducible refine' ex_m ?_
  | with_reducible refine' ex_par ?_
  | with_reducible refine' ex_rg1 ?_
  | with_reducible refine' ex_rg2 ?_
  | ((with_reducible refine' ex_dat ?dv ?dw ?_); (case dv => rfl); (case dw => exact Nat.le_of_ble_eq_true rfl))
  | ((fail_if_success (with_reducible show ∃ _, _)); (fail_if_success (with_reducible show _ ∧ _)); refine ⟨_, _, rfl, ?_⟩)
  | ((fail_if_success (with_reducible show ∃ _, _)); (fail_if_success (with_reducible show _ ∧ _)); refine ⟨_, rfl, ?_⟩)
  | fail)
local macro_rules | `(tactic| walk_at "e") => `(tactic| repeat' walk_at "e1")

/-- a fraction of bounded size -/
structure Fr (n : Nat) (q : Q) : Prop extends Red q where
  s1 : Sz n q.1
  s2 : Sz n q.2
def plus (x y : Q) : Q := low (x.1 * y.2 + y.1 * x.2) (x.2 * y.2)
theorem plus_red {x y : Q} (hx : Red x) (hy : Red y) : Red (plus x y) := low_red (by have := Int.mul_nonneg hx.p0 (Int.le_of_lt hy.q0); have := Int.mul_nonneg hy.p0 (Int.le_of_lt hx.q0); omega) (Int.mul_pos hx.q0 hy.q0)
section
variable {P : Program} {w : World} {K : PySem.W.Frag} {mg : Str → Option Value} {base : Heap} {f : Addr} {fd : FuncData}
def S_plus : SpD := fun rs M P => ∃ x y : Q, rs = [.d (fr x), .d (fr y)] ∧ Fr 3000 x ∧ Fr 3000 y ∧ P (.d (fr (plus x y))) M
def S_less : SpD := fun rs M P => ∃ x y : Q, rs = [.d (fr x), .d (fr y)] ∧ Fr 3000 x ∧ Fr 3000 y ∧ P (.d (.bool (decide (x.1 * y.2 < y.1 * x.2)))) M
def S_some_names : SpD := fun rs M P => ∃ (b : Addr) (ro : List Rope), rs = [.m b, .d (bd ro)] ∧ BI M b ∧ ro.length ≤ 100 ∧ ∀ ns M', ns.Sublist (ro.map Rope.n) → BS M b M' → P (.d (nm ns)) M'
abbrev s_law_plus : Stmt := topS 57
theorem sc_law_plus : FnScope ["one", "other"] ["one", "other"] (defScope s_law_plus) := ⟨rfl, rfl, rfl, by decide +kernel, rfl, by decide +kernel, by decide +kernel⟩
theorem ok_law_plus (F : Fun K "_law_plus" "_law_plus" s_law_plus f fd) (c_law_lowest : Has P w K mg base 1 "_law_lowest" ["top", "bottom"] S_lowest) : FnOk P w K mg base CX0 2 f fd ["one", "other"] (spOf K S_plus) := by
  refine ok_of F sc_law_plus (fun rs M P h => by obtain ⟨a, b, rfl, _⟩ := h; rfl) fun cdv A outer s H E hr => ⟨_, (pss_one (ps_ret (pe_callH' c_law_lowest (hr.mono (by first | decide | omega)) rfl (pa_cons (pe_op op_add (pe_op op_mulW (pe_ix (kix_tup K) (pv 0) pe_int (fun _ _ => rfl)) (pe_ix (kix_tup K) (pv 1) pe_int (fun _ _ => rfl))) (pe_op op_mulW (pe_ix (kix_tup K) (pv 1) pe_int (fun _ _ => rfl)) (pe_ix (kix_tup K) (pv 0) pe_int (fun _ _ => rfl)))) (pa_cons (pe_op op_mulW (pe_ix (kix_tup K) (pv 0) pe_int (fun _ _ => rfl)) (pe_ix (kix_tup K) (pv 1) pe_int (fun _ _ => rfl))) pa_nil))))), fun rs M P h => ?_⟩
  obtain ⟨x, y, rfl, hx, hy, p⟩ := h
  walk_at "d"
  refine dR_Ii (hx.s1.mulOk hy.s2 (by decide) (by decide) (by decide)) ?_
  walk_at "d"
  refine dR_Ii (hy.s1.mulOk hx.s2 (by decide) (by decide) (by decide)) ?_
  walk_at "d"
  refine dR_Ii (hx.s2.mulOk hy.s2 (by decide) (by decide) (by decide)) ?_
  walk_at "d"
  exact ⟨by have := Int.mul_nonneg hx.p0 (Int.le_of_lt hy.q0); have := Int.mul_nonneg hy.p0 (Int.le_of_lt hx.q0); omega, Int.mul_pos hx.q0 hy.q0, (hx.s2.mul hy.s2).up (by decide), rtOf.of p⟩
abbrev s_law_less : Stmt := topS 58
theorem sc_law_less : FnScope ["one", "other"] ["one", "other"] (defScope s_law_less) := ⟨rfl, rfl, rfl, by decide +kernel, rfl, by decide +kernel, by decide +kernel⟩
theorem ok_law_less (F : Fun K "_law_less" "_law_less" s_law_less f fd) : FnOk P w K mg base CX0 1 f fd ["one", "other"] (spOf K S_less) := by
  refine ok_of F sc_law_less (fun rs M P h => by obtain ⟨a, b, rfl, _⟩ := h; rfl) fun cdv A outer s H E hr => ⟨_, (pss_one (ps_ret (pe_cmp (pc_lt (pe_op op_mulW (pe_ix (kix_tup K) (pv 0) pe_int (fun _ _ => rfl)) (pe_ix (kix_tup K) (pv 1) pe_int (fun _ _ => rfl))) (pe_op op_mulW (pe_ix (kix_tup K) (pv 1) pe_int (fun _ _ => rfl)) (pe_ix (kix_tup K) (pv 0) pe_int (fun _ _ => rfl))))))), fun rs M P h => ?_⟩
  obtain ⟨x, y, rfl, hx, hy, p⟩ := h
  walk_at "d"
  refine dR_Ii (hx.s1.mulOk hy.s2 (by decide) (by decide) (by decide)) ?_
  walk_at "d"
  refine dR_Ii (hy.s1.mulOk hx.s2 (by decide) (by decide) (by decide)) ?_
  walk_at "d"
  exact p
def S_lleft : SpD := fun rs M P => ∃ (ro : List Rope) (y : SV) (ns : List Str), rs = [.d (bd ro), y] ∧ Seq M y (ns.map .str) ∧ ro.length ≤ 100 ∧ P (.d (ld (leftOf ro ns))) M
abbrev s_law_pull : Stmt := topS 59
theorem sc_law_pull : FnScope ["rope", "sunk"] ["rope", "sunk"] (defScope s_law_pull) := ⟨rfl, rfl, rfl, by decide +kernel, rfl, by decide +kernel, by decide +kernel⟩
theorem ok_law_pull (T : Txt mg) (F : Fun K "_law_pull" "_law_pull" s_law_pull f fd) (c_law_lowest : Has P w K mg base 1 "_law_lowest" ["top", "bottom"] S_lowest) : FnOk P w K mg base CX0 2 f fd ["rope", "sunk"] (spOf K S_pull) := by
  refine ok_of F sc_law_pull (fun rs M P h => by obtain ⟨a, b, rfl, _⟩ := h; rfl) fun cdv A outer s H E hr => ⟨_, (pss_one (ps_ret (pe_callH' c_law_lowest (hr.mono (by first | decide | omega)) rfl (pa_cons (pe_callB (call_max2 rfl) (by rfl) T.max (by decide +kernel) (pa_cons pe_int (pa_cons (pe_op op_mulW (pe_ix (kix_tup K) (pv 0) pe_int (fun _ _ => rfl)) (pe_op op_sub (pe_ix (kix_tup K) (pv 1) pe_int (fun _ _ => rfl)) (pe_op op_mulW (pe_ix (kix_tup K) (pv 0) pe_int (fun _ _ => rfl)) (pe_ix (kix_tup K) (pv 1) pe_int (fun _ _ => rfl))))) pa_nil))) (pa_cons (pe_ix (kix_tup K) (pv 1) pe_int (fun _ _ => rfl)) pa_nil))))), fun rs M P h => ?_⟩
  obtain ⟨r, q, rfl, hr1, hq0, hq1, hq2, p⟩ := h
  have z1 : Sz 2040 (r.a * q.2) := (hr1.aS.mul hq2).up (by decide)
  have z2 : Sz 2041 (q.1 - r.a * q.2) := (hq1.up (by decide)).sub z1
  walk_at "d"
  refine dR_Ii (hr1.aS.mulOk hq2 (by decide) (by decide) (by decide)) ?_
  walk_at "d"
  refine dR_Ii (hr1.bS.mulOk z2 (by decide) (by decide) (by decide)) ?_
  walk_at "d"
  have hb0 := hr1.b0
  by_cases h : r.a * q.2 < q.1
  · have hpos : 0 < r.b * (q.1 - r.a * q.2) := Int.mul_pos hb0 (by omega)
    rw [if_pos hpos]
    refine ⟨Int.le_of_lt hpos, hq0, hq2.up (by decide), rtOf.of ?_⟩
    unfold pullOf at p
    rw [if_pos h] at p
    exact p
  · have hneg : ¬ r.b * (q.1 - r.a * q.2) > 0 := by
      have := Int.mul_nonneg (Int.le_of_lt hb0) (show 0 ≤ -(q.1 - r.a * q.2) by omega)
      rw [Int.mul_neg] at this
      omega
    rw [if_neg hneg]
    refine ⟨Int.le_refl 0, hq0, hq2.up (by decide), rtOf.of ?_⟩
    unfold pullOf at p
    rw [if_neg h] at p
    rw [low_zero hq0]
    exact p
end
end K2

namespace K2
open PySem L2 Sd Ma
local macro_rules | `(tactic| walk_at "d1") => `(tactic| first
  | ((with_reducible refine' dE_var ?dv ?_); (case dv => rfl))
  | with_reducible refine' dE_int ?_
  | with_reducible refine' dE_str ?_
  | with_reducible refine' dE_bl ?_
  | with_reducible refine' dE_non ?_
  | ((with_reducible refine' dE_nt ?dv ?_); (case dv => assumption))
  | with_reducible refine' dE_ref ?_
  | with_reducible refine' dE_op ?_
  | with_reducible refine' dE_un ?_
  | with_reducible refine' dE_cmp ?_
  | with_reducible refine' dE_isN ?_
  | with_reducible refine' dE_notN ?_
  | with_reducible refine' dE_call ?_
  | with_reducible refine' dE_cb ?_
  | with_reducible refine' dE_kw ?_
  | with_reducible refine' dE_tup ?_
  | with_reducible refine' dE_if ?_
  | with_reducible refine' dE_and ?_
  | with_reducible refine' dE_or ?_
  | with_reducible refine' dE_not ?_
  | with_reducible refine' dE_sl ?_
  | with_reducible refine' dO_none ?_
  | with_reducible refine' dO_some ?_
  | with_reducible refine' dA_cons ?_
  | with_reducible refine' dA_nil ?_
  | with_reducible refine' dT_B ?_
  | with_reducible refine' dT_test ?_
  | with_reducible refine' dT_and ?_
  | with_reducible refine' dT_or ?_
  | with_reducible refine' dT_not ?_
  | with_reducible refine' dT_yes ?_
  | with_reducible refine' dR_I0i ?_
  | with_reducible refine' dU_neg ?_
  | ((with_reducible refine' dR_ixT ?dv ?_); (case dv => rfl))
  | with_reducible refine' dS_seq ?_
  | with_reducible refine' dS_next ?_
  | with_reducible refine' dS_ret ?_
  | with_reducible refine' dS_drop ?_
  | with_reducible refine' dS_if ?_
  | with_reducible refine' dS_asg ?_
  | with_reducible refine' dS_par ?_
  | with_reducible refine' dG_name ?_
  | ((with_reducible refine' dG_tup ?dv ?_); (case dv => rfl); (dsimp only [List.map]))
  | with_reducible refine' dGs_cons ?_
  | with_reducible refine' dGs_nil ?_
  | with_reducible refine' dC_abs ?_
  | with_reducible refine' dC_max2 ?_
  | with_reducible refine' dC_min2 ?_
  | with_reducible refine' rtOf.of ?_
  | with_reducible refine' ex_cmp ?_
  | with_reducible refine' ex_bool ?_
  | with_reducible refine' ex_int ?_
  | with_reducible refine' ex_list ?_
  | with_reducible refine' ex_tup ?_
  | with_reducible refine' ex_d ?_
  | with_reducible refine' ex_m ?_
  | with_reducible refine' ex_par ?_
  | with_reducible refine' ex_rg1 ?_
  | with_reducible refine' ex_rg2 ?_
  | ((with_reducible refine' ex_dat ?dv ?dw ?_); (case dv => rfl); (case dw => exact Nat.le_of_ble_eq_true rfl))
  | ((fail_if_success (with_reducible show ∃ _, _)); (fail_if_success (with_reducible show _ ∧ _)); refine ⟨_, _, rfl, ?_⟩)
  | ((fail_if_success (with_reducible show ∃ _, _)); (fail_if_success (with_reducible show _ ∧ _)); refine ⟨_, rfl, ?_⟩)
  | fail)
local macro_rules | `(tactic| walk_at "d") => `(tactic| repeat' walk_at "d1")
local macro_rules | `(tactic| walk_at "e1") => `(tactic| first
  | ((with_reducible refine' dE_var ?dv ?_); (case dv => rfl))
  | with_reducible refine' dE_int ?_
  | with_reducible refine' dE_str ?_
  | with_reducible refine' dE_bl ?_
  | with_reducible refine' dE_non ?_
  | ((with_reducible refine' dE_nt ?dv ?_); (case dv => assumption))
  | with_reducible refine' dE_ref ?_
  | with_reducible refine' dE_op ?_
  | with_reducible refine' dE_un ?_
  | with_reducible refine' dE_cmp ?_
  | with_reducible refine' dE_isN ?_
  | with_reducible refine' dE_notN ?_
  | with_reducible refine' dE_call ?_
  | with_reducible refine' dE_cb ?_
  | with_reducible refine' dE_kw ?_
  | with_reducible refine' dE_tup ?_
  | with_reducible refine' dE_if ?_
  | with_reducible refine' dE_and ?_
  | with_reducible refine' dE_or ?_
  | with_reducible refine' dE_not ?_
  | with_reducible refine' dE_sl ?_
  | with_reducible refine' dO_none ?_
  | with_reducible refine' dO_some ?_
  | with_reducible refine' dA_cons ?_
  | with_reducible refine' dA_nil ?_
  | with_reducible refine' dT_B ?_
  | with_reducible refine' dT_test ?_
  | with_reducible refine' dT_and ?_
  | with_reducible refine' dT_or ?_
  | with_reducible refine' dT_not ?_
  | with_reducible refine' dT_yes ?_
  | with_reducible refine' dR_I0i ?_
  | with_reducible refine' dU_neg ?_
  | ((with_reducible refine' dR_ixT ?dv ?_); (case dv => rfl))
  | with_reducible refine' dS_next ?_
  | with_reducible refine' dS_ret ?_
  | with_reducible refine' dS_drop ?_
  | with_reducible refine' dS_if ?_
  | with_reducible refine' dS_asg ?_
  | with_reducible refine' dS_par ?_
  | with_reducible refine' dG_name ?_
  | ((with_reducible refine' dG_tup ?dv ?_); (case dv => rfl); (dsimp only [List.map]))
  | with_reducible refine' dGs_cons ?_
  | with_reducible refine' dGs_nil ?_
  | with_reducible refine' dC_abs ?_
  | with_reducible refine' dC_max2 ?_
  | with_reducible refine' dC_min2 ?_
  | with_reducible refine' rtOf.of ?_
  | with_reducible refine' ex_cmp ?_
  | with_reducible refine' ex_bool ?_
  | with_reducible refine' ex_int ?_
  | with_reducible refine' ex_list ?_
  | with_reducible refine' ex_tup ?_
  | with_reducible refine' ex_d ?_
  | with_reducible refine' ex_m ?_
  | with_reducible refine' ex_par ?_
  | with_reducible refine' ex_rg1 ?_
  | with_reducible refine' ex_rg2 ?_
  | ((with_reducible refine' ex_dat ?dv ?dw ?_); (case dv => rfl); (case dw => exact Nat.le_of_ble_eq_true rfl))
  | ((fail_if_success (with_reducible show ∃ _, _)); (fail_if_success (with_reducible show _ ∧ _)); refine ⟨_, _, rfl, ?_⟩)
  | ((fail_if_success (with_reducible show ∃ _, _)); (fail_if_success (with_reducible show _ ∧ _)); refine ⟨_, rfl, ?_⟩)
  | fail)
local macro_rules | `(tactic| walk_at "e") => `(tactic| repeat' walk_at "e1")

abbrev prD (p : Pr) : PyData := .tuple [.int p.1, .int p.2]
def le2 (x y : Pr) : Bool := decide (x.1 < y.1 ∨ (x.1 = y.1 ∧ x.2 ≤ y.2))
theorem le2_sorted (ps : List Pr) : (ps.mergeSort le2).Pairwise fun x y => x.1 ≤ y.1 := by
  have h := List.pairwise_mergeSort (le := le2) (fun a b c h1 h2 => decide_eq_true (by have := of_decide_eq_true h1; have := of_decide_eq_true h2; omega)) (fun a b => by
    unfold le2; simp only [Bool.or_eq_true, decide_eq_true_eq]; omega) ps
  exact h.imp fun h => by have := of_decide_eq_true h; omega
theorem rows_sorted (ps : List Pr) : ((ps.map prD).mergeSort (PySem.W.dataLe false id)) = (ps.mergeSort le2).map prD :=
  (List.map_mergeSort (r := le2) (s := PySem.W.dataLe false id) (f := prD) (fun a _ b _ => (congrFun (congrFun (PySem.W.dataLe_ii (β := Pr) Prod.fst Prod.snd) a) b).symm)).symm
theorem atI_neg1 {α : Type} {xs : List α} {x : α} (h : xs ≠ []) (e : xs[xs.length - 1]? = some x) : atI xs (-1) = some x := by
  have hl : 0 < xs.length := List.length_pos_iff.mpr h
  unfold atI ixN
  rw [if_neg (by decide), if_pos (by omega)]
  show xs[(-1 + (xs.length : Int)).toNat]? = some x
  rw [show (-1 + (xs.length : Int)).toNat = xs.length - 1 by omega]
  exact e
theorem fr_int {a : Int} (h : 0 ≤ a) (hs : Sz 40 a) : Fr 3000 (a, 1) := ⟨⟨h, (by decide : (0 : Int) < 1), Int.gcd_one_right ..⟩, hs.up (by decide), Sz.up (m := 1) (show (1 : Int).natAbs < 2 ^ 1 by decide) (by decide)⟩
theorem szsum {α : Type} (g : α → Int) (n : Nat) : ∀ (xs : List α), (∀ x ∈ xs, 0 ≤ g x ∧ Sz n (g x)) → ∀ j, 0 ≤ ((xs.take j).map g).sum ∧ Sz (n + j) ((xs.take j).map g).sum
  | [], _, j => by simp; exact Nat.pow_pos (by decide)
  | x :: xs, h, 0 => by simp; exact Nat.pow_pos (by decide)
  | x :: xs, h, j + 1 => by
    obtain ⟨h1, h2⟩ := szsum g n xs (fun y hy => h y (List.mem_cons_of_mem _ hy)) j
    obtain ⟨h3, h4⟩ := h x List.mem_cons_self
    rw [List.take_succ_cons, List.map_cons, List.sum_cons]
    exact ⟨by omega, (Sz.add (h4.up (Nat.le_add_right n j)) h2).up (by omega)⟩
section
variable {P : Program} {w : World} {K : PySem.W.Frag} {mg : Str → Option Value} {base : Heap} {f : Addr} {fd : FuncData}
def S_lsunk : SpD := fun rs M P => ∃ (ro : List Rope) (q : Q), rs = [.d (ld ro), .d (fr q)] ∧ BOk ro ∧ LOk q ∧ P (.d (opt (sunkOf ro q.1 q.2))) M
end
end K2

namespace K2
open PySem L2 Sd Ma
theorem low_plus {X Y s : Int} (hX : 0 ≤ X) (hY : 0 ≤ Y) (hs : 0 < s) : plus (low X s) (low Y s) = low (X + Y) s := by
  have rx := low_red hX hs
  have ry := low_red hY hs
  have ex := low_eq (t := X) hs
  have ey := low_eq (t := Y) hs
  refine (low_unique (show 0 ≤ X + Y by omega) hs (plus_red rx ry) ?_).symm
  have ez := low_eq (t := (low X s).1 * (low Y s).2 + (low Y s).1 * (low X s).2) (Int.mul_pos rx.q0 ry.q0)
  show (X + Y) * (plus (low X s) (low Y s)).2 = (plus (low X s) (low Y s)).1 * s
  unfold plus
  generalize low ((low X s).1 * (low Y s).2 + (low Y s).1 * (low X s).2) ((low X s).2 * (low Y s).2) = z at *
  have hpos : (low X s).2 * (low Y s).2 ≠ 0 := Int.ne_of_gt (Int.mul_pos rx.q0 ry.q0)
  generalize low X s = x at *
  generalize low Y s = y at *
  refine Int.eq_of_mul_eq_mul_right hpos ?_
  have h1 : (X + Y) * z.2 * (x.2 * y.2) = (X * x.2 * y.2 + Y * y.2 * x.2) * z.2 := by grind
  have h2 : z.1 * s * (x.2 * y.2) = z.1 * (x.2 * y.2) * s := by grind
  rw [h1, h2, ← ez, ex, ey]
  grind
theorem pull_low {r : Rope} {q : Q} (hb : 0 < r.b) (hq : 0 < q.2) : pullOf r q = low (f1 q (pr r)) q.2 := by
  unfold pullOf f1
  by_cases h : r.a * q.2 < q.1
  · rw [if_pos h]
    show _ = low (r.b * max 0 (q.1 - r.a * q.2)) q.2
    rw [show max 0 (q.1 - r.a * q.2) = q.1 - r.a * q.2 by omega]
  · rw [if_neg h]
    show _ = low (r.b * max 0 (q.1 - r.a * q.2)) q.2
    rw [show max 0 (q.1 - r.a * q.2) = 0 by omega, Int.mul_zero, low_zero hq]
theorem sunk_F {rs : List Rope} {t b : Int} {q : Q} (hp : Ma.Pos rs) (ht : 0 ≤ t) (hb : 0 < b) (e : sunkOf rs t b = some q) : F q (rs.map pr) * b = t * q.2 := by
  by_cases h : t = 0
  · subst h
    unfold sunkOf at e
    rw [if_pos rfl] at e
    cases e
    rw [F_zero fun p hpp => by have := hp.pa p hpp; show (0 : Int) ≤ p.1 * 1; omega]
    omega
  · cases rs with
    | nil => rw [sunk_none, if_neg h] at e; cases e
    | cons r rs =>
      obtain ⟨q', h1, h2⟩ := sunk_sol (t := t) (b := b) (List.cons_ne_nil r rs) hp (by omega) hb
      rw [h1] at e
      cases e
      exact h2.eq
theorem asc_lay {x : Str} (h : ∀ c ∈ x.cps.toList, c < 128) : PyData.canLay0 (.str x) = true := by
  rw [PyData.canLay0]
  show x.cps.all (fun c => decide (c < 0x110000)) = true
  rw [Array.all_eq_true_iff_forall_mem]
  intro c hc
  have := h c (Array.mem_toList_iff.mpr hc)
  exact decide_eq_true (by omega)
theorem bun_lay {ro : List Rope} (h : Bun ro) : ∀ r ∈ ro, PyData.canLay0 (.str r.n) = true := fun r hr => asc_lay (h.asc r hr).2
/-- what the waves ask of a bundle -/
structure Bw (ro : List Rope) : Prop where
  ok : BOk ro
  lay : ∀ r ∈ ro, PyData.canLay0 (.str r.n) = true
theorem Bun.bw {ro : List Rope} (h : Bun ro) : Bw ro := ⟨h.ok, bun_lay h⟩
theorem Fsz {q : Q} (hq : QOk q) : ∀ {rs : List Rope}, (∀ r ∈ rs, r.Ok) → 0 ≤ F q (rs.map pr) ∧ Sz (700 + rs.length) (F q (rs.map pr))
  | [], _ => ⟨Int.le_refl 0, Nat.pow_pos (by decide)⟩
  | r :: rs, h => by
    obtain ⟨h1, h2⟩ := Fsz hq (rs := rs) fun x hx => h x (List.mem_cons_of_mem _ hx)
    have rk := h r List.mem_cons_self
    rw [List.map_cons, F_cons, List.length_cons]
    have n1 : 0 ≤ f1 q (pr r) := f1_nn rk.b0
    have z1 : Sz 641 (q.1 - r.a * q.2) := Sz.sub (hq.s1.up (show 600 ≤ 640 by decide)) (rk.aS.mul hq.s2)
    have z2 : Sz 641 (max 0 (q.1 - r.a * q.2)) := by
      by_cases h : 0 ≤ q.1 - r.a * q.2
      · rw [show max 0 (q.1 - r.a * q.2) = q.1 - r.a * q.2 by omega]; exact z1
      · rw [show max 0 (q.1 - r.a * q.2) = 0 by omega]; exact Nat.pow_pos (by decide)
    have z3 : Sz 700 (f1 q (pr r)) := (rk.bS.mul z2).up (by decide)
    exact ⟨by omega, ((z3.up (by omega)).add h2).up (by omega)⟩
theorem load_ok {q : Q} (h : Red q) (h1 : q.1 ≤ 3000000) (h2 : q.2 ≤ 6) : LOk q := ⟨h, (sz_lt (n := 30) h.p0 (by omega)).up (by decide), (sz_lt (n := 30) (Int.le_of_lt h.q0) (by omega)).up (by decide)⟩
theorem msub_bs {M M' M'' : Mem} {b : Addr} (h : MSub M M') (hb : M b = none) (k : BS M' b M'') : MSub M M'' := by
  obtain ⟨ds, _, rfl⟩ := k
  exact msub_set h hb
def S_law : SpD := fun rs M P => ∃ ns : List Int, rs = [.l ns] ∧ ns.length ≤ 63 ∧ P (.d (.bool true)) M
end K2

namespace K2
open PySem L2 Sd Ma
local macro_rules | `(tactic| walk_at "d1") => `(tactic| first
  | ((with_reducible refine' dE_var ?dv ?_); (case dv => rfl))
  | with_reducible refine' dE_int ?_
  | with_reducible refine' dE_str ?_
  | with_reducible refine' dE_bl ?_
  | with_reducible refine' dE_non ?_
  | ((with_reducible refine' dE_nt ?dv ?_); (case dv => assumption))
  | with_reducible refine' dE_ref ?_
  | with_reducible refine' dE_op ?_
  | with_reducible refine' dE_un ?_
  | with_reducible refine' dE_cmp ?_
  | with_reducible refine' dE_isN ?_
  | with_reducible refine' dE_notN ?_
  | with_reducible refine' dE_call ?_
  | with_reducible refine' dE_cb ?_
  | with_reducible refine' dE_kw ?_
  | with_reducible refine' dE_tup ?_
  | with_reducible refine' dE_if ?_
  | with_reducible refine' dE_and ?_
  | with_reducible refine' dE_or ?_
  | with_reducible refine' dE_not ?_
  | with_reducible refine' dE_sl ?_
  | with_reducible refine' dO_none ?_
  | with_reducible refine' dO_some ?_
  | with_reducible refine' dA_cons ?_
  | with_reducible refine' dA_nil ?_
  | with_reducible refine' dT_B ?_
  | with_reducible refine' dT_test ?_
  | with_reducible refine' dT_and ?_
  | with_reducible refine' dT_or ?_
  | with_reducible refine' dT_not ?_
  | with_reducible refine' dT_yes ?_
  | with_reducible refine' dR_I0i ?_
  | with_reducible refine' dU_neg ?_
  | ((with_reducible refine' dR_ixT ?dv ?_); (case dv => rfl))
  | with_reducible refine' dS_seq ?_
  | with_reducible refine' dS_next ?_
  | with_reducible refine' dS_ret ?_
  | with_reducible refine' dS_drop ?_
  | with_reducible refine' dS_if ?_
  | with_reducible refine' dS_asg ?_
  | with_reducible refine' dS_par ?_
  | with_reducible refine' dG_name ?_
  | ((with_reducible refine' dG_tup ?dv ?_); (case dv => rfl); (dsimp only [List.map]))
  | with_reducible refine' dGs_cons ?_
  | with_reducible refine' dGs_nil ?_
  | with_reducible refine' dC_abs ?_
  | with_reducible refine' dC_max2 ?_
  | with_reducible refine' dC_min2 ?_
  | with_reducible refine' rtOf.of ?_
  | with_reducible refine' ex_cmp ?_
  | with_reducible refine' ex_bool ?_
  | with_reducible refine' ex_int ?_
  | with_reducible refine' ex_list ?_
  | with_reducible refine' ex_tup ?_
  | with_reducible refine' ex_d ?_
  | with_reducible refine' ex_m ?_
  | with_reducible refine' ex_par ?_
  | with_reducible refine' ex_rg1 ?_
  | with_reducible refine' ex_rg2 ?_
  | ((with_reducible refine' ex_dat ?dv ?dw ?_); (case dv => rfl); (case dw => exact Nat.le_of_ble_eq_true rfl))
  | ((fail_if_success (with_reducible show ∃ _, _)); (fail_if_success (with_reducible show _ ∧ _)); refine ⟨_, _, rfl, ?_⟩)
  | ((fail_if_success (with_reducible show ∃ _, _)); (fail_if_success (with_reducible show _ ∧ _)); refine ⟨_, rfl, ?_⟩)
  | fail)
local macro_rules | `(tactic| walk_at "d") => `(tactic| repeat' walk_at "d1")
local macro_rules | `(tactic| walk_at "e1") => `(tactic| first
  | ((with_reducible refine' dE_var ?dv ?_); (case dv => rfl))
  | with_reducible refine' dE_int ?_
  | with_reducible refine' dE_str ?_
  | with_reducible refine' dE_bl ?_
  | with_reducible refine' dE_non ?_
  | ((with_reducible refine' dE_nt ?dv ?_); (case dv => assumption))
  | with_reducible refine' dE_ref ?_
  | with_reducible refine' dE_op ?_
  | with_reducible refine' dE_un ?_
  | with_reducible refine' dE_cmp ?_
  | with_reducible refine' dE_isN ?_
  | with_reducible refine' dE_notN ?_
  | with_reducible refine' dE_call ?_
  | with_reducible refine' dE_cb ?_
  | with_reducible refine' dE_kw ?_
  | with_reducible refine' dE_tup ?_
  | with_reducible refine' dE_if ?_
  | with_reducible refine' dE_and ?_
  | with_reducible refine' dE_or ?_
  | with_reducible refine' dE_not ?_
  | with_reducible refine' dE_sl ?_
  | with_reducible refine' dO_none ?_
  | with_reducible refine' dO_some ?_
  | with_reducible refine' dA_cons ?_
  | with_reducible refine' dA_nil ?_
  | with_reducible refine' dT_B ?_
  | with_reducible refine' dT_test ?_
  | with_reducible refine' dT_and ?_
  | with_reducible refine' dT_or ?_
  | with_reducible refine' dT_not ?_
  | with_reducible refine' dT_yes ?_
  | with_reducible refine' dR_I0i ?_
  | with_reducible refine' dU_neg ?_
  | ((with_reducible refine' dR_ixT ?dv ?_); (case dv => rfl))
  | with_reducible refine' dS_next ?_
  | with_reducible refine' dS_ret ?_
  | with_reducible refine' dS_drop ?_
  | with_reducible refine' dS_if ?_
  | with_reducible refine' dS_asg ?_
  | with_reducible refine' dS_par ?_
  | with_reducible refine' dG_name ?_
  | ((with_reducible refine' dG_tup ?dv ?_); (case dv => rfl); (dsimp only [List.map]))
  | with_reducible refine' dGs_cons ?_
  | with_reducible refine' dGs_nil ?_
  | with_reducible refine' dC_abs ?_
  | with_reducible refine' dC_max2 ?_
  | with_reducible refine' dC_min2 ?_
  | with_reducible refine' rtOf.of ?_
  | with_reducible refine' ex_cmp ?_
  | with_reducible refine' ex_bool ?_
  | with_reducible refine' ex_int ?_
  | with_reducible refine' ex_list ?_
  | with_reducible refine' ex_tup ?_
  | with_reducible refine' ex_d ?_
  | with_reducible refine' ex_m ?_
  | with_reducible refine' ex_par ?_
  | with_reducible refine' ex_rg1 ?_
  | with_reducible refine' ex_rg2 ?_
  | ((with_reducible refine' ex_dat ?dv ?dw ?_); (case dv => rfl); (case dw => exact Nat.le_of_ble_eq_true rfl))
  | ((fail_if_success (with_reducible show ∃ _, _)); (fail_if_success (with_reducible show _ ∧ _)); refine ⟨_, _, rfl, ?_⟩)
  | ((fail_if_success (with_reducible show ∃ _, _)); (fail_if_success (with_reducible show _ ∧ _)); refine ⟨_, rfl, ?_⟩)
  | fail)
local macro_rules | `(tactic| walk_at "e") => `(tactic| repeat' walk_at "e1")

/-! ### waves -/
def tooMuch (sq : Q) (r : Rope) : Bool := decide (r.c * (pullOf r sq).2 < (pullOf r sq).1)
def gwOf (lo : List Rope) (q : Q) : List Str := match sunkOf lo q.1 q.2 with
  | none => []
  | some sq => (lo.filter (tooMuch sq)).map Rope.n
theorem gw_sub {lo : List Rope} {q : Q} : (gwOf lo q).Sublist (lo.map Rope.n) := by
  unfold gwOf
  split
  · exact List.nil_sublist _
  · exact List.filter_sublist.map _
theorem left_short {lo : List Rope} {ns : List Str} (h : ns ≠ []) (hs : ns.Sublist (lo.map Rope.n)) : (leftOf lo ns).length < lo.length := by
  obtain ⟨x, r, rfl⟩ : ∃ x r, ns = x :: r := by
    cases ns with
    | nil => exact absurd rfl h
    | cons x r => exact ⟨x, r, rfl⟩
  have hx : x ∈ lo.map Rope.n := hs.subset List.mem_cons_self
  obtain ⟨y, hy, rfl⟩ := List.mem_map.mp hx
  unfold leftOf
  exact List.length_filter_lt_length_iff_exists.mpr ⟨y, hy, by simp⟩
def wvN (q : Q) : Nat → List Rope → List (List Str)
  | 0, _ => []
  | n + 1, lo => if gwOf lo q = [] then [] else gwOf lo q :: wvN q n (leftOf lo (gwOf lo q))
def wavesOf (lo : List Rope) (q : Q) : List (List Str) := wvN q lo.length lo
theorem gw_nil {q : Q} : gwOf [] q = [] := by
  unfold gwOf
  split <;> rfl
theorem wvN_fuel {q : Q} : ∀ (n m : Nat) (lo : List Rope), lo.length ≤ n → lo.length ≤ m → wvN q n lo = wvN q m lo
  | 0, m, lo, h, _ => by
    have : lo = [] := List.length_eq_zero_iff.mp (by omega)
    subst this
    cases m with
    | zero => rfl
    | succ m => show _ = (if gwOf [] q = [] then [] else _); rw [if_pos gw_nil]; rfl
  | n + 1, 0, lo, _, h => by
    have : lo = [] := List.length_eq_zero_iff.mp (by omega)
    subst this
    show (if gwOf [] q = [] then [] else _) = _
    rw [if_pos gw_nil]; rfl
  | n + 1, m + 1, lo, h1, h2 => by
    show (if gwOf lo q = [] then [] else _) = (if gwOf lo q = [] then [] else _)
    by_cases hg : gwOf lo q = []
    · rw [if_pos hg, if_pos hg]
    · rw [if_neg hg, if_neg hg, wvN_fuel n m _ (by have := left_short hg gw_sub; omega) (by have := left_short hg gw_sub; omega)]
theorem waves_end {lo : List Rope} {q : Q} (h : gwOf lo q = []) : wavesOf lo q = [] := by
  unfold wavesOf
  cases e : lo.length with
  | zero => rfl
  | succ n => show (if gwOf lo q = [] then [] else _) = _; rw [if_pos h]
theorem waves_step {lo : List Rope} {q : Q} (h : gwOf lo q ≠ []) : wavesOf lo q = gwOf lo q :: wavesOf (leftOf lo (gwOf lo q)) q := by
  have hs := left_short h gw_sub
  unfold wavesOf
  cases e : lo.length with
  | zero => omega
  | succ n =>
    show (if gwOf lo q = [] then [] else _) = _
    rw [if_neg h, wvN_fuel n (leftOf lo (gwOf lo q)).length _ (by omega) (Nat.le_refl _)]
theorem left_left {ro : List Rope} {a b : List Str} : leftOf (leftOf ro a) b = leftOf ro (a ++ b) := by
  unfold leftOf
  rw [List.filter_filter]
  congr 1
  funext r
  cases h1 : a.contains r.n <;> cases h2 : b.contains r.n <;> simp_all
/-! ### names in order -/
def leN (x y : Str) : Bool := PySem.W.dataLe false id (.str x) (.str y)
def sortN (ns : List Str) : List Str := ns.mergeSort leN
theorem sortN_dat (ns : List Str) : (ns.map PyData.str).mergeSort (PySem.W.dataLe false id) = (sortN ns).map PyData.str :=
  (List.map_mergeSort (r := leN) (s := PySem.W.dataLe false id) (f := PyData.str) (fun a _ b _ => rfl)).symm
/-- what is broken behind the waves -/
def brOf (ro : List Rope) (ns : List Str) (q : Q) : List Str := sortN (ns ++ (wavesOf (leftOf ro ns) q).flatten)
def bearsOf (ro : List Rope) (ns : List Str) (q : Q) : Bool := if q.1 = 0 then true else decide ((brOf ro ns q).length < ro.length)
def byL (ro : List Rope) : List Str → List Q → List PyData
  | _, [] => []
  | ns, q :: qs => .tuple [nm (brOf ro ns q), opt (sunkOf (leftOf ro (brOf ro ns q)) q.1 q.2)] :: byL ro (brOf ro ns q) qs
section
variable {P : Program} {w : World} {K : PySem.W.Frag} {mg : Str → Option Value} {base : Heap} {f : Addr} {fd : FuncData}
def S_leftL : SpD := fun rs M P => ∃ (ro : List Rope) (ns : List Str), rs = [.d (ld ro), .d (nm ns)] ∧ ro.length ≤ 100 ∧ P (.d (ld (leftOf ro ns))) M
def S_tm : SpD := fun rs M P => ∃ (r : Rope) (q : Q), rs = [.d r.d, .d (fr q)] ∧ r.Ok ∧ Sz 3000 q.2 ∧ P (.d (.bool (decide (r.c * q.2 < q.1)))) M
def S_gw : SpD := fun rs M P => ∃ (lo : List Rope) (q : Q), rs = [.d (ld lo), .d (fr q)] ∧ BOk lo ∧ LOk q ∧ P (.d (nm (gwOf lo q))) M
def S_waves : SpD := fun rs M P => ∃ (ro : List Rope) (ns : List Str) (q : Q), rs = [.d (bd ro), .d (nm ns), .d (fr q)] ∧ BOk ro ∧ LOk q ∧ P (.d (.list ((wavesOf (leftOf ro ns) q).map nm))) M
def S_broken : SpD := fun rs M P => ∃ (ro : List Rope) (ns : List Str) (q : Q), rs = [.d (bd ro), .d (nm ns), .d (fr q)] ∧ BOk ro ∧ ns.length ≤ 100 ∧ LOk q ∧ P (.d (nm (brOf ro ns q))) M
theorem ok_ropes_leftL (F : Fun K "ropes_left" "ropes_left" s_ropes_left f fd) : FnOk P w K mg base CX0 1 f fd ["bundle", "broken"] (spOf K S_leftL) := by
  refine ok_of F sc_ropes_left (fun rs M P h => by obtain ⟨a, b, rfl, _⟩ := h; rfl) fun cdv A outer s H E hr => ⟨_, (pss_one (ps_ret (pe_lc (own := [("rope", 2)]) (by rfl) sc_ropes_left.nd (kpi_list K (pv 0)) (blkOk_by (N := ["bundle", "broken", "rope"]) (sc := defScope s_ropes_left) (own := [("rope", 2)]) (by decide +kernel)) (fun _ _ _ _ _ => (pg_name (i := 2) sc_ropes_left.nd rfl (Or.inl rfl))) (fun _ _ _ _ _ => (pts_one (pt_cmpR (kop_notIn K) (pe_ix (kix_tup K) (pv 2) pe_int (fun _ _ => rfl)) (pv 1) (by rfl)))) (fun _ _ _ _ _ => (pv 2))))), fun rs M P h => ?_⟩
  obtain ⟨ro, ns, rfl, hl, p⟩ := h
  walk_at "d"
  refine dE_lcLf (enc := Rope.d) (out := Rope.d) (pt := fun r => !ns.contains r.n) (xs := ro) ?_
  walk_at "d"
  refine ⟨rfl, rfl, by omega, fun r hr => ?_, fun r hr h => ?_, .inl (rtOf.of p)⟩
  · walk_at "d"
    refine dR_no (ns := ns) (.inr (.inl rfl)) ?_
    walk_at "d"
    exact ⟨rfl, rfl⟩
  · walk_at "d"
    exact ⟨rfl, rfl⟩
abbrev s_is_too_much : Stmt := topS 39
theorem sc_is_too_much : FnScope ["rope", "pull"] ["rope", "pull"] (defScope s_is_too_much) := ⟨rfl, rfl, rfl, by decide +kernel, rfl, by decide +kernel, by decide +kernel⟩
theorem ok_is_too_much (F : Fun K "is_too_much" "is_too_much" s_is_too_much f fd) : FnOk P w K mg base CX0 1 f fd ["rope", "pull"] (spOf K S_tm) := by
  refine ok_of F sc_is_too_much (fun rs M P h => by obtain ⟨a, b, rfl, _⟩ := h; rfl) fun cdv A outer s H E hr => ⟨_, (pss_one (ps_ret (pe_cmp (pc_gt (pe_ix (kix_tup K) (pv 1) pe_int (fun _ _ => rfl)) (pe_op op_mulW (pe_ix (kix_tup K) (pv 0) pe_int (fun _ _ => rfl)) (pe_ix (kix_tup K) (pv 1) pe_int (fun _ _ => rfl))))))), fun rs M P h => ?_⟩
  obtain ⟨r, q, rfl, h1, h2, p⟩ := h
  walk_at "d"
  refine dR_Ii (h1.cS.mulOk h2 (by decide) (by decide) (by decide)) ?_
  walk_at "d"
  exact p
/-- sizes of pulls -/
theorem pull_sz {r : Rope} {q : Q} (hr : r.Ok) (hq : QOk q) : Fr 3000 (pullOf r q) := by
  rw [pull_low hr.b0 hq.q0]
  have n1 : 0 ≤ f1 q (pr r) := f1_nn hr.b0
  obtain ⟨_, gS⟩ := Fsz hq (rs := [r]) fun z hz => by rw [List.mem_singleton.mp hz]; exact hr
  rw [List.map_cons, List.map_nil, F_cons, F_nil, Int.add_zero] at gS
  exact ⟨low_red n1 hq.q0, (gS.le (low_red n1 hq.q0).p0 (low_le n1 hq.q0).1).up (by simp), (hq.s2.le (Int.le_of_lt (low_red n1 hq.q0).q0) (low_le n1 hq.q0).2).up (by decide)⟩
abbrev s_giving_way : Stmt := topS 38
theorem sc_giving_way : FnScope ["left", "load", "sunk", "rope"] ["left", "load"] (defScope s_giving_way) := ⟨rfl, rfl, rfl, by decide +kernel, rfl, by decide +kernel, by decide +kernel⟩
theorem ok_giving_way (T : Txt mg) (F : Fun K "giving_way" "giving_way" s_giving_way f fd) (c_sunk_by : Has P w K mg base 4 "sunk_by" ["left", "load"] S_sunk) (c_pull_at : Has P w K mg base 3 "pull_at" ["rope", "sunk"] S_pull) (c_is_too_much : Has P w K mg base 1 "is_too_much" ["rope", "pull"] S_tm) : FnOk P w K mg base CX0 5 f fd ["left", "load"] (spOf K S_gw) := by
  refine ok_of F sc_giving_way (fun rs M P h => by obtain ⟨a, b, rfl, _⟩ := h; rfl) fun cdv A outer s H E hr => ⟨_, (pss_cons (ps_if (pt_not (kpt_truth K (pv 0))) (pss_one (ps_ret (pe_tup pa_nil))) pss_nil)
      (pss_cons (ps_set (i := 2) sc_giving_way.nd rfl (Or.inr rfl) (pe_callH' c_sunk_by (hr.mono (by first | decide | omega)) rfl (pa_cons (pv 0) (pa_cons (pv 1) pa_nil))))
      (pss_one (ps_ret (pe_callTy (kcall_tuple K) (by rfl) T.tuple (by decide +kernel) (pa_cons (pe_lc (own := [("rope", 3)]) (by rfl) sc_giving_way.nd (kpi_list K (pv 0)) (blkOk_by (N := ["left", "load", "sunk", "rope"]) (sc := defScope s_giving_way) (own := [("rope", 3)]) (by decide +kernel)) (fun _ _ _ _ _ => (pg_name (i := 3) sc_giving_way.nd rfl (Or.inl rfl))) (fun _ _ _ _ _ => (pts_one (pt_val (pe_callH' c_is_too_much (hr.mono (by first | decide | omega)) rfl (pa_cons (pv 3) (pa_cons (pe_callH' c_pull_at (hr.mono (by first | decide | omega)) rfl (pa_cons (pv 3) (pa_cons (pv 2) pa_nil))) pa_nil)))))) (fun _ _ _ _ _ => (pe_ix (kix_tup K) (pv 3) pe_int (fun _ _ => rfl)))) pa_nil)))))), fun rs M P h => ?_⟩
  obtain ⟨lo, q, rfl, hB, hL, p⟩ := h
  walk_at "d"
  refine dT_tru ?_
  walk_at "d"
  refine ⟨_, .inl rfl, ?_⟩
  by_cases hlo : lo = []
  · subst hlo
    refine ifT rfl ?_
    walk_at "d"
    rw [gw_nil] at p
    exact p
  · obtain ⟨sq, hsq⟩ := sunk_some (ro := lo) (t := q.1) (b := q.2) hlo
    have hq := sunk_ok hB.len hB.ok hL.p0 hL.q0 hL.s1 hL.s2 hsq
    refine ifF (by cases lo with
      | nil => exact absurd rfl hlo
      | cons a b => rfl) ?_
    walk_at "d"
    refine ⟨lo, q.1, q.2, rfl, hB.len, hB.ok, hL.p0, hL.q0, hL.s1, hL.s2, ?_⟩
    rw [hsq]
    unfold gwOf at p
    rw [hsq] at p
    walk_at "d"
    refine dE_lcLf (enc := Rope.d) (out := fun r => .str r.n) (pt := tooMuch sq) (xs := lo) ?_
    walk_at "d"
    refine ⟨rfl, rfl, by have := hB.len; omega, fun r hr => ?_, fun r hr h => ?_, .inl ?_⟩
    · have hr' := hB.ok r hr
      walk_at "d"
      refine ⟨hr', hq.q0, hq.s1.up (by decide), hq.s2.up (by decide), ?_⟩
      walk_at "d"
      refine ⟨hr', (pull_sz hr' hq).s2, ?_⟩
      walk_at "d"
      exact ⟨rfl, rfl⟩
    · walk_at "d"
      exact ⟨rfl, rfl⟩
    · walk_at "d"
      refine dC_tuple (.inl rfl) (rtOf.of ?_)
      rw [show (lo.filter (tooMuch sq)).map (fun r => PyData.str r.n) = ((lo.filter (tooMuch sq)).map Rope.n).map PyData.str by rw [List.map_map]; rfl]
      exact p
end
end K2

namespace K2
open PySem L2 Sd Ma
local macro_rules | `(tactic| walk_at "d1") => `(tactic| first
  | ((with_reducible refine' dE_var ?dv ?_); (case dv => rfl))
  | with_reducible refine' dE_int ?_
  | with_reducible refine' dE_str ?_
  | with_reducible refine' dE_bl ?_
  | with_reducible refine' dE_non ?_
  | ((with_reducible refine' dE_nt ?dv ?_); (case dv => assumption))
  | with_reducible refine' dE_ref ?_
  | with_reducible refine' dE_op ?_
  | with_reducible refine' dE_un ?_
  | with_reducible refine' dE_cmp ?_
  | with_reducible refine' dE_isN ?_
  | with_reducible refine' dE_notN ?_
  | with_reducible refine' dE_call ?_
  | with_reducible refine' dE_cb ?_
  | with_reducible refine' dE_kw ?_
  | with_reducible refine' dE_tup ?_
  | with_reducible refine' dE_if ?_
  | with_reducible refine' dE_and ?_
  | with_reducible refine' dE_or ?_
  | with_reducible refine' dE_not ?_
  | with_reducible refine' dE_sl ?_
  | with_reducible refine' dO_none ?_
  | with_reducible refine' dO_some ?_
  | with_reducible refine' dA_cons ?_
  | with_reducible refine' dA_nil ?_
  | with_reducible refine' dT_B ?_
  | with_reducible refine' dT_test ?_
  | with_reducible refine' dT_and ?_
  | with_reducible refine' dT_or ?_
  | with_reducible refine' dT_not ?_
  | with_reducible refine' dT_yes ?_
  | with_reducible refine' dR_I0i ?_
  | with_reducible refine' dU_neg ?_
  | ((with_reducible refine' dR_ixT ?dv ?_); (case dv => rfl))
  | with_reducible refine' dS_seq ?_
  | with_reducible refine' dS_next ?_
  | with_reducible refine' dS_ret ?_
  | with_reducible refine' dS_drop ?_
  | with_reducible refine' dS_if ?_
  | with_reducible refine' dS_asg ?_
  | with_reducible refine' dS_par ?_
  | with_reducible refine' dG_name ?_
  | ((with_reducible refine' dG_tup ?dv ?_); (case dv => rfl); (dsimp only [List.map]))
  | with_reducible refine' dGs_cons ?_
  | with_reducible refine' dGs_nil ?_
  | with_reducible refine' dC_abs ?_
  | with_reducible refine' dC_max2 ?_
  | with_reducible refine' dC_min2 ?_
  | with_reducible refine' rtOf.of ?_
  | with_reducible refine' ex_cmp ?_
  | with_reducible refine' ex_bool ?_
  | with_reducible refine' ex_int ?_
  | with_reducible refine' ex_list ?_
  | with_reducible refine' ex_tup ?_
  | with_reducible refine' ex_d ?_
  | with_reducible refine' ex_m ?_
  | with_reducible refine' ex_par ?_
  | with_reducible refine' ex_rg1 ?_
  | with_reducible refine' ex_rg2 ?_
  | ((with_reducible refine' ex_dat ?dv ?dw ?_); (case dv => rfl); (case dw => exact Nat.le_of_ble_eq_true rfl))
  | ((fail_if_success (with_reducible show ∃ _, _)); (fail_if_success (with_reducible show _ ∧ _)); refine ⟨_, _, rfl, ?_⟩)
  | ((fail_if_success (with_reducible show ∃ _, _)); (fail_if_success (with_reducible show _ ∧ _)); refine ⟨_, rfl, ?_⟩)
  | fail)
local macro_rules | `(tactic| walk_at "d") => `(tactic| repeat' walk_at "d1")
local macro_rules | `(tactic| walk_at "e1") => `(tactic| first
  | ((with_reducible refine' dE_var ?dv ?_); (case dv => rfl))
  | with_reducible refine' dE_int ?_
  | with_reducible refine' dE_str ?_
  | with_reducible refine' dE_bl ?_
  | with_reducible refine' dE_non ?_
  | ((with_reducible refine' dE_nt ?dv ?_); (case dv => assumption))
  | with_reducible refine' dE_ref ?_
  | with_reducible refine' dE_op ?_
  | with_reducible refine' dE_un ?_
  | with_reducible refine' dE_cmp ?_
  | with_reducible refine' dE_isN ?_
  | with_reducible refine' dE_notN ?_
  | with_reducible refine' dE_call ?_
  | with_reducible refine' dE_cb ?_
  | with_reducible refine' dE_kw ?_
  | with_reducible refine' dE_tup ?_
  | with_reducible refine' dE_if ?_
  | with_reducible refine' dE_and ?_
  | with_reducible refine' dE_or ?_
  | with_reducible refine' dE_not ?_
  | with_reducible refine' dE_sl ?_
  | with_reducible refine' dO_none ?_
  | with_reducible refine' dO_some ?_
  | with_reducible refine' dA_cons ?_
  | with_reducible refine' dA_nil ?_
  | with_reducible refine' dT_B ?_
  | with_reducible refine' dT_test ?_
  | with_reducible refine' dT_and ?_
  | with_reducible refine' dT_or ?_
  | with_reducible refine' dT_not ?_
  | with_reducible refine' dT_yes ?_
  | with_reducible refine' dR_I0i ?_
  | with_reducible refine' dU_neg ?_
  | ((with_reducible refine' dR_ixT ?dv ?_); (case dv => rfl))
  | with_reducible refine' dS_next ?_
  | with_reducible refine' dS_ret ?_
  | with_reducible refine' dS_drop ?_
  | with_reducible refine' dS_if ?_
  | with_reducible refine' dS_asg ?_
  | with_reducible refine' dS_par ?_
  | with_reducible refine' dG_name ?_
  | ((with_reducible refine' dG_tup ?dv ?_); (case dv => rfl); (dsimp only [List.map]))
  | with_reducible refine' dGs_cons ?_
  | with_reducible refine' dGs_nil ?_
  | with_reducible refine' dC_abs ?_
  | with_reducible refine' dC_max2 ?_
  | with_reducible refine' dC_min2 ?_
  | with_reducible refine' rtOf.of ?_
  | with_reducible refine' ex_cmp ?_
  | with_reducible refine' ex_bool ?_
  | with_reducible refine' ex_int ?_
  | with_reducible refine' ex_list ?_
  | with_reducible refine' ex_tup ?_
  | with_reducible refine' ex_d ?_
  | with_reducible refine' ex_m ?_
  | with_reducible refine' ex_par ?_
  | with_reducible refine' ex_rg1 ?_
  | with_reducible refine' ex_rg2 ?_
  | ((with_reducible refine' ex_dat ?dv ?dw ?_); (case dv => rfl); (case dw => exact Nat.le_of_ble_eq_true rfl))
  | ((fail_if_success (with_reducible show ∃ _, _)); (fail_if_success (with_reducible show _ ∧ _)); refine ⟨_, _, rfl, ?_⟩)
  | ((fail_if_success (with_reducible show ∃ _, _)); (fail_if_success (with_reducible show _ ∧ _)); refine ⟨_, rfl, ?_⟩)
  | fail)
local macro_rules | `(tactic| walk_at "e") => `(tactic| repeat' walk_at "e1")

theorem two_filters {α : Type} (p c : α → Bool) : ∀ l : List α, (∀ r ∈ l, p r = true → c r = false) → (l.filter p).length + (l.filter c).length ≤ l.length
  | [], _ => by simp
  | x :: l, h => by
    have ih := two_filters p c l fun r hr => h r (List.mem_cons_of_mem _ hr)
    have hx := h x List.mem_cons_self
    rw [List.filter_cons, List.filter_cons, List.length_cons]
    cases hp : p x with
    | true =>
      rw [if_pos rfl, if_neg (by rw [hx hp]; decide), List.length_cons]
      omega
    | false =>
      rw [if_neg (by decide)]
      split
      · rw [List.length_cons]; omega
      · omega
theorem waves_len {q : Q} : ∀ (n : Nat) (lo : List Rope), lo.length ≤ n → (wavesOf lo q).flatten.length ≤ lo.length ∧ (wavesOf lo q).length ≤ lo.length
  | 0, lo, h => by
    have : lo = [] := List.length_eq_zero_iff.mp (by omega)
    subst this
    rw [waves_end gw_nil]; simp
  | n + 1, lo, h => by
    by_cases hg : gwOf lo q = []
    · rw [waves_end hg]; simp
    · have hs := left_short hg gw_sub
      obtain ⟨h1, h2⟩ := waves_len (q := q) n (leftOf lo (gwOf lo q)) (by omega)
      rw [waves_step hg, List.flatten_cons, List.length_append, List.length_cons]
      refine ⟨?_, by omega⟩
      have h3 : (gwOf lo q).length + (leftOf lo (gwOf lo q)).length ≤ lo.length := by
        unfold gwOf at hg ⊢
        cases e : sunkOf lo q.1 q.2 with
        | none => rw [e] at hg; exact absurd rfl hg
        | some sq =>
          show ((lo.filter (tooMuch sq)).map Rope.n).length + (leftOf lo ((lo.filter (tooMuch sq)).map Rope.n)).length ≤ lo.length
          rw [List.length_map]
          refine two_filters _ _ lo fun r hr hp => ?_
          have : ((lo.filter (tooMuch sq)).map Rope.n).contains r.n = true := List.contains_iff_mem.mpr (List.mem_map.mpr ⟨r, List.mem_filter.mpr ⟨hr, hp⟩, rfl⟩)
          rw [this]; rfl
      omega
section
variable {P : Program} {w : World} {K : PySem.W.Frag} {mg : Str → Option Value} {base : Heap} {f : Addr} {fd : FuncData}
abbrev s_waves : Stmt := topS 35
theorem sc_waves : FnScope ["bundle", "broken", "load", "told", "left", "wave"] ["bundle", "broken", "load"] (defScope s_waves) := ⟨rfl, rfl, rfl, by decide +kernel, rfl, by decide +kernel, by decide +kernel⟩
theorem ok_waves (F : Fun K "waves" "waves" s_waves f fd) (c_ropes_left : Has P w K mg base 1 "ropes_left" ["bundle", "broken"] S_left) (c_ropes_leftL : Has P w K mg base 1 "ropes_left" ["bundle", "broken"] S_leftL) (c_giving_way : Has P w K mg base 5 "giving_way" ["left", "load"] S_gw) : FnOk P w K mg base CX0 6 f fd ["bundle", "broken", "load"] (spOf K S_waves) := by
  refine ok_of F sc_waves (fun rs M P h => by obtain ⟨a, b, c, rfl, _⟩ := h; rfl) fun cdv A outer s H E hr => ⟨_, (pss_cons (ps_set (i := 3) sc_waves.nd rfl (Or.inl rfl) (pe_lst pa_nil))
      (pss_cons (ps_set (i := 4) sc_waves.nd rfl (Or.inl rfl) (pe_callH' c_ropes_left (hr.mono (by first | decide | omega)) rfl (pa_cons (pv 0) (pa_cons (pv 1) pa_nil))))
      (pss_cons (ps_set (i := 5) sc_waves.nd rfl (Or.inl rfl) (pe_callH' c_giving_way (hr.mono (by first | decide | omega)) rfl (pa_cons (pv 4) (pa_cons (pv 2) pa_nil))))
      (pss_cons (ps_while PassesOwn.never (kpt_truth K (pv 5)) (pss_cons (ps_expr (kpe_bm K (pe_bm PySem.F.plainAttrs_list PySem.F.slot_list_append PySem.F.type_list_append mt_append (pv 3) (pa_cons (pv 5) pa_nil))))
      (pss_cons (ps_set (i := 4) sc_waves.nd rfl (Or.inl rfl) (pe_callH' c_ropes_leftL (hr.mono (by first | decide | omega)) rfl (pa_cons (pv 4) (pa_cons (pv 5) pa_nil))))
      (pss_one (ps_set (i := 5) sc_waves.nd rfl (Or.inl rfl) (pe_callH' c_giving_way (hr.mono (by first | decide | omega)) rfl (pa_cons (pv 4) (pa_cons (pv 2) pa_nil))))))))
      (pss_one (ps_ret (pv 3))))))), fun rs M P h => ?_⟩
  obtain ⟨ro, ns, q, rfl, hB, hL, p⟩ := h
  have hB' := left_ok hB ns
  walk_at "d"
  refine dE_lstM ?_
  walk_at "d"
  intro a ha
  walk_at "d"
  refine ⟨hB.len, ?_⟩
  generalize leftOf ro ns = lo0 at *
  walk_at "d"
  refine ⟨hB', hL, ?_⟩
  walk_at "d"
  refine dS_while (fun m δ M' => ∃ (lo : List Rope) (ws : List (List Str)), δ = [some (.d (bd ro)), some (.d (nm ns)), some (.d (fr q)), some (.m a), some (.d (ld lo)), some (.d (nm (gwOf lo q)))] ∧ M' = mset M a (ws.map nm) ∧ BOk lo ∧ wavesOf lo0 q = ws ++ wavesOf lo q ∧ m = lo.length ∧ ws.length + lo.length ≤ 100) lo0.length ⟨lo0, [], rfl, rfl, hB', rfl, rfl, by have := hB'.len; simp; omega⟩ ?_
  rintro m δ M' ⟨lo, ws, rfl, rfl, hlo, hw, rfl, hlen⟩
  refine dT_tru ?_
  walk_at "d"
  refine ⟨_, .inr (.inl rfl), ?_⟩
  by_cases hg : gwOf lo q = []
  · refine ifF (by rw [hg]; rfl) ?_
    refine dS_ret (dE_varF rfl mset_same ?_)
    rw [mdel_mset ha]
    rw [waves_end hg, List.append_nil] at hw
    rw [← hw]
    exact rtOf.of p
  · refine ifT (by cases h : gwOf lo q with
      | nil => exact absurd h hg
      | cons x y => rfl) ?_
    have hs := left_short hg gw_sub
    walk_at "d"
    refine dE_app ?_
    walk_at "d"
    refine ⟨⟨_, mset_same⟩, ?_⟩
    walk_at "d"
    refine ⟨_, _, rfl, mset_same, by rw [List.length_map]; omega, ?_⟩
    rw [mset_mset]
    walk_at "d"
    refine ⟨hlo.len, ?_⟩
    walk_at "d"
    refine ⟨left_ok hlo _, hL, ?_⟩
    walk_at "d"
    refine ⟨_, hs, leftOf lo (gwOf lo q), ws ++ [gwOf lo q], rfl, by rw [List.map_append]; rfl, left_ok hlo _, ?_, rfl, by rw [List.length_append]; simp; omega⟩
    rw [hw, waves_step hg, List.append_assoc]
    rfl
abbrev s_broken_by : Stmt := topS 36
theorem sc_broken_by : FnScope ["bundle", "broken", "load", "gone", "wave"] ["bundle", "broken", "load"] (defScope s_broken_by) := ⟨rfl, rfl, rfl, by decide +kernel, rfl, by decide +kernel, by decide +kernel⟩
theorem ok_broken_by (T : Txt mg) (F : Fun K "broken_by" "broken_by" s_broken_by f fd) (c_waves : Has P w K mg base 6 "waves" ["bundle", "broken", "load"] S_waves) : FnOk P w K mg base CX0 7 f fd ["bundle", "broken", "load"] (spOf K S_broken) := by
  refine ok_of F sc_broken_by (fun rs M P h => by obtain ⟨a, b, c, rfl, _⟩ := h; rfl) fun cdv A outer s H E hr => ⟨_, (pss_cons (ps_set (i := 3) sc_broken_by.nd rfl (Or.inl rfl) (pe_callTy (kcall_list K) (by rfl) T.list (by decide +kernel) (pa_cons (pv 1) pa_nil)))
      (pss_cons (ps_for PassesOwn.never rfl (kpi_list K (pe_callH' c_waves (hr.mono (by first | decide | omega)) rfl (pa_cons (pv 0) (pa_cons (pv 1) (pa_cons (pv 2) pa_nil))))) (pg_name (i := 4) sc_broken_by.nd rfl (Or.inl rfl)) (pss_one (ps_expr (kpe_bm K (pe_bm PySem.F.plainAttrs_list PySem.F.slot_list_extend PySem.F.type_list_extend (mt_extT K) (pv 3) (pa_cons (pv 4) pa_nil))))))
      (pss_one (ps_ret (pe_callTy (kcall_tuple K) (by rfl) T.tuple (by decide +kernel) (pa_cons (pe_callB (kcr_sortedD K hr) (by rfl) T.sorted (by decide +kernel) (pa_cons (pv 3) pa_nil)) pa_nil)))))), fun rs M P h => ?_⟩
  obtain ⟨ro, ns, q, rfl, hB, hns, hL, p⟩ := h
  have hB' := left_ok hB ns
  obtain ⟨hf, hw⟩ := waves_len (q := q) _ (leftOf ro ns) (Nat.le_refl _)
  walk_at "d"
  refine dC_listM (.inr (.inl rfl)) fun a ha => ?_
  walk_at "d"
  refine dS_forL ?_
  walk_at "d"
  refine ⟨ro, ns, q, rfl, hB, hL, ?_⟩
  unfold brOf at p
  generalize wavesOf (leftOf ro ns) q = ws at *
  refine ⟨_, rfl, fun i δ M' => ∃ x : Option SV, δ = [some (.d (bd ro)), some (.d (nm ns)), some (.d (fr q)), some (.m a), x] ∧ M' = mset M a ((ns ++ (ws.take i).flatten).map .str), ⟨_, rfl, by simp⟩, fun i x δ M' hx hI => ?_, fun δ M' hI => ?_⟩
  · obtain ⟨y, rfl, rfl⟩ := hI
    obtain ⟨wv, hw1, rfl⟩ := getElem?_map_some hx
    have ht : (ws.take (i + 1)).flatten = (ws.take i).flatten ++ wv := by rw [List.take_succ, hw1, List.flatten_append]; simp
    have hlen : (ws.take (i + 1)).flatten.length ≤ ws.flatten.length := by
      have e : ws.flatten = (ws.take (i + 1)).flatten ++ (ws.drop (i + 1)).flatten := by rw [← List.flatten_append, List.take_append_drop]
      rw [e, List.length_append]; omega
    rw [ht, List.length_append] at hlen
    have := hB'.len
    walk_at "d"
    refine dE_extT ?_
    walk_at "d"
    refine ⟨⟨_, mset_same⟩, ?_⟩
    walk_at "d"
    refine ⟨_, _, rfl, mset_same, by simp only [List.length_map, List.length_append]; omega, ?_⟩
    refine ⟨_, rfl, ?_⟩
    rw [mset_mset, ht, ← List.map_append, List.append_assoc]
  · obtain ⟨y, rfl, rfl⟩ := hI
    rw [List.length_map, List.take_length]
    walk_at "d"
    refine dC_sortedD (.inr ⟨a, rfl, mset_same⟩) ?_ ?_ ?_ ?_
    · intro d hd d' hd'
      obtain ⟨x, _, rfl⟩ := List.mem_map.mp hd
      obtain ⟨y, _, rfl⟩ := List.mem_map.mp hd'
      rfl
    · refine .inr fun d hd => ?_
      obtain ⟨x, _, rfl⟩ := List.mem_map.mp hd
      exact ⟨fun e => PyData.noConfusion e, fun xs e => PyData.noConfusion e⟩
    · intro d hd
      obtain ⟨x, _, rfl⟩ := List.mem_map.mp hd
      exact Nat.zero_le _
    rw [sortN_dat]
    walk_at "d"
    refine dC_tuple (.inl rfl) ⟨M, p, msub_set MSub.refl ha⟩
def S_bears : SpD := fun rs M P => ∃ (ro : List Rope) (ns : List Str) (q : Q), rs = [.d (bd ro), .d (nm ns), .d (fr q)] ∧ BOk ro ∧ ns.length ≤ 100 ∧ LOk q ∧ P (.d (.bool (bearsOf ro ns q))) M
def S_by : SpD := fun rs M P => ∃ (ro : List Rope) (qs : List Q), rs = [.d (bd ro), .d (.list (qs.map fr))] ∧ BOk ro ∧ ro.length ≤ 6 ∧ qs.length ≤ 12 ∧ (∀ q ∈ qs, LOk q) ∧ P (.d (.list (byL ro [] qs))) M
abbrev s_bears : Stmt := topS 37
theorem sc_bears : FnScope ["bundle", "broken", "load"] ["bundle", "broken", "load"] (defScope s_bears) := ⟨rfl, rfl, rfl, by decide +kernel, rfl, by decide +kernel, by decide +kernel⟩
theorem ok_bears (T : Txt mg) (F : Fun K "bears" "bears" s_bears f fd) (c_broken_by : Has P w K mg base 7 "broken_by" ["bundle", "broken", "load"] S_broken) : FnOk P w K mg base CX0 8 f fd ["bundle", "broken", "load"] (spOf K S_bears) := by
  refine ok_of F sc_bears (fun rs M P h => by obtain ⟨a, b, c, rfl, _⟩ := h; rfl) fun cdv A outer s H E hr => ⟨_, (pss_one (ps_ret (pe_or (pe_cmp (pc_eqI (pe_ix (kix_tup K) (pv 2) pe_int (fun _ _ => rfl)) pe_int)) (pe_one (pe_cmp (pc_lt (pe_callB (kcall_len K) (by rfl) T.len (by decide +kernel) (pa_cons (pe_callH' c_broken_by (hr.mono (by first | decide | omega)) rfl (pa_cons (pv 0) (pa_cons (pv 1) (pa_cons (pv 2) pa_nil)))) pa_nil)) (pe_callB (kcall_len K) (by rfl) T.len (by decide +kernel) (pa_cons (pv 0) pa_nil)))))))), fun rs M P h => ?_⟩
  obtain ⟨ro, ns, q, rfl, hB, hns, hL, p⟩ := h
  unfold bearsOf at p
  walk_at "d"
  refine ifB (fun h => ?_) (fun h => ?_)
  · have h0 : q.1 = 0 := of_decide_eq_true h
    rw [if_pos h0] at p
    exact rtOf.of p
  · have h0 : ¬ q.1 = 0 := of_decide_eq_false h
    rw [if_neg h0] at p
    walk_at "d"
    refine ⟨ro, ns, q, rfl, hB, hns, hL, ?_⟩
    walk_at "d"
    refine dC_len (.inr (.inl rfl)) ?_
    walk_at "d"
    refine dC_len (.inr (.inl rfl)) ?_
    walk_at "d"
    simp only [List.length_map, Int.ofNat_lt]
    exact p
/-- how many names are broken at the most -/
theorem br_len {ro : List Rope} {ns : List Str} {q : Q} : (brOf ro ns q).length ≤ ns.length + (leftOf ro ns).length := by
  unfold brOf sortN
  rw [List.length_mergeSort, List.length_append]
  have := (waves_len (q := q) _ (leftOf ro ns) (Nat.le_refl _)).1
  omega
/-- the row of loads, as far as it has come -/
def byN (ro : List Rope) (ns : List Str) (qs : List Q) : List Str := qs.foldl (fun b q => brOf ro b q) ns
theorem byL_append (ro : List Rope) : ∀ (as : List Q) (ns : List Str) (bs : List Q), byL ro ns (as ++ bs) = byL ro ns as ++ byL ro (byN ro ns as) bs
  | [], ns, bs => rfl
  | a :: as, ns, bs => by
    show _ :: byL ro _ (as ++ bs) = _ :: (byL ro _ as ++ byL ro _ bs)
    rw [byL_append ro as]
    rfl
theorem byL_length (ro : List Rope) : ∀ (qs : List Q) (ns : List Str), (byL ro ns qs).length = qs.length
  | [], _ => rfl
  | q :: qs, ns => by show (_ :: byL ro _ qs).length = _; rw [List.length_cons, byL_length ro qs]; rfl
theorem byN_len {ro : List Rope} (h : ro.length ≤ 6) : ∀ (qs : List Q) (ns : List Str), (byN ro ns qs).length ≤ ns.length + 6 * qs.length
  | [], ns => by show ns.length ≤ _; omega
  | q :: qs, ns => by
    have h1 := byN_len h qs (brOf ro ns q)
    have h2 := br_len (ro := ro) (ns := ns) (q := q)
    have h3 : (leftOf ro ns).length ≤ ro.length := List.length_filter_le _ _
    show (byN ro (brOf ro ns q) qs).length ≤ _
    rw [List.length_cons]
    omega
end
end K2

namespace K2
open PySem L2 Sd Ma
local macro_rules | `(tactic| walk_at "d1") => `(tactic| first
  | ((with_reducible refine' dE_var ?dv ?_); (case dv => rfl))
  | with_reducible refine' dE_int ?_
  | with_reducible refine' dE_str ?_
  | with_reducible refine' dE_bl ?_
  | with_reducible refine' dE_non ?_
  | ((with_reducible refine' dE_nt ?dv ?_); (case dv => assumption))
  | with_reducible refine' dE_ref ?_
  | with_reducible refine' dE_op ?_
  | with_reducible refine' dE_un ?_
  | with_reducible refine' dE_cmp ?_
  | with_reducible refine' dE_isN ?_
  | with_reducible refine' dE_notN ?_
  | with_reducible refine' dE_call ?_
  | with_reducible refine' dE_cb ?_
  | with_reducible refine' dE_kw ?_
  | with_reducible refine' dE_tup ?_
  | with_reducible refine' dE_if ?_
  | with_reducible refine' dE_and ?_
  | with_reducible refine' dE_or ?_
  | with_reducible refine' dE_not ?_
  | with_reducible refine' dE_sl ?_
  | with_reducible refine' dO_none ?_
  | with_reducible refine' dO_some ?_
  | with_reducible refine' dA_cons ?_
  | with_reducible refine' dA_nil ?_
  | with_reducible refine' dT_B ?_
  | with_reducible refine' dT_test ?_
  | with_reducible refine' dT_and ?_
  | with_reducible refine' dT_or ?_
  | with_reducible refine' dT_not ?_
  | with_reducible refine' dT_yes ?_
  | with_reducible refine' dR_I0i ?_
  | with_reducible refine' dU_neg ?_
  | ((with_reducible refine' dR_ixT ?dv ?_); (case dv => rfl))
  | with_reducible refine' dS_seq ?_
  | with_reducible refine' dS_next ?_
  | with_reducible refine' dS_ret ?_
  | with_reducible refine' dS_drop ?_
  | with_reducible refine' dS_if ?_
  | with_reducible refine' dS_asg ?_
  | with_reducible refine' dS_par ?_
  | with_reducible refine' dG_name ?_
  | ((with_reducible refine' dG_tup ?dv ?_); (case dv => rfl); (dsimp only [List.map]))
  | with_reducible refine' dGs_cons ?_
  | with_reducible refine' dGs_nil ?_
  | with_reducible refine' dC_abs ?_
  | with_reducible refine' dC_max2 ?_
  | with_reducible refine' dC_min2 ?_
  | with_reducible refine' rtOf.of ?_
  | with_reducible refine' ex_cmp ?_
  | with_reducible refine' ex_bool ?_
  | with_reducible refine' ex_int ?_
  | with_reducible refine' ex_list ?_
  | with_reducible refine' ex_tup ?_
  | with_reducible refine' ex_d ?_
  | with_reducible refine' ex_m ?_
  | with_reducible refine' ex_par ?_
  | with_reducible refine' ex_rg1 ?_
  | with_reducible refine' ex_rg2 ?_
  | ((with_reducible refine' ex_dat ?dv ?dw ?_); (case dv => rfl); (case dw => exact Nat.le_of_ble_eq_true rfl))
  | ((fail_if_success (with_reducible show ∃ _, _)); (fail_if_success (with_reducible show _ ∧ _)); refine ⟨_, _, rfl, ?_⟩)
  | ((fail_if_success (with_reducible show ∃ _, _)); (fail_if_success (with_reducible show _ ∧ _)); refine ⟨_, rfl, ?_⟩)
  | fail)
local macro_rules | `(tactic| walk_at "d") => `(tactic| repeat' walk_at "d1")
local macro_rules | `(tactic| walk_at "e1") => `(tactic| first
  | ((with_reducible refine' dE_var ?dv ?_); (case dv => rfl))
  | with_reducible refine' dE_int ?_
  | with_reducible refine' dE_str ?_
  | with_reducible refine' dE_bl ?_
  | with_reducible refine' dE_non ?_
  | ((with_reducible refine' dE_nt ?dv ?_); (case dv => assumption))
  | with_reducible refine' dE_ref ?_
  | with_reducible refine' dE_op ?_
  | with_reducible refine' dE_un ?_
  | with_reducible refine' dE_cmp ?_
  | with_reducible refine' dE_isN ?_
  | with_reducible refine' dE_notN ?_
  | with_reducible refine' dE_call ?_
  | with_reducible refine' dE_cb ?_
  | with_reducible refine' dE_kw ?_
  | with_reducible refine' dE_tup ?_
  | with_reducible refine' dE_if ?_
  | with_reducible refine' dE_and ?_
  | with_reducible refine' dE_or ?_
  | with_reducible refine' dE_not ?_
  | with_reducible refine' dE_sl ?_
  | with_reducible refine' dO_none ?_
  | with_reducible refine' dO_some ?_
  | with_reducible refine' dA_cons ?_
  | with_reducible refine' dA_nil ?_
  | with_reducible refine' dT_B ?_
  | with_reducible refine' dT_test ?_
  | with_reducible refine' dT_and ?_
  | with_reducible refine' dT_or ?_
  | with_reducible refine' dT_not ?_
  | with_reducible refine' dT_yes ?_
  | with_reducible refine' dR_I0i ?_
  | with_reducible refine' dU_neg ?_
  | ((with_reducible refine' dR_ixT ?dv ?_); (case dv => rfl))
  | with_reducible refine' dS_next ?_
  | with_reducible refine' dS_ret ?_
  | with_reducible refine' dS_drop ?_
  | with_reducible refine' dS_if ?_
  | with_reducible refine' dS_asg ?_
  | with_reducible refine' dS_par ?_
  | with_reducible refine' dG_name ?_
  | ((with_reducible refine' dG_tup ?dv ?_); (case dv => rfl); (dsimp only [List.map]))
  | with_reducible refine' dGs_cons ?_
  | with_reducible refine' dGs_nil ?_
  | with_reducible refine' dC_abs ?_
  | with_reducible refine' dC_max2 ?_
  | with_reducible refine' dC_min2 ?_
  | with_reducible refine' rtOf.of ?_
  | with_reducible refine' ex_cmp ?_
  | with_reducible refine' ex_bool ?_
  | with_reducible refine' ex_int ?_
  | with_reducible refine' ex_list ?_
  | with_reducible refine' ex_tup ?_
  | with_reducible refine' ex_d ?_
  | with_reducible refine' ex_m ?_
  | with_reducible refine' ex_par ?_
  | with_reducible refine' ex_rg1 ?_
  | with_reducible refine' ex_rg2 ?_
  | ((with_reducible refine' ex_dat ?dv ?dw ?_); (case dv => rfl); (case dw => exact Nat.le_of_ble_eq_true rfl))
  | ((fail_if_success (with_reducible show ∃ _, _)); (fail_if_success (with_reducible show _ ∧ _)); refine ⟨_, _, rfl, ?_⟩)
  | ((fail_if_success (with_reducible show ∃ _, _)); (fail_if_success (with_reducible show _ ∧ _)); refine ⟨_, rfl, ?_⟩)
  | fail)
local macro_rules | `(tactic| walk_at "e") => `(tactic| repeat' walk_at "e1")

theorem tup_eqv_nil (ns : List Str) : PyData.eqv (nm ns) (.tuple []) = ns.isEmpty := by
  cases ns with
  | nil => rfl
  | cons x r => rfl
theorem mem_sortN {x : Str} {ns : List Str} : x ∈ sortN ns ↔ x ∈ ns := List.mem_mergeSort
theorem mem_waves {q : Q} : ∀ (n : Nat) (lo : List Rope), lo.length ≤ n → ∀ x ∈ (wavesOf lo q).flatten, x ∈ lo.map Rope.n
  | 0, lo, h, x, hx => by
    have : lo = [] := List.length_eq_zero_iff.mp (by omega)
    subst this
    rw [waves_end gw_nil] at hx; simp at hx
  | n + 1, lo, h, x, hx => by
    by_cases hg : gwOf lo q = []
    · rw [waves_end hg] at hx; simp at hx
    · have hs := left_short hg gw_sub
      rw [waves_step hg, List.flatten_cons] at hx
      rcases List.mem_append.mp hx with h1 | h1
      · exact gw_sub.subset h1
      · obtain ⟨r, hr, rfl⟩ := List.mem_map.mp (mem_waves n _ (by omega) x h1)
        exact List.mem_map.mpr ⟨r, (List.mem_filter.mp hr).1, rfl⟩
theorem mem_br {ro : List Rope} {ns : List Str} {q : Q} {x : Str} (h : x ∈ brOf ro ns q) : x ∈ ns ∨ x ∈ ro.map Rope.n := by
  unfold brOf at h
  rcases List.mem_append.mp (mem_sortN.mp h) with h | h
  · exact .inl h
  · obtain ⟨r, hr, rfl⟩ := List.mem_map.mp (mem_waves _ _ (Nat.le_refl _) x h)
    exact .inr (List.mem_map.mpr ⟨r, (List.mem_filter.mp hr).1, rfl⟩)
section
variable {P : Program} {w : World} {K : PySem.W.Frag} {mg : Str → Option Value} {base : Heap} {f : Addr} {fd : FuncData}
end
end K2

namespace K2
open PySem L2 Sd Ma
local macro_rules | `(tactic| walk_at "d1") => `(tactic| first
  | ((with_reducible refine' dE_var ?dv ?_); (case dv => rfl))
  | with_reducible refine' dE_int ?_
  | with_reducible refine' dE_str ?_
  | with_reducible refine' dE_bl ?_
  | with_reducible refine' dE_non ?_
  | ((with_reducible refine' dE_nt ?dv ?_); (case dv => assumption))
  | with_reducible refine' dE_ref ?_
  | with_reducible refine' dE_op ?_
  | with_reducible refine' dE_un ?_
  | with_reducible refine' dE_cmp ?_
  | with_reducible refine' dE_isN ?_
  | with_reducible refine' dE_notN ?_
  | with_reducible refine' dE_call ?_
  | with_reducible refine' dE_cb ?_
  | with_reducible refine' dE_kw ?_
  | with_reducible refine' dE_tup ?_
  | with_reducible refine' dE_if ?_
  | with_reducible refine' dE_and ?_
  | with_reducible refine' dE_or ?_
  | with_reducible refine' dE_not ?_
  | with_reducible refine' dE_sl ?_
  | with_reducible refine' dO_none ?_
  | with_reducible refine' dO_some ?_
  | with_reducible refine' dA_cons ?_
  | with_reducible refine' dA_nil ?_
  | with_reducible refine' dT_B ?_
  | with_reducible refine' dT_test ?_
  | with_reducible refine' dT_and ?_
  | with_reducible refine' dT_or ?_
  | with_reducible refine' dT_not ?_
  | with_reducible refine' dT_yes ?_
  | with_reducible refine' dR_I0i ?_
  | with_reducible refine' dU_neg ?_
  | ((with_reducible refine' dR_ixT ?dv ?_); (case dv => rfl))
  | with_reducible refine' dS_seq ?_
  | with_reducible refine' dS_next ?_
  | with_reducible refine' dS_ret ?_
  | with_reducible refine' dS_drop ?_
  | with_reducible refine' dS_if ?_
  | with_reducible refine' dS_asg ?_
  | with_reducible refine' dS_par ?_
  | with_reducible refine' dG_name ?_
  | ((with_reducible refine' dG_tup ?dv ?_); (case dv => rfl); (dsimp only [List.map]))
  | with_reducible refine' dGs_cons ?_
  | with_reducible refine' dGs_nil ?_
  | with_reducible refine' dC_abs ?_
  | with_reducible refine' dC_max2 ?_
  | with_reducible refine' dC_min2 ?_
  | with_reducible refine' rtOf.of ?_
  | with_reducible refine' ex_cmp ?_
  | with_reducible refine' ex_bool ?_
  | with_reducible refine' ex_int ?_
  | with_reducible refine' ex_list ?_
  | with_reducible refine' ex_tup ?_
  | with_reducible refine' ex_d ?_
  | with_reducible refine' ex_m ?_
  | with_reducible refine' ex_par ?_
  | with_reducible refine' ex_rg1 ?_
  | with_reducible refine' ex_rg2 ?_
  | ((with_reducible refine' ex_dat ?dv ?dw ?_); (case dv => rfl); (case dw => exact Nat.le_of_ble_eq_true rfl))
  | ((fail_if_success (with_reducible show ∃ _, _)); (fail_if_success (with_reducible show _ ∧ _)); refine ⟨_, _, rfl, ?_⟩)
  | ((fail_if_success (with_reducible show ∃ _, _)); (fail_if_success (with_reducible show _ ∧ _)); refine ⟨_, rfl, ?_⟩)
  | fail)
local macro_rules | `(tactic| walk_at "d") => `(tactic| repeat' walk_at "d1")
local macro_rules | `(tactic| walk_at "e1") => `(tactic| first
  | ((with_reducible refine' dE_var ?dv ?_); (case dv => rfl))
  | with_reducible refine' dE_int ?_
  | with_reducible refine' dE_str ?_
  | with_reducible refine' dE_bl ?_
  | with_reducible refine' dE_non ?_
  | ((with_reducible refine' dE_nt ?dv ?_); (case dv => assumption))
  | with_reducible refine' dE_ref ?_
  | with_reducible refine' dE_op ?_
  | with_reducible refine' dE_un ?_
  | with_reducible refine' dE_cmp ?_
  | with_reducible refine' dE_isN ?_
  | with_reducible refine' dE_notN ?_
  | with_reducible refine' dE_call ?_
  | with_reducible refine' dE_cb ?_
  | with_reducible refine' dE_kw ?_
  | with_reducible refine' dE_tup ?_
  | with_reducible refine' dE_if ?_
  | with_reducible refine' dE_and ?_
  | with_reducible refine' dE_or ?_
  | with_reducible refine' dE_not ?_
  | with_reducible refine' dE_sl ?_
  | with_reducible refine' dO_none ?_
  | with_reducible refine' dO_some ?_
  | with_reducible refine' dA_cons ?_
  | with_reducible refine' dA_nil ?_
  | with_reducible refine' dT_B ?_
  | with_reducible refine' dT_test ?_
  | with_reducible refine' dT_and ?_
  | with_reducible refine' dT_or ?_
  | with_reducible refine' dT_not ?_
  | with_reducible refine' dT_yes ?_
  | with_reducible refine' dR_I0i ?_
  | with_reducible refine' dU_neg ?_
  | ((with_reducible refine' dR_ixT ?dv ?_); (case dv => rfl))
  | with_reducible refine' dS_next ?_
  | with_reducible refine' dS_ret ?_
  | with_reducible refine' dS_drop ?_
  | with_reducible refine' dS_if ?_
  | with_reducible refine' dS_asg ?_
  | with_reducible refine' dS_par ?_
  | with_reducible refine' dG_name ?_
  | ((with_reducible refine' dG_tup ?dv ?_); (case dv => rfl); (dsimp only [List.map]))
  | with_reducible refine' dGs_cons ?_
  | with_reducible refine' dGs_nil ?_
  | with_reducible refine' dC_abs ?_
  | with_reducible refine' dC_max2 ?_
  | with_reducible refine' dC_min2 ?_
  | with_reducible refine' rtOf.of ?_
  | with_reducible refine' ex_cmp ?_
  | with_reducible refine' ex_bool ?_
  | with_reducible refine' ex_int ?_
  | with_reducible refine' ex_list ?_
  | with_reducible refine' ex_tup ?_
  | with_reducible refine' ex_d ?_
  | with_reducible refine' ex_m ?_
  | with_reducible refine' ex_par ?_
  | with_reducible refine' ex_rg1 ?_
  | with_reducible refine' ex_rg2 ?_
  | ((with_reducible refine' ex_dat ?dv ?dw ?_); (case dv => rfl); (case dw => exact Nat.le_of_ble_eq_true rfl))
  | ((fail_if_success (with_reducible show ∃ _, _)); (fail_if_success (with_reducible show _ ∧ _)); refine ⟨_, _, rfl, ?_⟩)
  | ((fail_if_success (with_reducible show ∃ _, _)); (fail_if_success (with_reducible show _ ∧ _)); refine ⟨_, rfl, ?_⟩)
  | fail)
local macro_rules | `(tactic| walk_at "e") => `(tactic| repeat' walk_at "e1")

def endOf (r : Rope) : Q := low (r.a * r.b + r.c) r.b
/-- a load of the law's own -/
structure Mk (q : Q) : Prop extends Red q where
  t : q.1 ≤ 10000000000
  u : q.2 ≤ 100
theorem Mk.ok {q : Q} (h : Mk q) : LOk q := ⟨h.toRed, (sz_lt (n := 60) h.p0 (by have := h.t; omega)).up (by decide), (sz_lt (n := 60) (Int.le_of_lt h.q0) (by have := h.u; omega)).up (by decide)⟩
structure En (q : Q) : Prop extends Red q where
  t : q.1 ≤ 1100000
  u : q.2 ≤ 100
theorem end_en {r : Rope} (h : r.Fine) : En (endOf r) := by
  have hb : 0 < r.b := by have := h.b0; omega
  have hab : 0 ≤ r.a * r.b := Int.mul_nonneg h.a0 (by omega)
  have hab2 : r.a * r.b ≤ 1000 * 100 := Int.mul_le_mul h.a1 h.b1 (by omega) (by omega)
  have ht : 0 ≤ r.a * r.b + r.c := by have := h.c0; omega
  have hl := low_le ht hb
  exact ⟨low_red ht hb, by have := h.c1; show (low _ _).1 ≤ _; omega, by have := h.b1; show (low _ _).2 ≤ _; omega⟩
theorem En.fr {q : Q} (h : En q) : Fr 3000 q := ⟨h.toRed, (sz_lt (n := 60) h.p0 (by have := h.t; omega)).up (by decide), (sz_lt (n := 60) (Int.le_of_lt h.q0) (by have := h.u; omega)).up (by decide)⟩
theorem En.qok {q : Q} (h : En q) : QOk q := ⟨h.toRed, (sz_lt (n := 60) h.p0 (by have := h.t; omega)).up (by decide), (sz_lt (n := 60) (Int.le_of_lt h.q0) (by have := h.u; omega)).up (by decide)⟩
theorem f1_le {r : Rope} {q : Q} (h : r.Fine) (hq : En q) : 0 ≤ f1 q (pr r) ∧ f1 q (pr r) ≤ 110000000 := by
  have hb : 0 < r.b := by have := h.b0; omega
  refine ⟨f1_nn hb, ?_⟩
  unfold f1
  have h1 : 0 ≤ r.a * q.2 := Int.mul_nonneg h.a0 (Int.le_of_lt hq.q0)
  have h2 : max 0 (q.1 - r.a * q.2) ≤ 1100000 := by have := hq.t; omega
  exact Int.le_trans (Int.mul_le_mul h.b1 h2 (by omega) (by omega)) (by decide)
theorem low_mk {X : Int} {q : Q} (h0 : 0 ≤ X) (h1 : X ≤ 10000000000) (hq : En q) : Mk (low X q.2) := by
  have hl := low_le h0 hq.q0
  exact ⟨low_red h0 hq.q0, by omega, by have := hq.u; omega⟩
def near (q : Q) : Q := plus q (1, 10 ^ 24)
theorem near_ok {q : Q} (h : Mk q) : LOk (near q) := by
  have h1 := h.t
  have h2 := h.u
  have p0 := h.p0
  have q0 := h.q0
  have hr : Red (1, 10 ^ 24) := ⟨by decide, by decide, by decide⟩
  have ht : 0 ≤ q.1 * 10 ^ 24 + 1 * q.2 := by have := Int.mul_nonneg p0 (show (0 : Int) ≤ 10 ^ 24 by decide); omega
  have hb : 0 < q.2 * 10 ^ 24 := Int.mul_pos q0 (by decide)
  have hl := low_le ht hb
  have hred := plus_red h.toRed hr
  refine ⟨hred, ?_, ?_⟩
  · refine Sz.up (m := 200) (sz_lt hred.p0 ?_) (by decide)
    show (low (q.1 * 10 ^ 24 + 1 * q.2) (q.2 * 10 ^ 24)).1 < 2 ^ 200
    have : q.1 * 10 ^ 24 ≤ 10000000000 * 10 ^ 24 := Int.mul_le_mul_of_nonneg_right h1 (by decide)
    omega
  · refine Sz.up (m := 200) (sz_lt (Int.le_of_lt hred.q0) ?_) (by decide)
    show (low (q.1 * 10 ^ 24 + 1 * q.2) (q.2 * 10 ^ 24)).2 < 2 ^ 200
    have : q.2 * 10 ^ 24 ≤ 100 * 10 ^ 24 := Int.mul_le_mul_of_nonneg_right h2 (by decide)
    omega
section
variable {P : Program} {w : World} {K : PySem.W.Frag} {mg : Str → Option Value} {base : Heap} {f : Addr} {fd : FuncData}
def S_end : SpD := fun rs M P => ∃ r : Rope, rs = [.d r.d] ∧ r.Fine ∧ P (.d (fr (endOf r))) M
def S_near : SpD := fun rs M P => ∃ q : Q, rs = [.d (fr q)] ∧ Mk q ∧ P (.d (fr (near q))) M
def S_marks : SpD := fun rs M P => ∃ ro : List Rope, rs = [.d (bd ro)] ∧ Bun ro ∧ ∀ qs : List Q, qs.length = ro.length → (∀ q ∈ qs, Mk q) → P (.d (.list (qs.map fr))) M
abbrev s_law_end : Stmt := topS 60
theorem sc_law_end : FnScope ["rope"] ["rope"] (defScope s_law_end) := ⟨rfl, rfl, rfl, by decide +kernel, rfl, by decide +kernel, by decide +kernel⟩
theorem ok_law_end (F : Fun K "_law_end" "_law_end" s_law_end f fd) (c_law_lowest : Has P w K mg base 1 "_law_lowest" ["top", "bottom"] S_lowest) : FnOk P w K mg base CX0 2 f fd ["rope"] (spOf K S_end) := by
  refine ok_of F sc_law_end (fun rs M P h => by obtain ⟨a, rfl, _⟩ := h; rfl) fun cdv A outer s H E hr => ⟨_, (pss_one (ps_ret (pe_callH' c_law_lowest (hr.mono (by first | decide | omega)) rfl (pa_cons (pe_op op_add (pe_op op_mulW (pe_ix (kix_tup K) (pv 0) pe_int (fun _ _ => rfl)) (pe_ix (kix_tup K) (pv 0) pe_int (fun _ _ => rfl))) (pe_ix (kix_tup K) (pv 0) pe_int (fun _ _ => rfl))) (pa_cons (pe_ix (kix_tup K) (pv 0) pe_int (fun _ _ => rfl)) pa_nil))))), fun rs M P h => ?_⟩
  obtain ⟨r, rfl, h, p⟩ := h
  have ho := fine_ok h
  walk_at "d"
  refine dR_Ii (ho.aS.mulOk ho.bS (by decide) (by decide) (by decide)) ?_
  walk_at "d"
  exact ⟨by have := Int.mul_nonneg ho.a0 (Int.le_of_lt ho.b0); have := ho.c0; omega, ho.b0, ho.bS.up (by decide), rtOf.of p⟩
abbrev s_law_marks : Stmt := topS 61
theorem sc_law_marks : FnScope ["bundle", "found", "rope", "end", "total", "one"] ["bundle"] (defScope s_law_marks) := ⟨rfl, rfl, rfl, by decide +kernel, rfl, by decide +kernel, by decide +kernel⟩
theorem ok_law_marks (F : Fun K "_law_marks" "_law_marks" s_law_marks f fd) (c_law_end : Has P w K mg base 2 "_law_end" ["rope"] S_end) (c_law_less : Has P w K mg base 1 "_law_less" ["one", "other"] S_less) (c_law_plus : Has P w K mg base 2 "_law_plus" ["one", "other"] S_plus) (c_law_pull : Has P w K mg base 2 "_law_pull" ["rope", "sunk"] S_pull) : FnOk P w K mg base CX0 3 f fd ["bundle"] (spOf K S_marks) := by
  refine ok_of F sc_law_marks (fun rs M P h => by obtain ⟨a, rfl, _⟩ := h; rfl) fun cdv A outer s H E hr => ⟨_, (pss_cons (ps_set (i := 1) sc_law_marks.nd rfl (Or.inl rfl) (pe_lst pa_nil))
      (pss_cons (ps_for PassesOwn.never rfl (kpi_tup K (pv 0)) (pg_name (i := 2) sc_law_marks.nd rfl (Or.inl rfl)) (pss_cons (ps_set (i := 3) sc_law_marks.nd rfl (Or.inl rfl) (pe_callH' c_law_end (hr.mono (by first | decide | omega)) rfl (pa_cons (pv 2) pa_nil)))
      (pss_cons (ps_set (i := 4) sc_law_marks.nd rfl (Or.inl rfl) (pe_tup (pa_cons pe_int (pa_cons pe_int pa_nil))))
      (pss_cons (ps_for PassesOwn.never rfl (kpi_tup K (pv 0)) (pg_name (i := 5) sc_law_marks.nd rfl (Or.inl rfl)) (pss_one (ps_if (pt_not (pt_val (pe_callH' c_law_less (hr.mono (by first | decide | omega)) rfl (pa_cons (pe_callH' c_law_end (hr.mono (by first | decide | omega)) rfl (pa_cons (pv 5) pa_nil)) (pa_cons (pv 3) pa_nil))))) (pss_one (ps_set (i := 4) sc_law_marks.nd rfl (Or.inl rfl) (pe_callH' c_law_plus (hr.mono (by first | decide | omega)) rfl (pa_cons (pv 4) (pa_cons (pe_callH' c_law_pull (hr.mono (by first | decide | omega)) rfl (pa_cons (pv 5) (pa_cons (pv 3) pa_nil))) pa_nil))))) pss_nil)))
      (pss_one (ps_expr (kpe_bm K (pe_bm PySem.F.plainAttrs_list PySem.F.slot_list_append PySem.F.type_list_append mt_append (pv 1) (pa_cons (pv 4) pa_nil)))))))))
      (pss_one (ps_ret (pv 1))))), fun rs M P h => ?_⟩
  obtain ⟨ro, rfl, hro, p⟩ := h
  walk_at "d"
  refine dE_lstM ?_
  walk_at "d"
  intro a ha
  walk_at "d"
  refine dS_forT ?_
  walk_at "d"
  refine ⟨fun i δ M' => ∃ (qs : List Q) (x2 x3 x4 x5 : Option SV), δ = [some (.d (bd ro)), some (.m a), x2, x3, x4, x5] ∧ M' = mset M a (qs.map fr) ∧ qs.length = i ∧ ∀ q ∈ qs, Mk q, ⟨[], _, _, _, _, rfl, rfl, rfl, fun q hq => by cases hq⟩, fun i x δ M' hx hI => ?_, fun δ M' hI => ?_⟩
  · obtain ⟨qs, x2, x3, x4, x5, rfl, rfl, hlen, hmk⟩ := hI
    obtain ⟨r, hr1, rfl⟩ := getElem?_map_some hx
    have hrm := List.mem_of_getElem? hr1
    have hil : i < ro.length := (List.getElem?_eq_some_iff.mp hr1).1
    have hfr := hro.fine r hrm
    have he := end_en hfr
    have h6 := hro.len
    walk_at "d"
    refine ⟨hfr, ?_⟩
    generalize endOf r = e at he
    walk_at "d"
    refine dS_forT ?_
    walk_at "d"
    refine ⟨fun j δ M' => ∃ (X : Int) (y5 : Option SV), δ = [some (.d (bd ro)), some (.m a), some (.d r.d), some (.d (fr e)), some (.d (fr (low X e.2))), y5] ∧ M' = mset M a (qs.map fr) ∧ 0 ≤ X ∧ X ≤ (j : Int) * 110000000, ⟨0, x5, by rw [low_zero he.q0]; rfl, rfl, by decide, by decide⟩, fun j y δ M' hy hJ => ?_, fun δ M' hJ => ?_⟩
    · obtain ⟨X, y5, rfl, rfl, hX0, hX1⟩ := hJ
      obtain ⟨r2, hr2, rfl⟩ := getElem?_map_some hy
      have hfr2 := hro.fine r2 (List.mem_of_getElem? hr2)
      have hjl : j < ro.length := (List.getElem?_eq_some_iff.mp hr2).1
      have ho2 := fine_ok hfr2
      obtain ⟨f0, f1'⟩ := f1_le hfr2 he
      have hmX := low_mk hX0 (by omega) he
      have hmf := low_mk f0 (by omega) he
      walk_at "d"
      refine ⟨hfr2, ?_⟩
      walk_at "d"
      refine ⟨(end_en hfr2).fr, he.fr, ?_⟩
      walk_at "d"
      refine ifB (fun h => ?_) (fun h => ?_)
      · walk_at "d"
        refine ⟨ho2, he.q0, he.qok.s1.up (by decide), he.qok.s2.up (by decide), ?_⟩
        walk_at "d"
        refine ⟨⟨hmX.toRed, hmX.ok.s1.up (by decide), hmX.ok.s2.up (by decide)⟩, by rw [pull_low ho2.b0 he.q0]; exact ⟨hmf.toRed, hmf.ok.s1.up (by decide), hmf.ok.s2.up (by decide)⟩, ?_⟩
        rw [pull_low ho2.b0 he.q0, low_plus hX0 f0 he.q0]
        walk_at "d"
        exact ⟨X + f1 e (pr r2), some (.d r2.d), rfl, rfl, by omega, by rw [Int.natCast_succ, Int.add_mul]; omega⟩
      · walk_at "d"
        exact ⟨X, some (.d r2.d), rfl, rfl, hX0, by rw [Int.natCast_succ, Int.add_mul]; omega⟩
    · obtain ⟨X, y5, rfl, rfl, hX0, hX1⟩ := hJ
      rw [List.length_map] at hX1
      walk_at "d"
      refine dE_app ?_
      walk_at "d"
      refine ⟨⟨_, mset_same⟩, ?_⟩
      walk_at "d"
      refine ⟨_, _, rfl, mset_same, by rw [List.length_map]; omega, ?_⟩
      rw [mset_mset]
      refine ⟨qs ++ [low X e.2], _, _, _, _, rfl, by rw [List.map_append]; rfl, by rw [List.length_append, hlen]; rfl, fun q hq => ?_⟩
      rcases List.mem_append.mp hq with h | h
      · exact hmk q h
      · rw [List.mem_singleton.mp h]
        exact low_mk hX0 (by omega) he
  · obtain ⟨qs, x2, x3, x4, x5, rfl, rfl, hlen, hmk⟩ := hI
    rw [List.length_map] at hlen
    refine dS_ret (dE_varF rfl mset_same ?_)
    rw [mdel_mset ha]
    exact rtOf.of (p qs hlen hmk)
end
end K2

namespace K2
open PySem L2 Sd Ma
/-! ### fewer ropes or a greater load: each of them is pulled harder -/
theorem sunk_red {lo : List Rope} {q x : Q} (hp : Ma.Pos lo) (hq : Red q) (e : sunkOf lo q.1 q.2 = some x) : Red x := by
  by_cases h : q.1 = 0
  · unfold sunkOf at e
    rw [if_pos h] at e
    cases e
    exact ⟨by decide, by decide, by decide⟩
  · cases lo with
    | nil => rw [sunk_none, if_neg h] at e; cases e
    | cons r rs =>
      obtain ⟨q', h1, h2⟩ := sunk_sol (t := q.1) (b := q.2) (List.cons_ne_nil r rs) hp (by have := hq.p0; omega) hq.q0
      rw [h1] at e
      cases e
      exact h2.toRed
theorem F_sub {q : Q} : ∀ {ps qs : List Pr}, ps.Sublist qs → PosB qs → F q ps ≤ F q qs
  | _, _, .slnil, _ => Int.le_refl _
  | _, _, .cons a h, hp => by
    have := F_sub (q := q) h fun z hz => hp z (List.mem_cons_of_mem _ hz)
    have := f1_nn (q := q) (hp a List.mem_cons_self)
    rw [F_cons]; omega
  | _, _, .cons_cons a h, hp => by
    have := F_sub (q := q) h fun z hz => hp z (List.mem_cons_of_mem _ hz)
    rw [F_cons, F_cons]; omega
theorem sunk_mono {lo lo' : List Rope} {q q' x y : Q} (hs : lo'.Sublist lo) (hp : Ma.Pos lo) (hq : Red q) (hq' : Red q') (hle : q.1 * q'.2 ≤ q'.1 * q.2) (hx : sunkOf lo q.1 q.2 = some x) (hy : sunkOf lo' q'.1 q'.2 = some y) : x.1 * y.2 ≤ y.1 * x.2 := by
  have hp' : Ma.Pos lo' := ⟨fun r hr => hp.a r (hs.subset hr), fun r hr => hp.b r (hs.subset hr)⟩
  have rx := sunk_red hp hq hx
  have ry := sunk_red hp' hq' hy
  have ex := sunk_F hp hq.p0 hq.q0 hx
  have ey := sunk_F hp' hq'.p0 hq'.q0 hy
  rcases Int.lt_or_le (y.1 * x.2) (x.1 * y.2) with h | h
  · exfalso
    obtain ⟨h1, h2⟩ := F_lt ry.q0 rx.q0 h hp.pb
    have h3 := F_sub (q := y) (hs.map pr) hp.pb
    have n1 := F_nn (q := x) hp.pb
    rcases Int.lt_or_le 0 (F x (lo.map pr)) with h4 | h4
    · have h5 := h2 h4
      have h6 : F y (lo'.map pr) * x.2 < F x (lo.map pr) * y.2 := Int.lt_of_le_of_lt (Int.mul_le_mul_of_nonneg_right h3 (Int.le_of_lt rx.q0)) h5
      have h7 := Int.mul_lt_mul_of_pos_right (Int.mul_lt_mul_of_pos_right h6 hq.q0) hq'.q0
      have e1 : F y (lo'.map pr) * x.2 * q.2 * q'.2 = (F y (lo'.map pr) * q'.2) * (x.2 * q.2) := by grind
      have e2 : F x (lo.map pr) * y.2 * q.2 * q'.2 = (F x (lo.map pr) * q.2) * (y.2 * q'.2) := by grind
      rw [e1, e2, ex, ey] at h7
      have e3 : q'.1 * y.2 * (x.2 * q.2) = (q'.1 * q.2) * (x.2 * y.2) := by grind
      have e4 : q.1 * x.2 * (y.2 * q'.2) = (q.1 * q'.2) * (x.2 * y.2) := by grind
      rw [e3, e4] at h7
      have h8 := Int.mul_le_mul_of_nonneg_right hle (Int.le_of_lt (Int.mul_pos rx.q0 ry.q0))
      omega
    · have h5 : F x (lo.map pr) = 0 := by omega
      rw [h5, Int.zero_mul] at ex
      have ht : q.1 = 0 := by
        rcases Int.mul_eq_zero.mp ex.symm with h | h
        · exact h
        · have := rx.q0; omega
      unfold sunkOf at hx
      rw [if_pos ht] at hx
      cases hx
      have := Int.mul_nonneg ry.p0 (show (0 : Int) ≤ 1 by decide)
      simp at h
      omega
  · exact h
theorem tm_iff {r : Rope} {x : Q} (hb : 0 < r.b) (hc : 0 < r.c) (hx : 0 < x.2) : tooMuch x r = true ↔ (r.c + r.a * r.b) * x.2 < r.b * x.1 := by
  have n1 : 0 ≤ f1 x (pr r) := f1_nn hb
  have hr := low_red n1 hx
  have he := low_eq (t := f1 x (pr r)) hx
  unfold tooMuch
  rw [decide_eq_true_iff, pull_low hb hx]
  generalize hp : low (f1 x (pr r)) x.2 = p at *
  have step1 : r.c * p.2 < p.1 ↔ r.c * x.2 < f1 x (pr r) := by
    constructor
    · intro h
      have h1 := Int.mul_lt_mul_of_pos_right h hx
      rw [← he] at h1
      have h2 : r.c * p.2 * x.2 = r.c * x.2 * p.2 := by grind
      rw [h2] at h1
      exact Int.lt_of_mul_lt_mul_right h1 (Int.le_of_lt hr.q0)
    · intro h
      have h1 := Int.mul_lt_mul_of_pos_right h hr.q0
      rw [he] at h1
      have h2 : r.c * x.2 * p.2 = r.c * p.2 * x.2 := by grind
      rw [h2] at h1
      exact Int.lt_of_mul_lt_mul_right h1 (Int.le_of_lt hx)
  rw [step1]
  unfold f1
  show r.c * x.2 < r.b * max 0 (x.1 - r.a * x.2) ↔ _
  have hcx := Int.mul_pos hc hx
  by_cases h : 0 < x.1 - r.a * x.2
  · rw [show max 0 (x.1 - r.a * x.2) = x.1 - r.a * x.2 by omega]
    have e1 : r.b * (x.1 - r.a * x.2) = r.b * x.1 - r.a * r.b * x.2 := by grind
    have e2 : (r.c + r.a * r.b) * x.2 = r.c * x.2 + r.a * r.b * x.2 := by grind
    rw [e1, e2]
    omega
  · rw [show max 0 (x.1 - r.a * x.2) = 0 by omega, Int.mul_zero]
    have e2 : (r.c + r.a * r.b) * x.2 = r.c * x.2 + r.b * (r.a * x.2) := by grind
    rw [e2]
    have h3 := Int.mul_le_mul_of_nonneg_left (show x.1 ≤ r.a * x.2 by omega) (Int.le_of_lt hb)
    omega
theorem tm_mono {r : Rope} {x y : Q} (hb : 0 < r.b) (hc : 0 < r.c) (hx : 0 < x.2) (hy : 0 < y.2) (h : x.1 * y.2 ≤ y.1 * x.2) (ht : tooMuch x r = true) : tooMuch y r = true := by
  rw [tm_iff hb hc hx] at ht
  rw [tm_iff hb hc hy]
  have h1 := Int.mul_lt_mul_of_pos_right ht hy
  have h2 := Int.mul_le_mul_of_nonneg_left h (Int.le_of_lt hb)
  have e1 : (r.c + r.a * r.b) * x.2 * y.2 = (r.c + r.a * r.b) * y.2 * x.2 := by grind
  have e2 : r.b * x.1 * y.2 = r.b * (x.1 * y.2) := by grind
  have e3 : r.b * (y.1 * x.2) = r.b * y.1 * x.2 := by grind
  rw [e1, e2] at h1
  rw [e3] at h2
  exact Int.lt_of_mul_lt_mul_right (Int.lt_of_lt_of_le h1 h2) (Int.le_of_lt hx)
/-- ropes of a bundle: sound, names unlike -/
structure Nice (lo : List Rope) : Prop where
  a : ∀ r ∈ lo, 0 ≤ r.a
  b : ∀ r ∈ lo, 0 < r.b
  c : ∀ r ∈ lo, 0 < r.c
  nd : (lo.map Rope.n).Nodup
theorem Nice.pos {lo : List Rope} (h : Nice lo) : Ma.Pos lo := ⟨h.a, h.b⟩
theorem Nice.sub {lo lo' : List Rope} (h : Nice lo) (s : lo'.Sublist lo) : Nice lo' := ⟨fun r hr => h.a r (s.subset hr), fun r hr => h.b r (s.subset hr), fun r hr => h.c r (s.subset hr), (s.map Rope.n).nodup h.nd⟩
theorem names_inj : ∀ {lo : List Rope}, (lo.map Rope.n).Nodup → ∀ {r s : Rope}, r ∈ lo → s ∈ lo → r.n = s.n → r = s
  | [], _, r, s, hr, _, _ => by cases hr
  | x :: lo, h, r, s, hr, hs, e => by
    rw [List.map_cons, List.nodup_cons] at h
    rcases List.mem_cons.mp hr with e1 | hr'
    · rcases List.mem_cons.mp hs with e2 | hs'
      · rw [e1, e2]
      · exact absurd (List.mem_map.mpr ⟨s, hs', by rw [← e, e1]⟩) h.1
    · rcases List.mem_cons.mp hs with e2 | hs'
      · exact absurd (List.mem_map.mpr ⟨r, hr', by rw [e, e2]⟩) h.1
      · exact names_inj h.2 hr' hs' e
theorem Nice.inj {lo : List Rope} (h : Nice lo) {r s : Rope} (hr : r ∈ lo) (hs : s ∈ lo) (e : r.n = s.n) : r = s := names_inj h.nd hr hs e
/-- nothing gives way -/
def Closed (lo : List Rope) (q : Q) : Prop := ∀ x, sunkOf lo q.1 q.2 = some x → ∀ r ∈ lo, tooMuch x r = false
theorem left_sub (lo : List Rope) (ns : List Str) : (leftOf lo ns).Sublist lo := List.filter_sublist
theorem left_nil (lo : List Rope) : leftOf lo [] = lo := by unfold leftOf; exact List.filter_eq_self.mpr fun r _ => rfl
def finalOf (lo : List Rope) (q : Q) : List Rope := leftOf lo (wavesOf lo q).flatten
theorem final_end {lo : List Rope} {q : Q} (h : gwOf lo q = []) : finalOf lo q = lo := by
  unfold finalOf
  rw [waves_end h]
  exact left_nil lo
theorem final_step {lo : List Rope} {q : Q} (h : gwOf lo q ≠ []) : finalOf lo q = finalOf (leftOf lo (gwOf lo q)) q := by
  unfold finalOf
  rw [waves_step h, List.flatten_cons, left_left]
theorem closed_of {lo : List Rope} {q : Q} (h : gwOf lo q = []) : Closed lo q := fun x hx r hr => by
  unfold gwOf at h
  rw [hx] at h
  have h' : lo.filter (tooMuch x) = [] := List.map_eq_nil_iff.mp h
  have := List.filter_eq_nil_iff.mp h' r hr
  simpa using this
theorem final_closed {q : Q} : ∀ (n : Nat) (lo : List Rope), lo.length ≤ n → Closed (finalOf lo q) q
  | 0, lo, h => by
    have : lo = [] := List.length_eq_zero_iff.mp (by omega)
    subst this
    rw [final_end gw_nil]
    exact closed_of gw_nil
  | n + 1, lo, h => by
    by_cases hg : gwOf lo q = []
    · rw [final_end hg]; exact closed_of hg
    · rw [final_step hg]
      exact final_closed n _ (by have := left_short hg gw_sub; omega)
/-- what is closed at a greater load stays within what is left -/
theorem final_max {q q' : Q} (hq : Red q) (hq' : Red q') (hle : q.1 * q'.2 ≤ q'.1 * q.2) : ∀ (n : Nat) (lo A : List Rope), lo.length ≤ n → Nice lo → A.Sublist lo → Closed A q' → A.Sublist (finalOf lo q)
  | 0, lo, A, h, _, hs, _ => by
    have : lo = [] := List.length_eq_zero_iff.mp (by omega)
    subst this
    rw [final_end gw_nil]; exact hs
  | n + 1, lo, A, h, hn, hs, hc => by
    by_cases hg : gwOf lo q = []
    · rw [final_end hg]; exact hs
    · rw [final_step hg]
      refine final_max hq hq' hle n _ A (by have := left_short hg gw_sub; omega) (hn.sub (left_sub _ _)) ?_ hc
      unfold leftOf
      have e : A.filter (fun r => !(gwOf lo q).contains r.n) = A := List.filter_eq_self.mpr fun r hr => by
        cases hct : (gwOf lo q).contains r.n with
        | false => rfl
        | true =>
          exfalso
          have hm := List.contains_iff_mem.mp hct
          unfold gwOf at hm
          cases hx : sunkOf lo q.1 q.2 with
          | none => rw [hx] at hm; cases hm
          | some x =>
            rw [hx] at hm
            obtain ⟨r', hr', en⟩ := List.mem_map.mp hm
            obtain ⟨hr1, hr2⟩ := List.mem_filter.mp hr'
            have er := hn.inj hr1 (hs.subset hr) en
            subst er
            obtain ⟨y, hy⟩ := sunk_some (ro := A) (t := q'.1) (b := q'.2) (fun e => by rw [e] at hr; cases hr)
            have h1 := sunk_mono hs hn.pos hq hq' hle hx hy
            have h2 := tm_mono (hn.b _ hr1) (hn.c _ hr1) (sunk_red hn.pos hq hx).q0 (sunk_red (hn.sub hs).pos hq' hy).q0 h1 hr2
            rw [hc y hy _ hr] at h2
            cases h2
      rw [← e]
      exact hs.filter _
/-! ### names -/
theorem left_congr {ro : List Rope} {a b : List Str} (h : ∀ x ∈ ro.map Rope.n, (x ∈ a ↔ x ∈ b)) : leftOf ro a = leftOf ro b := by
  unfold leftOf
  refine List.filter_congr fun r hr => ?_
  have := h r.n (List.mem_map.mpr ⟨r, hr, rfl⟩)
  congr 1
  rw [Bool.eq_iff_iff, List.contains_iff_mem, List.contains_iff_mem]
  exact this
/-- what is left behind the waves -/
theorem left_br {ro : List Rope} {ns : List Str} {q : Q} : leftOf ro (brOf ro ns q) = finalOf (leftOf ro ns) q := by
  unfold finalOf brOf
  rw [left_left]
  exact left_congr fun x _ => mem_sortN
/-- the broken ones: of the bundle, unlike, in order -/
structure Brk (ro : List Rope) (ns : List Str) : Prop where
  sub : ∀ x ∈ ns, x ∈ ro.map Rope.n
  nd : ns.Nodup
theorem waves_nodup {q : Q} : ∀ (n : Nat) (lo : List Rope), lo.length ≤ n → (lo.map Rope.n).Nodup → (wavesOf lo q).flatten.Nodup
  | 0, lo, h, _ => by
    have : lo = [] := List.length_eq_zero_iff.mp (by omega)
    subst this
    rw [waves_end gw_nil]; simp
  | n + 1, lo, h, hn => by
    by_cases hg : gwOf lo q = []
    · rw [waves_end hg]; simp
    · rw [waves_step hg, List.flatten_cons, List.nodup_append]
      have hs := left_short hg gw_sub
      refine ⟨gw_sub.nodup hn, waves_nodup n _ (by omega) (((left_sub _ _).map Rope.n).nodup hn), fun a ha b hb e => ?_⟩
      subst e
      obtain ⟨r, hr, en⟩ := List.mem_map.mp (mem_waves _ _ (Nat.le_refl _) a hb)
      have := (List.mem_filter.mp hr).2
      rw [en, List.contains_iff_mem.mpr ha] at this
      cases this
theorem leN_all : PySem.W.TotalLe leN := by
  have h := PySem.W.sortLe_total (α := Str) (PyProof.Rows.listOrd PyProof.Rows.itemOrd) false fun x => PySem.W.keyToks (.str x)
  exact ⟨h.trans, h.total⟩
theorem leN_anti {a b : Str} (h1 : leN a b = true) (h2 : leN b a = true) : a = b := by
  have e : ∀ x y : Str, leN x y = decide (x.cps.toList ≤ y.cps.toList) := fun x y => congrFun (congrFun (PySem.W.dataLe_str (β := Str) id) x) y
  rw [e] at h1 h2
  exact PySem.W.str_of_cps (List.le_antisymm (of_decide_eq_true h1) (of_decide_eq_true h2))
theorem sortN_sorted (ns : List Str) : (sortN ns).Pairwise fun a b => leN a b = true := by
  unfold sortN
  exact List.pairwise_mergeSort leN_all.trans (fun a b => by rcases leN_all.total a b with h | h <;> simp [h]) ns
theorem sortN_same {a b : List Str} (h : a.Perm b) : sortN a = sortN b :=
  List.Perm.eq_of_pairwise (fun x y _ _ h1 h2 => leN_anti h1 h2) (sortN_sorted a) (sortN_sorted b) (((List.mergeSort_perm a leN).trans h).trans (List.mergeSort_perm b leN).symm)
theorem sortN_eq {a b : List Str} (ha : a.Nodup) (hb : b.Nodup) (h : ∀ x, x ∈ a ↔ x ∈ b) : sortN a = sortN b := sortN_same ((List.perm_ext_iff_of_nodup ha hb).mpr h)
theorem sortN_idem {a : List Str} : sortN (sortN a) = sortN a := sortN_same (List.mergeSort_perm a leN)
theorem br_sorted {ro : List Rope} {ns : List Str} {q : Q} : sortN (brOf ro ns q) = brOf ro ns q := sortN_idem
theorem Brk.br {ro : List Rope} {ns : List Str} {q : Q} (hr : (ro.map Rope.n).Nodup) (h : Brk ro ns) : Brk ro (brOf ro ns q) := by
  refine ⟨fun x hx => ?_, ?_⟩
  · rcases mem_br hx with h1 | h1
    · exact h.sub x h1
    · exact h1
  · unfold brOf sortN
    refine (List.mergeSort_perm _ _).nodup_iff.mpr ?_
    rw [List.nodup_append]
    refine ⟨h.nd, waves_nodup _ _ (Nat.le_refl _) (((left_sub _ _).map Rope.n).nodup hr), fun a ha b hb e => ?_⟩
    subst e
    obtain ⟨r, hr, en⟩ := List.mem_map.mp (mem_waves _ _ (Nat.le_refl _) a hb)
    have := (List.mem_filter.mp hr).2
    rw [en, List.contains_iff_mem.mpr ha] at this
    cases this
theorem mem_left_names {ro : List Rope} {ns : List Str} {x : Str} : x ∈ (leftOf ro ns).map Rope.n ↔ x ∈ ro.map Rope.n ∧ x ∉ ns := by
  constructor
  · intro h
    obtain ⟨r, hr, rfl⟩ := List.mem_map.mp h
    obtain ⟨h1, h2⟩ := List.mem_filter.mp hr
    refine ⟨List.mem_map.mpr ⟨r, h1, rfl⟩, fun hm => ?_⟩
    rw [List.contains_iff_mem.mpr hm] at h2
    cases h2
  · rintro ⟨h1, h2⟩
    obtain ⟨r, hr, rfl⟩ := List.mem_map.mp h1
    refine List.mem_map.mpr ⟨r, List.mem_filter.mpr ⟨hr, ?_⟩, rfl⟩
    cases hc : ns.contains r.n with
    | false => rfl
    | true => exact absurd (List.contains_iff_mem.mp hc) h2
/-- two lots of broken ones that leave the same are the same -/
theorem brk_same {ro : List Rope} {a b : List Str} (ha : Brk ro a) (hb : Brk ro b) (h : leftOf ro a = leftOf ro b) : ∀ x, x ∈ a ↔ x ∈ b := fun x => by
  have e : x ∈ (leftOf ro a).map Rope.n ↔ x ∈ (leftOf ro b).map Rope.n := by rw [h]
  rw [mem_left_names, mem_left_names] at e
  constructor
  · intro hx
    rcases Classical.em (x ∈ b) with h1 | h1
    · exact h1
    · exact absurd hx (e.mpr ⟨ha.sub x hx, h1⟩).2
  · intro hx
    rcases Classical.em (x ∈ a) with h1 | h1
    · exact h1
    · exact absurd hx (e.mp ⟨hb.sub x hx, h1⟩).2
/-- sublists of one another are one -/
theorem sub_anti {A B : List Rope} (h : A.Sublist B) (k : B.Sublist A) : A = B := h.eq_of_length (Nat.le_antisymm h.length_le k.length_le)
/-- whatever order: what is closed and was come to by ropes that gave way is what the waves leave -/
theorem final_one {lo A : List Rope} {q : Q} (hq : Red q) (hn : Nice lo) (hs : A.Sublist lo) (hc : Closed A q) (hA : (finalOf lo q).Sublist A) : A = finalOf lo q :=
  sub_anti (final_max hq hq (Int.le_refl _) _ lo A (Nat.le_refl _) hn hs hc) hA
/-- a rope that gives way is none of those that are left in the end -/
theorem gives_out {lo C : List Rope} {q x : Q} {r : Rope} (hq : Red q) (hn : Nice lo) (hC : C.Sublist lo) (hF : (finalOf lo q).Sublist C) (hx : sunkOf C q.1 q.2 = some x) (ht : tooMuch x r = true) (hr : r ∈ C) : r ∉ finalOf lo q := fun hm => by
  have hcl := final_closed (q := q) _ lo (Nat.le_refl _)
  have hnC := hn.sub hC
  obtain ⟨y, hy⟩ := sunk_some (ro := finalOf lo q) (t := q.1) (b := q.2) (fun e => by rw [e] at hm; cases hm)
  have h1 := sunk_mono hF hnC.pos hq hq (Int.le_refl _) hx hy
  have h2 := tm_mono (hnC.b _ hr) (hnC.c _ hr) (sunk_red hnC.pos hq hx).q0 (sunk_red (hnC.sub hF).pos hq hy).q0 h1 ht
  rw [hcl y hy _ hm] at h2
  cases h2
/-- more broken at first, or a greater load: what is left is less -/
theorem final_less {lo lo' : List Rope} {q q' : Q} (hq : Red q) (hq' : Red q') (hle : q.1 * q'.2 ≤ q'.1 * q.2) (hn : Nice lo) (hs : lo'.Sublist lo) : (finalOf lo' q').Sublist (finalOf lo q) :=
  final_max hq hq' hle _ lo _ (Nat.le_refl _) hn ((left_sub _ _).trans hs) (final_closed _ lo' (Nat.le_refl _))
theorem br_sub {ro : List Rope} {a b : List Str} {q q' : Q} (hn : Nice ro) (hq : Red q) (hq' : Red q') (hle : q.1 * q'.2 ≤ q'.1 * q.2) (ha : Brk ro a) (hb : Brk ro b) (hab : ∀ x ∈ a, x ∈ b) : ∀ x ∈ brOf ro a q, x ∈ brOf ro b q' := fun x hx => by
  have hs : (leftOf ro b).Sublist (leftOf ro a) := by
    unfold leftOf
    have : ro.filter (fun r => !b.contains r.n) = (ro.filter (fun r => !b.contains r.n)).filter (fun r => !a.contains r.n) := (List.filter_eq_self.mpr fun r hr => by
      have h1 := (List.mem_filter.mp hr).2
      cases hc : a.contains r.n with
      | false => rfl
      | true =>
        rw [List.contains_iff_mem.mpr (hab _ (List.contains_iff_mem.mp hc))] at h1
        cases h1).symm
    rw [this]
    exact (List.filter_sublist (l := ro)).filter _
  have hf := final_less (lo := leftOf ro a) (lo' := leftOf ro b) hq hq' hle (hn.sub (left_sub _ _)) hs
  rw [← left_br, ← left_br] at hf
  have hxr := (ha.br (q := q) hn.nd).sub x hx
  rcases Classical.em (x ∈ brOf ro b q') with h | h
  · exact h
  · exfalso
    have h1 := (mem_left_names (ro := ro) (ns := brOf ro b q') (x := x)).mpr ⟨hxr, h⟩
    have h2 := (hf.map Rope.n).subset h1
    exact (mem_left_names.mp h2).2 hx
theorem br_eq {ro : List Rope} {a b : List Str} {q q' : Q} (hn : Nice ro) (ha : Brk ro a) (hb : Brk ro b) (h : leftOf ro (brOf ro a q) = leftOf ro (brOf ro b q')) : brOf ro a q = brOf ro b q' := by
  rw [← br_sorted (ro := ro) (ns := a), ← br_sorted (ro := ro) (ns := b)]
  exact sortN_eq (ha.br hn.nd).nd (hb.br hn.nd).nd (brk_same (ha.br hn.nd) (hb.br hn.nd) h)
/-- q is no greater than p -/
def leQ (q p : Q) : Prop := q.1 * p.2 ≤ p.1 * q.2
/-- a row of loads: what is broken behind it -/
theorem by_left {ro : List Rope} (hn : Nice ro) {p : Q} (hp : Red p) : ∀ (qs : List Q) (ns : List Str), (∀ q ∈ qs, Red q ∧ leQ q p) → (finalOf (leftOf ro ns) p).Sublist (leftOf ro (byN ro ns qs)) ∧ (leftOf ro (byN ro ns qs)).Sublist (leftOf ro ns)
  | [], ns, _ => ⟨left_sub _ _, List.Sublist.refl _⟩
  | q :: qs, ns, h => by
    obtain ⟨h1, h2⟩ := by_left hn hp qs (brOf ro ns q) fun z hz => h z (List.mem_cons_of_mem _ hz)
    obtain ⟨rq, lq⟩ := h q List.mem_cons_self
    have e : leftOf ro (brOf ro ns q) = finalOf (leftOf ro ns) q := left_br
    refine ⟨List.Sublist.trans ?_ h1, h2.trans (by rw [e]; exact left_sub _ _)⟩
    rw [e]
    have hA := final_less rq hp lq (hn.sub (left_sub ro ns)) (List.Sublist.refl _)
    exact final_max hp hp (Int.le_refl _) _ _ _ (Nat.le_refl _) (hn.sub ((left_sub _ _).trans (left_sub _ _))) hA (final_closed _ _ (Nat.le_refl _))
theorem by_brk {ro : List Rope} (hn : Nice ro) : ∀ (qs : List Q) (ns : List Str), Brk ro ns → Brk ro (byN ro ns qs)
  | [], ns, h => h
  | q :: qs, ns, h => by_brk hn qs _ (h.br hn.nd)
theorem by_one {ro : List Rope} (hn : Nice ro) {p : Q} (hp : Red p) : ∀ (qs : List Q) (ns : List Str), (∀ q ∈ qs, Red q ∧ leQ q p) → p ∈ qs → leftOf ro (byN ro ns qs) = finalOf (leftOf ro ns) p
  | [], _, _, h => by cases h
  | q :: qs, ns, h, hm => by
    obtain ⟨h1, _⟩ := by_left hn hp (q :: qs) ns h
    refine sub_anti ?_ h1
    obtain ⟨rq, lq⟩ := h q List.mem_cons_self
    have h' : ∀ z ∈ qs, Red z ∧ leQ z p := fun z hz => h z (List.mem_cons_of_mem _ hz)
    have e : leftOf ro (brOf ro ns q) = finalOf (leftOf ro ns) q := left_br
    show (leftOf ro (byN ro (brOf ro ns q) qs)).Sublist _
    rcases List.mem_cons.mp hm with rfl | hm
    · have := (by_left hn hp qs (brOf ro ns p) h').2
      rw [e] at this
      exact this
    · rw [by_one hn hp qs _ h' hm, e]
      refine final_less hp hp (Int.le_refl _) (hn.sub (left_sub _ _)) (left_sub _ _)
theorem by_sorted {ro : List Rope} : ∀ (qs : List Q) (ns : List Str), qs ≠ [] → sortN (byN ro ns qs) = byN ro ns qs
  | [], _, h => absurd rfl h
  | [q], ns, _ => br_sorted
  | q :: q2 :: qs, ns, _ => by_sorted (q2 :: qs) (brOf ro ns q) (List.cons_ne_nil _ _)
/-- the greatest of the row alone -/
theorem by_greatest {ro : List Rope} (hn : Nice ro) {p : Q} (hp : Red p) {qs : List Q} (h : ∀ q ∈ qs, Red q ∧ leQ q p) (hm : p ∈ qs) : byN ro [] qs = brOf ro [] p := by
  have hb : Brk ro [] := ⟨(fun x hx => by cases hx), List.nodup_nil⟩
  rw [← by_sorted qs [] (fun e => by rw [e] at hm; cases hm), ← br_sorted (ro := ro) (ns := []) (q := p)]
  refine sortN_eq (by_brk hn qs [] hb).nd (hb.br hn.nd).nd (brk_same (by_brk hn qs [] hb) (hb.br hn.nd) ?_)
  rw [by_one hn hp qs [] h hm, left_br]
end K2

namespace K2
open PySem L2 Sd Ma
local macro_rules | `(tactic| walk_at "d1") => `(tactic| first
  | ((with_reducible refine' dE_var ?dv ?_); (case dv => rfl))
  | with_reducible refine' dE_int ?_
  | with_reducible refine' dE_str ?_
  | with_reducible refine' dE_bl ?_
  | with_reducible refine' dE_non ?_
  | ((with_reducible refine' dE_nt ?dv ?_); (case dv => assumption))
  | with_reducible refine' dE_ref ?_
  | with_reducible refine' dE_op ?_
  | with_reducible refine' dE_un ?_
  | with_reducible refine' dE_cmp ?_
  | with_reducible refine' dE_isN ?_
  | with_reducible refine' dE_notN ?_
  | with_reducible refine' dE_call ?_
  | with_reducible refine' dE_cb ?_
  | with_reducible refine' dE_kw ?_
  | with_reducible refine' dE_tup ?_
  | with_reducible refine' dE_if ?_
  | with_reducible refine' dE_and ?_
  | with_reducible refine' dE_or ?_
  | with_reducible refine' dE_not ?_
  | with_reducible refine' dE_sl ?_
  | with_reducible refine' dO_none ?_
  | with_reducible refine' dO_some ?_
  | with_reducible refine' dA_cons ?_
  | with_reducible refine' dA_nil ?_
  | with_reducible refine' dT_B ?_
  | with_reducible refine' dT_test ?_
  | with_reducible refine' dT_and ?_
  | with_reducible refine' dT_or ?_
  | with_reducible refine' dT_not ?_
  | with_reducible refine' dT_yes ?_
  | with_reducible refine' dR_I0i ?_
  | with_reducible refine' dU_neg ?_
  | ((with_reducible refine' dR_ixT ?dv ?_); (case dv => rfl))
  | with_reducible refine' dS_seq ?_
  | with_reducible refine' dS_next ?_
  | with_reducible refine' dS_ret ?_
  | with_reducible refine' dS_drop ?_
  | with_reducible refine' dS_if ?_
  | with_reducible refine' dS_asg ?_
  | with_reducible refine' dS_par ?_
  | with_reducible refine' dG_name ?_
  | ((with_reducible refine' dG_tup ?dv ?_); (case dv => rfl); (dsimp only [List.map]))
  | with_reducible refine' dGs_cons ?_
  | with_reducible refine' dGs_nil ?_
  | with_reducible refine' dC_abs ?_
  | with_reducible refine' dC_max2 ?_
  | with_reducible refine' dC_min2 ?_
  | with_reducible refine' rtOf.of ?_
  | with_reducible refine' ex_cmp ?_
  | with_reducible refine' ex_bool ?_
  | with_reducible refine' ex_int ?_
  | with_reducible refine' ex_list ?_
  | with_reducible refine' ex_tup ?_
  | with_reducible refine' ex_d ?_
  | with_reducible refine' ex_m ?_
  | with_reducible refine' ex_par ?_
  | with_reducible refine' ex_rg1 ?_
  | with_reducible refine' ex_rg2 ?_
  | ((with_reducible refine' ex_dat ?dv ?dw ?_); (case dv => rfl); (case dw => exact Nat.le_of_ble_eq_true rfl))
  | ((fail_if_success (with_reducible show ∃ _, _)); (fail_if_success (with_reducible show _ ∧ _)); refine ⟨_, _, rfl, ?_⟩)
  | ((fail_if_success (with_reducible show ∃ _, _)); (fail_if_success (with_reducible show _ ∧ _)); refine ⟨_, rfl, ?_⟩)
  | fail)
local macro_rules | `(tactic| walk_at "d") => `(tactic| repeat' walk_at "d1")
local macro_rules | `(tactic| walk_at "e1") => `(tactic| first
  | ((with_reducible refine' dE_var ?dv ?_); (case dv => rfl))
  | with_reducible refine' dE_int ?_
  | with_reducible refine' dE_str ?_
  | with_reducible refine' dE_bl ?_
  | with_reducible refine' dE_non ?_
  | ((with_reducible refine' dE_nt ?dv ?_); (case dv => assumption))
  | with_reducible refine' dE_ref ?_
  | with_reducible refine' dE_op ?_
  | with_reducible refine' dE_un ?_
  | with_reducible refine' dE_cmp ?_
  | with_reducible refine' dE_isN ?_
  | with_reducible refine' dE_notN ?_
  | with_reducible refine' dE_call ?_
  | with_reducible refine' dE_cb ?_
  | with_reducible refine' dE_kw ?_
  | with_reducible refine' dE_tup ?_
  | with_reducible refine' dE_if ?_
  | with_reducible refine' dE_and ?_
  | with_reducible refine' dE_or ?_
  | with_reducible refine' dE_not ?_
  | with_reducible refine' dE_sl ?_
  | with_reducible refine' dO_none ?_
  | with_reducible refine' dO_some ?_
  | with_reducible refine' dA_cons ?_
  | with_reducible refine' dA_nil ?_
  | with_reducible refine' dT_B ?_
  | with_reducible refine' dT_test ?_
  | with_reducible refine' dT_and ?_
  | with_reducible refine' dT_or ?_
  | with_reducible refine' dT_not ?_
  | with_reducible refine' dT_yes ?_
  | with_reducible refine' dR_I0i ?_
  | with_reducible refine' dU_neg ?_
  | ((with_reducible refine' dR_ixT ?dv ?_); (case dv => rfl))
  | with_reducible refine' dS_next ?_
  | with_reducible refine' dS_ret ?_
  | with_reducible refine' dS_drop ?_
  | with_reducible refine' dS_if ?_
  | with_reducible refine' dS_asg ?_
  | with_reducible refine' dS_par ?_
  | with_reducible refine' dG_name ?_
  | ((with_reducible refine' dG_tup ?dv ?_); (case dv => rfl); (dsimp only [List.map]))
  | with_reducible refine' dGs_cons ?_
  | with_reducible refine' dGs_nil ?_
  | with_reducible refine' dC_abs ?_
  | with_reducible refine' dC_max2 ?_
  | with_reducible refine' dC_min2 ?_
  | with_reducible refine' rtOf.of ?_
  | with_reducible refine' ex_cmp ?_
  | with_reducible refine' ex_bool ?_
  | with_reducible refine' ex_int ?_
  | with_reducible refine' ex_list ?_
  | with_reducible refine' ex_tup ?_
  | with_reducible refine' ex_d ?_
  | with_reducible refine' ex_m ?_
  | with_reducible refine' ex_par ?_
  | with_reducible refine' ex_rg1 ?_
  | with_reducible refine' ex_rg2 ?_
  | ((with_reducible refine' ex_dat ?dv ?dw ?_); (case dv => rfl); (case dw => exact Nat.le_of_ble_eq_true rfl))
  | ((fail_if_success (with_reducible show ∃ _, _)); (fail_if_success (with_reducible show _ ∧ _)); refine ⟨_, _, rfl, ?_⟩)
  | ((fail_if_success (with_reducible show ∃ _, _)); (fail_if_success (with_reducible show _ ∧ _)); refine ⟨_, rfl, ?_⟩)
  | fail)
local macro_rules | `(tactic| walk_at "e") => `(tactic| repeat' walk_at "e1")

theorem atI_zero {α : Type} {x : α} {xs : List α} : atI (x :: xs) 0 = some x := by
  unfold atI ixN
  rw [if_pos (Int.le_refl 0), if_pos (by rw [List.length_cons]; omega)]
  rfl
theorem leQ_refl (q : Q) : leQ q q := Int.le_refl _
theorem leQ_trans {a b c : Q} (ha : 0 < a.2) (hb : 0 < b.2) (hc : 0 < c.2) (h1 : leQ a b) (h2 : leQ b c) : leQ a c := by
  unfold leQ at *
  have k1 := Int.mul_le_mul_of_nonneg_right h1 (Int.le_of_lt hc)
  have k2 := Int.mul_le_mul_of_nonneg_right h2 (Int.le_of_lt ha)
  have e1 : a.1 * b.2 * c.2 = a.1 * c.2 * b.2 := by grind
  have e2 : b.1 * a.2 * c.2 = b.1 * c.2 * a.2 := by grind
  have e3 : c.1 * b.2 * a.2 = c.1 * a.2 * b.2 := by grind
  rw [e1, e2] at k1
  rw [e3] at k2
  exact Int.le_of_mul_le_mul_right (Int.le_trans k1 k2) hb
theorem leQ_total (a b : Q) : leQ a b ∨ leQ b a := Int.le_total _ _
/-- the load that a part more makes is no less -/
theorem leQ_plus {x y : Q} (hx : Red x) (hy : Red y) : leQ x (plus x y) := by
  have hb : 0 < x.2 * y.2 := Int.mul_pos hx.q0 hy.q0
  have he := low_eq (t := x.1 * y.2 + y.1 * x.2) hb
  unfold leQ plus
  generalize hp : low (x.1 * y.2 + y.1 * x.2) (x.2 * y.2) = p at *
  have ht : 0 ≤ x.1 * y.2 + y.1 * x.2 := by have := Int.mul_nonneg hx.p0 (Int.le_of_lt hy.q0); have := Int.mul_nonneg hy.p0 (Int.le_of_lt hx.q0); omega
  have hr : Red p := hp ▸ low_red ht hb
  have h1 : x.1 * p.2 * (x.2 * y.2) ≤ p.1 * x.2 * (x.2 * y.2) := by
    have e1 : p.1 * x.2 * (x.2 * y.2) = x.2 * (p.1 * (x.2 * y.2)) := by grind
    have e2 : x.1 * p.2 * (x.2 * y.2) = x.2 * (x.1 * y.2 * p.2) := by grind
    rw [e1, e2, ← he]
    refine Int.mul_le_mul_of_nonneg_left ?_ (Int.le_of_lt hx.q0)
    have e3 : (x.1 * y.2 + y.1 * x.2) * p.2 = x.1 * y.2 * p.2 + y.1 * x.2 * p.2 := by grind
    rw [e3]
    have := Int.mul_nonneg (Int.mul_nonneg hy.p0 (Int.le_of_lt hx.q0)) (Int.le_of_lt hr.q0)
    omega
  exact Int.le_of_mul_le_mul_right h1 hb
section
variable {P : Program} {w : World} {K : PySem.W.Frag} {mg : Str → Option Value} {base : Heap} {f : Addr} {fd : FuncData}
theorem LOk.fr {q : Q} (h : LOk q) : Fr 3000 q := ⟨h.toRed, h.s1.up (by decide), h.s2.up (by decide)⟩
def S_greatest : SpD := fun rs M P => ∃ qs : List Q, rs = [.d (.list (qs.map fr))] ∧ qs ≠ [] ∧ (∀ q ∈ qs, LOk q) ∧ ∀ p ∈ qs, (∀ q ∈ qs, leQ q p) → P (.d (fr p)) M
def S_pullsF : SpD := fun rs M P => ∃ (ro : List Rope) (ns : List Str) (q : Q), rs = [.d (bd ro), .d (nm ns), .d (fr q)] ∧ BOk ro ∧ LOk q ∧ P (.d (.list ((leftOf ro ns).map (pullD (sunkOf (leftOf ro ns) q.1 q.2))))) M
theorem pulls_frz {k : Nat} (h : Has P w K mg base k "pulls" ["bundle", "broken", "load"] S_pulls) : Has P w K mg base k "pulls" ["bundle", "broken", "load"] S_pullsF := h.frz fun rs M P h => by
  obtain ⟨ro, ns, q, rfl, hB, hL, p⟩ := h
  exact ⟨_, p, ro, ns, q, rfl, hB, hL, fun a ha => ⟨a, ha, rfl, rfl⟩⟩
/-- the strengths by their names -/
def stg (ro : List Rope) : List (Str × PyData) := ro.map fun r => (r.n, fr (r.c, 1))
theorem stg_at : ∀ {ro : List Rope}, (ro.map Rope.n).Nodup → ∀ {r : Rope}, r ∈ ro → (stg ro).lookup r.n = some (fr (r.c, 1))
  | [], _, r, h => by cases h
  | x :: ro, nd, r, h => by
    rw [List.map_cons, List.nodup_cons] at nd
    show List.lookup r.n ((x.n, fr (x.c, 1)) :: stg ro) = _
    rcases List.mem_cons.mp h with rfl | h
    · rw [List.lookup_cons_self]
    · have ne : (r.n == x.n) = false := beq_eq_false_iff_ne.mpr fun e => nd.1 (List.mem_map.mpr ⟨r, h, e⟩)
      rw [List.lookup_cons, ne]
      exact stg_at nd.2 h
theorem Bun.nice {ro : List Rope} (h : Bun ro) : Nice ro := ⟨fun r hr => (h.fine r hr).a0, fun r hr => by have := (h.fine r hr).b0; omega, fun r hr => by have := (h.fine r hr).c0; omega, by
  exact h.ris.imp fun {a b} k e => by subst e; exact List.lt_irrefl _ k⟩
/-- the names that give way among those that are left, as the law finds them by the pulls -/
def overN (lo : List Rope) (q : Q) : List Rope := lo.filter (tooMuch ((sunkOf lo q.1 q.2).getD (0, 1)))
theorem over_closed {lo : List Rope} {q : Q} (h : overN lo q = []) : Closed lo q := fun x hx r hr => by
  unfold overN at h
  rw [hx] at h
  simpa using List.filter_eq_nil_iff.mp h r hr
theorem over_none {lo : List Rope} {q : Q} (h : Closed lo q) (hq : LOk q) : overN lo q = [] := by
  unfold overN
  cases hx : sunkOf lo q.1 q.2 with
  | some x => exact List.filter_eq_nil_iff.mpr fun r hr => by rw [show (some x).getD (0, 1) = x from rfl, h x hx r hr]; decide
  | none =>
    cases lo with
    | nil => rfl
    | cons r rs =>
      obtain ⟨y, hy⟩ := sunk_some (ro := r :: rs) (t := q.1) (b := q.2) (List.cons_ne_nil _ _)
      rw [hx] at hy
      cases hy
theorem over_sunk {lo : List Rope} {q : Q} {r : Rope} (h : r ∈ overN lo q) : ∃ x, sunkOf lo q.1 q.2 = some x ∧ tooMuch x r = true ∧ r ∈ lo := by
  obtain ⟨h1, h2⟩ := List.mem_filter.mp h
  obtain ⟨y, hy⟩ := sunk_some (ro := lo) (t := q.1) (b := q.2) (fun e => by rw [e] at h1; cases h1)
  exact ⟨y, hy, by rw [hy] at h2; exact h2, h1⟩
end
end K2

namespace K2
open PySem L2 Sd Ma
local macro_rules | `(tactic| walk_at "d1") => `(tactic| first
  | ((with_reducible refine' dE_var ?dv ?_); (case dv => rfl))
  | with_reducible refine' dE_int ?_
  | with_reducible refine' dE_str ?_
  | with_reducible refine' dE_bl ?_
  | with_reducible refine' dE_non ?_
  | ((with_reducible refine' dE_nt ?dv ?_); (case dv => assumption))
  | with_reducible refine' dE_ref ?_
  | with_reducible refine' dE_op ?_
  | with_reducible refine' dE_un ?_
  | with_reducible refine' dE_cmp ?_
  | with_reducible refine' dE_isN ?_
  | with_reducible refine' dE_notN ?_
  | with_reducible refine' dE_call ?_
  | with_reducible refine' dE_cb ?_
  | with_reducible refine' dE_kw ?_
  | with_reducible refine' dE_tup ?_
  | with_reducible refine' dE_if ?_
  | with_reducible refine' dE_and ?_
  | with_reducible refine' dE_or ?_
  | with_reducible refine' dE_not ?_
  | with_reducible refine' dE_sl ?_
  | with_reducible refine' dO_none ?_
  | with_reducible refine' dO_some ?_
  | with_reducible refine' dA_cons ?_
  | with_reducible refine' dA_nil ?_
  | with_reducible refine' dT_B ?_
  | with_reducible refine' dT_test ?_
  | with_reducible refine' dT_and ?_
  | with_reducible refine' dT_or ?_
  | with_reducible refine' dT_not ?_
  | with_reducible refine' dT_yes ?_
  | with_reducible refine' dR_I0i ?_
  | with_reducible refine' dU_neg ?_
  | ((with_reducible refine' dR_ixT ?dv ?_); (case dv => rfl))
  | with_reducible refine' dS_seq ?_
  | with_reducible refine' dS_next ?_
  | with_reducible refine' dS_ret ?_
  | with_reducible refine' dS_drop ?_
  | with_reducible refine' dS_if ?_
  | with_reducible refine' dS_asg ?_
  | with_reducible refine' dS_par ?_
  | with_reducible refine' dG_name ?_
  | ((with_reducible refine' dG_tup ?dv ?_); (case dv => rfl); (dsimp only [List.map]))
  | with_reducible refine' dGs_cons ?_
  | with_reducible refine' dGs_nil ?_
  | with_reducible refine' dC_abs ?_
  | with_reducible refine' dC_max2 ?_
  | with_reducible refine' dC_min2 ?_
  | with_reducible refine' rtOf.of ?_
  | with_reducible refine' ex_cmp ?_
  | with_reducible refine' ex_bool ?_
  | with_reducible refine' ex_int ?_
  | with_reducible refine' ex_list ?_
  | with_reducible refine' ex_tup ?_
  | with_reducible refine' ex_d ?_
  | with_reducible refine' ex_m ?_
  | with_reducible refine' ex_par ?_
  | with_reducible refine' ex_rg1 ?_
  | with_reducible refine' ex_rg2 ?_
  | ((with_reducible refine' ex_dat ?dv ?dw ?_); (case dv => rfl); (case dw => exact Nat.le_of_ble_eq_true rfl))
  | ((fail_if_success (with_reducible show ∃ _, _)); (fail_if_success (with_reducible show _ ∧ _)); refine ⟨_, _, rfl, ?_⟩)
  | ((fail_if_success (with_reducible show ∃ _, _)); (fail_if_success (with_reducible show _ ∧ _)); refine ⟨_, rfl, ?_⟩)
  | fail)
local macro_rules | `(tactic| walk_at "d") => `(tactic| repeat' walk_at "d1")
local macro_rules | `(tactic| walk_at "e1") => `(tactic| first
  | ((with_reducible refine' dE_var ?dv ?_); (case dv => rfl))
  | with_reducible refine' dE_int ?_
  | with_reducible refine' dE_str ?_
  | with_reducible refine' dE_bl ?_
  | with_reducible refine' dE_non ?_
  | ((with_reducible refine' dE_nt ?dv ?_); (case dv => assumption))
  | with_reducible refine' dE_ref ?_
  | with_reducible refine' dE_op ?_
  | with_reducible refine' dE_un ?_
  | with_reducible refine' dE_cmp ?_
  | with_reducible refine' dE_isN ?_
  | with_reducible refine' dE_notN ?_
  | with_reducible refine' dE_call ?_
  | with_reducible refine' dE_cb ?_
  | with_reducible refine' dE_kw ?_
  | with_reducible refine' dE_tup ?_
  | with_reducible refine' dE_if ?_
  | with_reducible refine' dE_and ?_
  | with_reducible refine' dE_or ?_
  | with_reducible refine' dE_not ?_
  | with_reducible refine' dE_sl ?_
  | with_reducible refine' dO_none ?_
  | with_reducible refine' dO_some ?_
  | with_reducible refine' dA_cons ?_
  | with_reducible refine' dA_nil ?_
  | with_reducible refine' dT_B ?_
  | with_reducible refine' dT_test ?_
  | with_reducible refine' dT_and ?_
  | with_reducible refine' dT_or ?_
  | with_reducible refine' dT_not ?_
  | with_reducible refine' dT_yes ?_
  | with_reducible refine' dR_I0i ?_
  | with_reducible refine' dU_neg ?_
  | ((with_reducible refine' dR_ixT ?dv ?_); (case dv => rfl))
  | with_reducible refine' dS_next ?_
  | with_reducible refine' dS_ret ?_
  | with_reducible refine' dS_drop ?_
  | with_reducible refine' dS_if ?_
  | with_reducible refine' dS_asg ?_
  | with_reducible refine' dS_par ?_
  | with_reducible refine' dG_name ?_
  | ((with_reducible refine' dG_tup ?dv ?_); (case dv => rfl); (dsimp only [List.map]))
  | with_reducible refine' dGs_cons ?_
  | with_reducible refine' dGs_nil ?_
  | with_reducible refine' dC_abs ?_
  | with_reducible refine' dC_max2 ?_
  | with_reducible refine' dC_min2 ?_
  | with_reducible refine' rtOf.of ?_
  | with_reducible refine' ex_cmp ?_
  | with_reducible refine' ex_bool ?_
  | with_reducible refine' ex_int ?_
  | with_reducible refine' ex_list ?_
  | with_reducible refine' ex_tup ?_
  | with_reducible refine' ex_d ?_
  | with_reducible refine' ex_m ?_
  | with_reducible refine' ex_par ?_
  | with_reducible refine' ex_rg1 ?_
  | with_reducible refine' ex_rg2 ?_
  | ((with_reducible refine' ex_dat ?dv ?dw ?_); (case dv => rfl); (case dw => exact Nat.le_of_ble_eq_true rfl))
  | ((fail_if_success (with_reducible show ∃ _, _)); (fail_if_success (with_reducible show _ ∧ _)); refine ⟨_, _, rfl, ?_⟩)
  | ((fail_if_success (with_reducible show ∃ _, _)); (fail_if_success (with_reducible show _ ∧ _)); refine ⟨_, rfl, ?_⟩)
  | fail)
local macro_rules | `(tactic| walk_at "e") => `(tactic| repeat' walk_at "e1")

/-- x is worth more than y -/
def gtQ (x y : Q) : Bool := decide (y.1 * x.2 < x.1 * y.2)
section
variable {P : Program} {w : World} {K : PySem.W.Frag} {mg : Str → Option Value} {base : Heap} {f : Addr} {fd : FuncData}
def S_more : SpD := fun rs M P => ∃ x y : Q, rs = [.d (fr x), .d (fr y)] ∧ Fr 3000 x ∧ Fr 3000 y ∧ P (.d (.bool (gtQ x y))) M
abbrev s_is_more : Stmt := topS 7
theorem sc_is_more : FnScope ["one", "other"] ["one", "other"] (defScope s_is_more) := ⟨rfl, rfl, rfl, by decide +kernel, rfl, by decide +kernel, by decide +kernel⟩
theorem ok_is_more (F : Fun K "is_more" "is_more" s_is_more f fd) : FnOk P w K mg base CX0 1 f fd ["one", "other"] (spOf K S_more) := by
  refine ok_of F sc_is_more (fun rs M P h => by obtain ⟨a, b, rfl, _⟩ := h; rfl) fun cdv A outer s H E hr => ⟨_, (pss_one (ps_ret (pe_cmp (pc_gt (pe_op op_mulW (pe_ix (kix_tup K) (pv 0) pe_int (fun _ _ => rfl)) (pe_ix (kix_tup K) (pv 1) pe_int (fun _ _ => rfl))) (pe_op op_mulW (pe_ix (kix_tup K) (pv 1) pe_int (fun _ _ => rfl)) (pe_ix (kix_tup K) (pv 0) pe_int (fun _ _ => rfl))))))), fun rs M P h => ?_⟩
  obtain ⟨x, y, rfl, hx, hy, p⟩ := h
  walk_at "d"
  refine dR_Ii (hx.s1.mulOk hy.s2 (by decide) (by decide) (by decide)) ?_
  walk_at "d"
  refine dR_Ii (hy.s1.mulOk hx.s2 (by decide) (by decide) (by decide)) ?_
  walk_at "d"
  exact p
abbrev s_plus : Stmt := topS 8
theorem sc_plus : FnScope ["one", "other"] ["one", "other"] (defScope s_plus) := ⟨rfl, rfl, rfl, by decide +kernel, rfl, by decide +kernel, by decide +kernel⟩
theorem ok_plus (F : Fun K "plus" "plus" s_plus f fd) (c_fraction : Has P w K mg base 2 "fraction" ["top", "bottom"] S_fraction) : FnOk P w K mg base CX0 3 f fd ["one", "other"] (spOf K S_plus) := by
  refine ok_of F sc_plus (fun rs M P h => by obtain ⟨a, b, rfl, _⟩ := h; rfl) fun cdv A outer s H E hr => ⟨_, (pss_one (ps_ret (pe_callH' c_fraction (hr.mono (by first | decide | omega)) rfl (pa_cons (pe_op op_add (pe_op op_mulW (pe_ix (kix_tup K) (pv 0) pe_int (fun _ _ => rfl)) (pe_ix (kix_tup K) (pv 1) pe_int (fun _ _ => rfl))) (pe_op op_mulW (pe_ix (kix_tup K) (pv 1) pe_int (fun _ _ => rfl)) (pe_ix (kix_tup K) (pv 0) pe_int (fun _ _ => rfl)))) (pa_cons (pe_op op_mulW (pe_ix (kix_tup K) (pv 0) pe_int (fun _ _ => rfl)) (pe_ix (kix_tup K) (pv 1) pe_int (fun _ _ => rfl))) pa_nil))))), fun rs M P h => ?_⟩
  obtain ⟨x, y, rfl, hx, hy, p⟩ := h
  walk_at "d"
  refine dR_Ii (hx.s1.mulOk hy.s2 (by decide) (by decide) (by decide)) ?_
  walk_at "d"
  refine dR_Ii (hy.s1.mulOk hx.s2 (by decide) (by decide) (by decide)) ?_
  walk_at "d"
  refine dR_Ii (hx.s2.mulOk hy.s2 (by decide) (by decide) (by decide)) ?_
  walk_at "d"
  exact ⟨by have := Int.mul_nonneg hx.p0 (Int.le_of_lt hy.q0); have := Int.mul_nonneg hy.p0 (Int.le_of_lt hx.q0); omega, Int.mul_pos hx.q0 hy.q0, (hx.s2.mul hy.s2).up (by decide), rtOf.of p⟩
abbrev s_end_of : Stmt := topS 30
theorem sc_end_of : FnScope ["rope", "name", "slack", "stiff", "strong"] ["rope"] (defScope s_end_of) := ⟨rfl, rfl, rfl, by decide +kernel, rfl, by decide +kernel, by decide +kernel⟩
theorem ok_end_of (F : Fun K "end_of" "end_of" s_end_of f fd) (c_fraction : Has P w K mg base 2 "fraction" ["top", "bottom"] S_fraction) : FnOk P w K mg base CX0 3 f fd ["rope"] (spOf K S_end) := by
  refine ok_of F sc_end_of (fun rs M P h => by obtain ⟨a, rfl, _⟩ := h; rfl) fun cdv A outer s H E hr => ⟨_, (pss_cons (ps_asg (pv 0) (kpg_tup K (n := 4) rfl (pgs_cons (pg_name (i := 1) sc_end_of.nd rfl (Or.inl rfl)) (pgs_cons (pg_name (i := 2) sc_end_of.nd rfl (Or.inl rfl)) (pgs_cons (pg_name (i := 3) sc_end_of.nd rfl (Or.inl rfl)) (pgs_cons (pg_name (i := 4) sc_end_of.nd rfl (Or.inl rfl)) pgs_nil))))))
      (pss_one (ps_ret (pe_callH' c_fraction (hr.mono (by first | decide | omega)) rfl (pa_cons (pe_op op_add (pe_op op_mulW (pv 2) (pv 3)) (pv 4)) (pa_cons (pv 3) pa_nil)))))), fun rs M P h => ?_⟩
  obtain ⟨r, rfl, hf, p⟩ := h
  have ho := fine_ok hf
  walk_at "d"
  refine dR_Ii (ho.aS.mulOk ho.bS (by decide) (by decide) (by decide)) ?_
  walk_at "d"
  exact ⟨by have := Int.mul_nonneg hf.a0 (Int.le_of_lt ho.b0); have := ho.c0; omega, ho.b0, ho.bS.up (by decide), rtOf.of p⟩
end
/-! ### rising -/
abbrev ltQ (x y : Q) : Prop := x.1 * y.2 < y.1 * x.2
/-- the fractions, rising, none twice -/
structure Ris (out qs : List Q) : Prop where
  pw : out.Pairwise ltQ
  mem : ∀ q, q ∈ out ↔ q ∈ qs
theorem nodup_len {α : Type} [DecidableEq α] : ∀ (l D : List α), l.Nodup → (∀ x ∈ l, x ∈ D) → l.length ≤ D.length
  | [], _, _, _ => Nat.zero_le _
  | x :: l, D, nd, h => by
    have hx := h x List.mem_cons_self
    have nd' := List.nodup_cons.mp nd
    have := nodup_len l (D.erase x) nd'.2 fun y hy => (List.mem_erase_of_ne (fun e : y = x => nd'.1 (by rw [← e]; exact hy))).mpr (h y (List.mem_cons_of_mem _ hy))
    rw [List.length_erase_of_mem hx] at this
    have := List.length_pos_of_mem hx
    rw [List.length_cons]
    omega
theorem lcm_step {c b : Int} (hc : 0 < c) (hb : 0 < b) : 0 < c / (Int.gcd c b : Int) * b ∧ c ∣ c / (Int.gcd c b : Int) * b ∧ b ∣ c / (Int.gcd c b : Int) * b ∧ c / (Int.gcd c b : Int) * b ≤ c * b := by
  have hg : 0 < (Int.gcd c b : Int) := gcd_pos hb
  have h1 : (Int.gcd c b : Int) * (c / (Int.gcd c b : Int)) = c := Int.mul_ediv_cancel' (Int.gcd_dvd_left c b)
  have h2 : (Int.gcd c b : Int) * (b / (Int.gcd c b : Int)) = b := Int.mul_ediv_cancel' (Int.gcd_dvd_right c b)
  have hle : c / (Int.gcd c b : Int) ≤ c := Int.ediv_le_self _ (Int.le_of_lt hc)
  have hpos : 0 < c / (Int.gcd c b : Int) := by
    rcases Int.lt_or_le 0 (c / (Int.gcd c b : Int)) with h | h
    · exact h
    · exfalso
      have := Int.mul_nonneg (Int.le_of_lt hg) (show 0 ≤ -(c / (Int.gcd c b : Int)) by omega)
      rw [Int.mul_neg, h1] at this
      omega
  refine ⟨Int.mul_pos hpos hb, ⟨b / (Int.gcd c b : Int), ?_⟩, ⟨c / (Int.gcd c b : Int), Int.mul_comm _ _⟩, Int.mul_le_mul_of_nonneg_right hle (Int.le_of_lt hb)⟩
  generalize (Int.gcd c b : Int) = g at *
  generalize c / g = c' at *
  generalize b / g = b' at *
  rw [← h1, ← h2]
  grind
/-- over a common bottom -/
theorem over {q : Q} {c : Int} (hq : Red q) (hc : 0 < c) (hd : q.2 ∣ c) : 0 ≤ q.1 * (c / q.2) ∧ low (q.1 * (c / q.2)) c = q := by
  have h1 : q.2 * (c / q.2) = c := Int.mul_ediv_cancel' hd
  have hn : 0 ≤ q.1 * (c / q.2) := Int.mul_nonneg hq.p0 (Int.ediv_nonneg (Int.le_of_lt hc) (Int.le_of_lt hq.q0))
  refine ⟨hn, low_unique hn hc hq ?_⟩
  generalize c / q.2 = d at *
  rw [← h1]
  grind
theorem ris_of {qs : List Q} {c : Int} {ns : List Int} (hc : 0 < c) (hq : ∀ q ∈ qs, Red q ∧ q.2 ∣ c) (pw : ns.Pairwise (· < ·)) (mem : ∀ k, k ∈ ns ↔ k ∈ qs.map fun q => q.1 * (c / q.2)) : Ris (ns.map fun t => low t c) qs := by
  have hn : ∀ k ∈ ns, ∃ q ∈ qs, k = q.1 * (c / q.2) := fun k hk => by
    obtain ⟨q, h1, h2⟩ := List.mem_map.mp ((mem k).mp hk)
    exact ⟨q, h1, h2.symm⟩
  refine ⟨?_, fun q => ?_⟩
  · rw [List.pairwise_map]
    refine List.Pairwise.imp_of_mem (fun {a b} ha hb hab => ?_) pw
    obtain ⟨x, hx, rfl⟩ := hn a ha
    obtain ⟨y, hy, rfl⟩ := hn b hb
    have ex := over (hq x hx).1 hc (hq x hx).2
    have ey := over (hq y hy).1 hc (hq y hy).2
    show (low (x.1 * (c / x.2)) c).1 * (low (y.1 * (c / y.2)) c).2 < (low (y.1 * (c / y.2)) c).1 * (low (x.1 * (c / x.2)) c).2
    rw [ex.2, ey.2]
    have h1 : x.2 * (c / x.2) = c := Int.mul_ediv_cancel' (hq x hx).2
    have h2 : y.2 * (c / y.2) = c := Int.mul_ediv_cancel' (hq y hy).2
    have px := (hq x hx).1.q0
    have py := (hq y hy).1.q0
    have h3 := Int.mul_lt_mul_of_pos_right hab (Int.mul_pos px py)
    generalize c / x.2 = d at *
    generalize c / y.2 = e at *
    have e1 : x.1 * d * (x.2 * y.2) = x.1 * y.2 * (x.2 * d) := by grind
    have e2 : y.1 * e * (x.2 * y.2) = y.1 * x.2 * (y.2 * e) := by grind
    rw [e1, e2, h1, h2] at h3
    exact Int.lt_of_mul_lt_mul_right h3 (Int.le_of_lt hc)
  · constructor
    · intro h
      obtain ⟨k, hk, rfl⟩ := List.mem_map.mp h
      obtain ⟨x, hx, rfl⟩ := hn k hk
      rw [(over (hq x hx).1 hc (hq x hx).2).2]
      exact hx
    · intro h
      exact List.mem_map.mpr ⟨_, (mem _).mpr (List.mem_map.mpr ⟨q, h, rfl⟩), (over (hq q h).1 hc (hq q h).2).2⟩
section
variable {P : Program} {w : World} {K : PySem.W.Frag} {mg : Str → Option Value} {base : Heap} {f : Addr} {fd : FuncData}
def S_rising : SpD := fun rs M P => ∃ qs : List Q, rs = [.d (.list (qs.map fr))] ∧ qs.length < 64 ∧ (∀ q ∈ qs, Fr 100 q) ∧ ∀ out : List Q, Ris out qs → P (.d (.list (out.map fr))) M
abbrev s_rising : Stmt := topS 9
theorem sc_rising : FnScope ["fractions", "common", "top", "bottom", "tops"] ["fractions"] (defScope s_rising) := ⟨rfl, rfl, rfl, by decide +kernel, rfl, by decide +kernel, by decide +kernel⟩
theorem ok_rising (T : Txt mg) (F : Fun K "rising" "rising" s_rising f fd) (c_common_divisor : Has P w K mg base 1 "common_divisor" ["one", "other"] S_cd) (c_fraction : Has P w K mg base 2 "fraction" ["top", "bottom"] S_fraction) : FnOk P w K mg base CX0 3 f fd ["fractions"] (spOf K S_rising) := by
  refine ok_of F sc_rising (fun rs M P h => by obtain ⟨a, rfl, _⟩ := h; rfl) fun cdv A outer s H E hr => ⟨_, (pss_cons (ps_set (i := 1) sc_rising.nd rfl (Or.inr rfl) pe_int)
      (pss_cons (ps_for PassesOwn.never rfl (kpi_list K (pv 0)) (kpg_tup K (n := 2) rfl (pgs_cons (pg_name (i := 2) sc_rising.nd rfl (Or.inl rfl)) (pgs_cons (pg_name (i := 3) sc_rising.nd rfl (Or.inl rfl)) pgs_nil))) (pss_one (ps_set (i := 1) sc_rising.nd rfl (Or.inr rfl) (pe_op op_mulW (pe_op op_fdivW (pv 1) (pe_callH' c_common_divisor (hr.mono (by first | decide | omega)) rfl (pa_cons (pv 1) (pa_cons (pv 3) pa_nil)))) (pv 3)))))
      (pss_cons (ps_set (i := 4) sc_rising.nd rfl (Or.inl rfl) (pe_callB (cr_srtZ (w := w) rfl rfl) (by rfl) T.sorted (by decide +kernel) (pa_cons (pe_zc (w := w) rfl (own := [("top", 2), ("bottom", 3)]) (by rfl) sc_rising.nd (kpi_list K (pv 0)) (blkOk_by (N := ["fractions", "common", "top", "bottom", "tops"]) (sc := defScope s_rising) (own := [("top", 2), ("bottom", 3)]) (by decide +kernel)) (fun _ _ _ _ _ => (kpg_tup K (n := 2) rfl (pgs_cons (pg_name (i := 2) sc_rising.nd rfl (Or.inl rfl)) (pgs_cons (pg_name (i := 3) sc_rising.nd rfl (Or.inl rfl)) pgs_nil)))) (fun _ _ _ _ _ => pts_nil) (fun _ _ _ _ _ => (pe_op op_mulW (pv 2) (pe_op op_fdivW (pv 1) (pv 3))))) pa_nil)))
      (pss_one (ps_ret (pe_lc (own := [("top", 2)]) (by rfl) sc_rising.nd (kpi_list K (pv 4)) (blkOk_by (N := ["fractions", "common", "top", "bottom", "tops"]) (sc := defScope s_rising) (own := [("top", 2)]) (by decide +kernel)) (fun _ _ _ _ _ => (pg_name (i := 2) sc_rising.nd rfl (Or.inl rfl))) (fun _ _ _ _ _ => pts_nil) (fun _ _ _ _ _ => (pe_callH' c_fraction (hr.mono (by first | decide | omega)) rfl (pa_cons (pv 2) (pa_cons (pv 1) pa_nil)))))))))), fun rs M P h => ?_⟩
  obtain ⟨qs, rfl, hl, hq, p⟩ := h
  walk_at "d"
  refine dS_forL ?_
  walk_at "d"
  refine ⟨fun i δ M' => ∃ (c : Int) (x1 x2 x3 : Option SV), δ = [some (.d (.list (qs.map fr))), some (.d (.int c)), x1, x2, x3] ∧ M' = M ∧ 0 < c ∧ Sz (1 + 100 * i) c ∧ ∀ q ∈ qs.take i, q.2 ∣ c, ⟨1, _, _, _, rfl, rfl, by decide, (by decide : (1 : Int).natAbs < 2 ^ 1), by simp⟩, fun i x δ M' hx hI => ?_, fun δ M' hI => ?_⟩
  · obtain ⟨c, x1, x2, x3, rfl, rfl, hc, zc, hd⟩ := hI
    obtain ⟨q, hq1, rfl⟩ := getElem?_map_some hx
    have hqq := hq q (List.mem_of_getElem? hq1)
    have hi : i < qs.length := (List.getElem?_eq_some_iff.mp hq1).1
    obtain ⟨l1, l2, l3, l4⟩ := lcm_step hc hqq.q0
    have hg := gcd_pos (t := c) hqq.q0
    walk_at "d"
    refine ⟨Int.le_of_lt hc, Int.le_of_lt hqq.q0, ?_⟩
    walk_at "d"
    refine dR_Ii (wide_div hg (wide_le (Int.le_of_lt hg) (gcd_le hqq.q0) hqq.s2) (by decide) (by decide)) ?_
    walk_at "d"
    refine dR_Ii (Sz.mulOk (m := 1 + 100 * i) (zc.le (Int.ediv_nonneg (Int.le_of_lt hc) (Int.le_of_lt hg)) (Int.ediv_le_self _ (Int.le_of_lt hc))) hqq.s2 (by omega) (by decide) (by omega)) ?_
    walk_at "d"
    refine ⟨_, _, _, _, rfl, rfl, l1, Sz.up (m := 1 + 100 * i + 100) ((zc.mul hqq.s2).le (Int.le_of_lt l1) l4) (by omega), fun z hz => ?_⟩
    rw [List.take_succ, hq1] at hz
    rcases List.mem_append.mp hz with h | h
    · exact Int.dvd_trans (hd z h) l2
    · rw [List.mem_singleton.mp h]; exact l3
  · obtain ⟨c, x1, x2, x3, rfl, rfl, hc, zc, hd⟩ := hI
    rw [List.length_map] at zc hd
    rw [List.take_length] at hd
    have zc' : Sz 6401 c := zc.up (by omega)
    refine dS_seq (dS_asg ?_)
    refine dE_srtZ (gw_name2 2 2 3 (by decide)) ?_
    walk_at "d"
    refine ⟨by rw [List.length_map]; exact hl, fun i acc M2 => M2 = M' ∧ acc = (qs.take i).map (fun q => q.1 * (c / q.2)), ⟨rfl, rfl⟩, fun i x acc M2 hx hI => ?_, fun acc M2 hI ns pw mem => ?_⟩
    · obtain ⟨rfl, rfl⟩ := hI
      obtain ⟨q, hq1, rfl⟩ := getElem?_map_some hx
      have hqq := hq q (List.mem_of_getElem? hq1)
      walk_at "d"
      refine dR_Ii (wide_div hqq.q0 hqq.s2 (by decide) (by decide)) ?_
      walk_at "d"
      refine dR_Ii (hqq.s1.mulOk (zc'.le (Int.ediv_nonneg (Int.le_of_lt hc) (Int.le_of_lt hqq.q0)) (Int.ediv_le_self _ (Int.le_of_lt hc))) (by decide) (by decide) (by decide)) ?_
      walk_at "d"
      refine ⟨rfl, ?_⟩
      rw [List.take_succ, hq1, List.map_append]
      rfl
    · obtain ⟨rfl, rfl⟩ := hI
      rw [List.length_map, List.take_length] at mem
      have R := ris_of hc (fun q hqm => ⟨(hq q hqm).toRed, hd q hqm⟩) pw mem
      have h0 : ∀ t ∈ ns, 0 ≤ t := fun t ht => by
        obtain ⟨q, hqm, rfl⟩ := List.mem_map.mp ((mem t).mp ht)
        exact (over (hq q hqm).toRed hc (hd q hqm)).1
      have hnl : ns.length ≤ 40000 := by
        have h1 : ns.Nodup := pw.imp fun h => Int.ne_of_lt h
        have h2 := nodup_len ns _ h1 fun k hk => (mem k).mp hk
        rw [List.length_map] at h2
        omega
      walk_at "d"
      refine dE_lcL (gw_name 2) ?_
      walk_at "d"
      refine ⟨by rw [List.length_map]; exact hnl, fun i acc M3 => M3 = M2 ∧ acc = (ns.take i).map (fun t => fr (low t c)), ⟨rfl, rfl⟩, fun i x acc M3 hx hI => ?_, fun acc M3 hI => .inl ?_⟩
      · obtain ⟨rfl, rfl⟩ := hI
        obtain ⟨t, ht1, rfl⟩ := getElem?_map_some hx
        walk_at "d"
        refine ifT rfl ?_
        walk_at "d"
        refine ⟨h0 t (List.mem_of_getElem? ht1), hc, zc'.up (by decide), ?_⟩
        walk_at "d"
        refine ⟨rfl, ?_⟩
        rw [List.take_succ, ht1, List.map_append]
        rfl
      · obtain ⟨rfl, rfl⟩ := hI
        rw [List.length_map, List.take_length]
        have := p _ R
        rw [List.map_map] at this
        exact rtOf.of this
end
end K2

namespace K2
open PySem L2 Sd Ma
local macro_rules | `(tactic| walk_at "d1") => `(tactic| first
  | ((with_reducible refine' dE_var ?dv ?_); (case dv => rfl))
  | with_reducible refine' dE_int ?_
  | with_reducible refine' dE_str ?_
  | with_reducible refine' dE_bl ?_
  | with_reducible refine' dE_non ?_
  | ((with_reducible refine' dE_nt ?dv ?_); (case dv => assumption))
  | with_reducible refine' dE_ref ?_
  | with_reducible refine' dE_op ?_
  | with_reducible refine' dE_un ?_
  | with_reducible refine' dE_cmp ?_
  | with_reducible refine' dE_isN ?_
  | with_reducible refine' dE_notN ?_
  | with_reducible refine' dE_call ?_
  | with_reducible refine' dE_cb ?_
  | with_reducible refine' dE_kw ?_
  | with_reducible refine' dE_tup ?_
  | with_reducible refine' dE_if ?_
  | with_reducible refine' dE_and ?_
  | with_reducible refine' dE_or ?_
  | with_reducible refine' dE_not ?_
  | with_reducible refine' dE_sl ?_
  | with_reducible refine' dO_none ?_
  | with_reducible refine' dO_some ?_
  | with_reducible refine' dA_cons ?_
  | with_reducible refine' dA_nil ?_
  | with_reducible refine' dT_B ?_
  | with_reducible refine' dT_test ?_
  | with_reducible refine' dT_and ?_
  | with_reducible refine' dT_or ?_
  | with_reducible refine' dT_not ?_
  | with_reducible refine' dT_yes ?_
  | with_reducible refine' dR_I0i ?_
  | with_reducible refine' dU_neg ?_
  | ((with_reducible refine' dR_ixT ?dv ?_); (case dv => rfl))
  | with_reducible refine' dS_seq ?_
  | with_reducible refine' dS_next ?_
  | with_reducible refine' dS_ret ?_
  | with_reducible refine' dS_drop ?_
  | with_reducible refine' dS_if ?_
  | with_reducible refine' dS_asg ?_
  | with_reducible refine' dS_par ?_
  | with_reducible refine' dG_name ?_
  | ((with_reducible refine' dG_tup ?dv ?_); (case dv => rfl); (dsimp only [List.map]))
  | with_reducible refine' dGs_cons ?_
  | with_reducible refine' dGs_nil ?_
  | with_reducible refine' dC_abs ?_
  | with_reducible refine' dC_max2 ?_
  | with_reducible refine' dC_min2 ?_
  | with_reducible refine' rtOf.of ?_
  | with_reducible refine' ex_cmp ?_
  | with_reducible refine' ex_bool ?_
  | with_reducible refine' ex_int ?_
  | with_reducible refine' ex_list ?_
  | with_reducible refine' ex_tup ?_
  | with_reducible refine' ex_d ?_
  | with_reducible refine' ex_m ?_
  | with_reducible refine' ex_par ?_
  | with_reducible refine' ex_rg1 ?_
  | with_reducible refine' ex_rg2 ?_
  | ((with_reducible refine' ex_dat ?dv ?dw ?_); (case dv => rfl); (case dw => exact Nat.le_of_ble_eq_true rfl))
  | ((fail_if_success (with_reducible show ∃ _, _)); (fail_if_success (with_reducible show _ ∧ _)); refine ⟨_, _, rfl, ?_⟩)
  | ((fail_if_success (with_reducible show ∃ _, _)); (fail_if_success (with_reducible show _ ∧ _)); refine ⟨_, rfl, ?_⟩)
  | fail)
local macro_rules | `(tactic| walk_at "d") => `(tactic| repeat' walk_at "d1")
local macro_rules | `(tactic| walk_at "e1") => `(tactic| first
  | ((with_reducible refine' dE_var ?dv ?_); (case dv => rfl))
  | with_reducible refine' dE_int ?_
  | with_reducible refine' dE_str ?_
  | with_reducible refine' dE_bl ?_
  | with_reducible refine' dE_non ?_
  | ((with_reducible refine' dE_nt ?dv ?_); (case dv => assumption))
  | with_reducible refine' dE_ref ?_
  | with_reducible refine' dE_op ?_
  | with_reducible refine' dE_un ?_
  | with_reducible refine' dE_cmp ?_
  | with_reducible refine' dE_isN ?_
  | with_reducible refine' dE_notN ?_
  | with_reducible refine' dE_call ?_
  | with_reducible refine' dE_cb ?_
  | with_reducible refine' dE_kw ?_
  | with_reducible refine' dE_tup ?_
  | with_reducible refine' dE_if ?_
  | with_reducible refine' dE_and ?_
  | with_reducible refine' dE_or ?_
  | with_reducible refine' dE_not ?_
  | with_reducible refine' dE_sl ?_
  | with_reducible refine' dO_none ?_
  | with_reducible refine' dO_some ?_
  | with_reducible refine' dA_cons ?_
  | with_reducible refine' dA_nil ?_
  | with_reducible refine' dT_B ?_
  | with_reducible refine' dT_test ?_
  | with_reducible refine' dT_and ?_
  | with_reducible refine' dT_or ?_
  | with_reducible refine' dT_not ?_
  | with_reducible refine' dT_yes ?_
  | with_reducible refine' dR_I0i ?_
  | with_reducible refine' dU_neg ?_
  | ((with_reducible refine' dR_ixT ?dv ?_); (case dv => rfl))
  | with_reducible refine' dS_next ?_
  | with_reducible refine' dS_ret ?_
  | with_reducible refine' dS_drop ?_
  | with_reducible refine' dS_if ?_
  | with_reducible refine' dS_asg ?_
  | with_reducible refine' dS_par ?_
  | with_reducible refine' dG_name ?_
  | ((with_reducible refine' dG_tup ?dv ?_); (case dv => rfl); (dsimp only [List.map]))
  | with_reducible refine' dGs_cons ?_
  | with_reducible refine' dGs_nil ?_
  | with_reducible refine' dC_abs ?_
  | with_reducible refine' dC_max2 ?_
  | with_reducible refine' dC_min2 ?_
  | with_reducible refine' rtOf.of ?_
  | with_reducible refine' ex_cmp ?_
  | with_reducible refine' ex_bool ?_
  | with_reducible refine' ex_int ?_
  | with_reducible refine' ex_list ?_
  | with_reducible refine' ex_tup ?_
  | with_reducible refine' ex_d ?_
  | with_reducible refine' ex_m ?_
  | with_reducible refine' ex_par ?_
  | with_reducible refine' ex_rg1 ?_
  | with_reducible refine' ex_rg2 ?_
  | ((with_reducible refine' ex_dat ?dv ?dw ?_); (case dv => rfl); (case dw => exact Nat.le_of_ble_eq_true rfl))
  | ((fail_if_success (with_reducible show ∃ _, _)); (fail_if_success (with_reducible show _ ∧ _)); refine ⟨_, _, rfl, ?_⟩)
  | ((fail_if_success (with_reducible show ∃ _, _)); (fail_if_success (with_reducible show _ ∧ _)); refine ⟨_, rfl, ?_⟩)
  | fail)
local macro_rules | `(tactic| walk_at "e") => `(tactic| repeat' walk_at "e1")

/-- what these ropes pull together at x -/
def sumOf (ro : List Rope) (x : Q) : Q := low (F x (ro.map pr)) x.2
theorem fine_pos {ro : List Rope} (h : ∀ r ∈ ro, r.Fine) : PosB (ro.map pr) := fun p hp => by
  obtain ⟨r, hr, rfl⟩ := List.mem_map.mp hp
  exact (fine_ok (h r hr)).b0
theorem F_le {x : Q} (hx : En x) : ∀ {ro : List Rope}, (∀ r ∈ ro, r.Fine) → 0 ≤ F x (ro.map pr) ∧ F x (ro.map pr) ≤ 110000000 * ro.length
  | [], _ => ⟨Int.le_refl 0, by simp [F_nil]⟩
  | r :: ro, h => by
    obtain ⟨h1, h2⟩ := F_le hx (ro := ro) fun z hz => h z (List.mem_cons_of_mem _ hz)
    obtain ⟨h3, h4⟩ := f1_le (h r List.mem_cons_self) hx
    rw [List.map_cons, F_cons, List.length_cons]
    exact ⟨by omega, by push_cast; omega⟩
theorem sum_mk {ro : List Rope} {x : Q} (hl : ro.length ≤ 8) (h : ∀ r ∈ ro, r.Fine) (hx : En x) : Mk (sumOf ro x) := by
  obtain ⟨h1, h2⟩ := F_le hx h
  exact low_mk h1 (by omega) hx
theorem Mk.fr3 {q : Q} (h : Mk q) : Fr 3000 q := ⟨h.toRed, (sz_lt (n := 60) h.p0 (by have := h.t; omega)).up (by decide), (sz_lt (n := 60) (Int.le_of_lt h.q0) (by have := h.u; omega)).up (by decide)⟩
theorem Mk.fr1 {q : Q} (h : Mk q) : Fr 100 q := ⟨h.toRed, (sz_lt (n := 60) h.p0 (by have := h.t; omega)).up (by decide), (sz_lt (n := 60) (Int.le_of_lt h.q0) (by have := h.u; omega)).up (by decide)⟩
theorem En.fr1 {q : Q} (h : En q) : Fr 100 q := ⟨h.toRed, (sz_lt (n := 60) h.p0 (by have := h.t; omega)).up (by decide), (sz_lt (n := 60) (Int.le_of_lt h.q0) (by have := h.u; omega)).up (by decide)⟩
theorem nought_fr {n : Nat} (h : 1 ≤ n) : Fr n (0, 1) := ⟨⟨by decide, by decide, by decide⟩, Nat.pow_pos (by decide), Nat.lt_of_lt_of_le (by decide) (Nat.pow_le_pow_right (by decide) h)⟩
/-- the ropes that last to x -/
def lasts (ro : List Rope) (x : Q) : List Rope := ro.filter fun r => !gtQ x (endOf r)
def capOf (ro : List Rope) (x : Q) : Q := sumOf (lasts ro x) x
theorem lasts_fine {ro : List Rope} {x : Q} (h : ∀ r ∈ ro, r.Fine) : ∀ r ∈ lasts ro x, r.Fine := fun r hr => h r (List.mem_filter.mp hr).1
theorem cap_mk {ro : List Rope} {x : Q} (hl : ro.length ≤ 8) (h : ∀ r ∈ ro, r.Fine) (hx : En x) : Mk (capOf ro x) := sum_mk (Nat.le_trans (List.length_filter_le _ _) hl) (lasts_fine h) hx
/-- the greatest of some, nought where there is none -/
def best (l : List Q) : Q := l.foldl (fun m x => if gtQ x m = true then x else m) (0, 1)
section
variable {P : Program} {w : World} {K : PySem.W.Frag} {mg : Str → Option Value} {base : Heap} {f : Addr} {fd : FuncData}
theorem sum_fr {ro : List Rope} {x : Q} (hl : ro.length ≤ 8) (h : ∀ r ∈ ro, r.Fine) (hx : QOk x) : Fr 800 (sumOf ro x) := by
  obtain ⟨h1, h2⟩ := Fsz hx fun r hr => fine_ok (h r hr)
  have hr := low_red h1 hx.q0
  have hl2 := low_le h1 hx.q0
  exact ⟨hr, (h2.le hr.p0 hl2.1).up (by omega), (hx.s2.le (Int.le_of_lt hr.q0) hl2.2).up (by decide)⟩
def S_pulled : SpD := fun rs M P => ∃ (ro : List Rope) (x : Q), rs = [.d (ld ro), .d (fr x)] ∧ ro.length ≤ 8 ∧ (∀ r ∈ ro, r.Fine) ∧ QOk x ∧ P (.d (fr (sumOf ro x))) M
abbrev s_pulled_at : Stmt := topS 25
theorem sc_pulled_at : FnScope ["ropes", "sunk", "together", "rope"] ["ropes", "sunk"] (defScope s_pulled_at) := ⟨rfl, rfl, rfl, by decide +kernel, rfl, by decide +kernel, by decide +kernel⟩
theorem ok_pulled_at {a_N : Addr} (N : Nt K mg a_N) (F0 : Fun K "pulled_at" "pulled_at" s_pulled_at f fd) (c_plus : Has P w K mg base 3 "plus" ["one", "other"] S_plus) (c_pull_at : Has P w K mg base 3 "pull_at" ["rope", "sunk"] S_pull) : FnOk P w K mg base CX0 4 f fd ["ropes", "sunk"] (spOf K S_pulled) := by
  refine ok_of F0 sc_pulled_at (fun rs M P h => by obtain ⟨a, b, rfl, _⟩ := h; rfl) fun cdv A outer s H E hr => ⟨_, (pss_cons (ps_set (i := 2) sc_pulled_at.nd rfl (Or.inl rfl) (pe_glob (v := .ref a_N) rfl N.m rfl))
      (pss_cons (ps_for PassesOwn.never rfl (kpi_list K (pv 0)) (pg_name (i := 3) sc_pulled_at.nd rfl (Or.inl rfl)) (pss_one (ps_set (i := 2) sc_pulled_at.nd rfl (Or.inl rfl) (pe_callH' c_plus (hr.mono (by first | decide | omega)) rfl (pa_cons (pv 2) (pa_cons (pe_callH' c_pull_at (hr.mono (by first | decide | omega)) rfl (pa_cons (pv 3) (pa_cons (pv 1) pa_nil))) pa_nil))))))
      (pss_one (ps_ret (pv 2))))), fun rs M P h => ?_⟩
  obtain ⟨ro, x, rfl, hl, hf, hx, p⟩ := h
  walk_at "d"
  refine dS_forL ?_
  walk_at "d"
  refine ⟨fun i δ M' => ∃ (x1 : Option SV), δ = [some (.d (ld ro)), some (.d (fr x)), some (.d (fr (sumOf (ro.take i) x))), x1] ∧ M' = M, ⟨_, by unfold sumOf; rw [List.take_zero, List.map_nil, F_nil, low_zero hx.q0]; rfl, rfl⟩, fun i y δ M' hy hI => ?_, fun δ M' hI => ?_⟩
  · obtain ⟨x1, rfl, rfl⟩ := hI
    obtain ⟨r, hr1, rfl⟩ := getElem?_map_some hy
    have hrf := hf r (List.mem_of_getElem? hr1)
    have hft : ∀ z ∈ ro.take i, z.Fine := fun z hz => hf z (List.mem_of_mem_take hz)
    have hm := sum_fr (x := x) (Nat.le_trans (List.length_take_le _ _) (Nat.le_trans (show i ≤ ro.length from Nat.le_of_lt (List.getElem?_eq_some_iff.mp hr1).1) hl)) hft hx
    walk_at "d"
    refine ⟨fine_ok hrf, hx.q0, hx.s1.up (by decide), hx.s2.up (by decide), ?_⟩
    walk_at "d"
    refine ⟨⟨hm.toRed, hm.s1.up (by decide), hm.s2.up (by decide)⟩, pull_sz (fine_ok hrf) hx, ?_⟩
    · walk_at "d"
      refine ⟨some (.d r.d), ?_, rfl⟩
      have e : plus (sumOf (ro.take i) x) (pullOf r x) = sumOf (ro.take (i + 1)) x := by
        rw [pull_low (fine_ok hrf).b0 hx.q0]
        unfold sumOf
        rw [low_plus (F_nn (fine_pos hft)) (f1_nn (fine_ok hrf).b0) hx.q0, List.take_succ, hr1, List.map_append, F_append]
        show low _ _ = low (_ + F x [pr r]) _
        rw [F_cons, F_nil, Int.add_zero]
      rw [← e]
      rfl
  · obtain ⟨x1, rfl, rfl⟩ := hI
    rw [List.length_map, List.take_length]
    walk_at "d"
    exact p
def S_lasting : SpD := fun rs M P => ∃ (ro : List Rope) (x : Q), rs = [.d (bd ro), .d (fr x)] ∧ ro.length ≤ 8 ∧ (∀ r ∈ ro, r.Fine) ∧ En x ∧ P (.d (ld (lasts ro x))) M
abbrev s_lasting_to : Stmt := topS 31
theorem sc_lasting_to : FnScope ["ropes", "sunk", "rope"] ["ropes", "sunk"] (defScope s_lasting_to) := ⟨rfl, rfl, rfl, by decide +kernel, rfl, by decide +kernel, by decide +kernel⟩
theorem ok_lasting_to (F0 : Fun K "lasting_to" "lasting_to" s_lasting_to f fd) (c_is_more : Has P w K mg base 1 "is_more" ["one", "other"] S_more) (c_end_of : Has P w K mg base 3 "end_of" ["rope"] S_end) : FnOk P w K mg base CX0 4 f fd ["ropes", "sunk"] (spOf K S_lasting) := by
  refine ok_of F0 sc_lasting_to (fun rs M P h => by obtain ⟨a, b, rfl, _⟩ := h; rfl) fun cdv A outer s H E hr => ⟨_, (pss_one (ps_ret (pe_lc (own := [("rope", 2)]) (by rfl) sc_lasting_to.nd (kpi_tup K (pv 0)) (blkOk_by (N := ["ropes", "sunk", "rope"]) (sc := defScope s_lasting_to) (own := [("rope", 2)]) (by decide +kernel)) (fun _ _ _ _ _ => (pg_name (i := 2) sc_lasting_to.nd rfl (Or.inl rfl))) (fun _ _ _ _ _ => (pts_one (pt_not (pt_val (pe_callH' c_is_more (hr.mono (by first | decide | omega)) rfl (pa_cons (pv 1) (pa_cons (pe_callH' c_end_of (hr.mono (by first | decide | omega)) rfl (pa_cons (pv 2) pa_nil)) pa_nil))))))) (fun _ _ _ _ _ => (pv 2))))), fun rs M P h => ?_⟩
  obtain ⟨ro, x, rfl, hl, hf, hx, p⟩ := h
  walk_at "d"
  refine dE_lcT (gw_name 2) ?_
  walk_at "d"
  refine ⟨by rw [List.length_map]; omega, fun i acc M' => M' = M ∧ acc = (lasts (ro.take i) x).map Rope.d, ⟨rfl, rfl⟩, fun i y acc M' hy hI => ?_, fun acc M' hI => .inl ?_⟩
  · obtain ⟨rfl, rfl⟩ := hI
    obtain ⟨r, hr1, rfl⟩ := getElem?_map_some hy
    have hrf := hf r (List.mem_of_getElem? hr1)
    have ht : ro.take (i + 1) = ro.take i ++ [r] := by rw [List.take_succ, hr1]; rfl
    walk_at "d"
    refine ⟨hrf, ?_⟩
    walk_at "d"
    refine ⟨hx.fr, (end_en hrf).fr, ?_⟩
    walk_at "d"
    refine ifB (fun h => ?_) (fun h => ?_)
    · walk_at "d"
      refine ⟨rfl, ?_⟩
      rw [ht]
      unfold lasts
      rw [List.filter_append, List.map_append, List.filter_cons, if_pos h]
      rfl
    · refine ⟨rfl, ?_⟩
      rw [ht]
      unfold lasts
      rw [List.filter_append, List.map_append, List.filter_cons, if_neg (by rw [h]; decide)]
      simp
  · obtain ⟨rfl, rfl⟩ := hI
    rw [List.length_map, List.take_length]
    exact rtOf.of p
abbrev tabD (ro : List Rope) (e : Q) : PyData := .tuple [fr e, fr (capOf ro e)]
def S_table : SpD := fun rs M P => ∃ ro : List Rope, rs = [.d (bd ro)] ∧ ro.length ≤ 8 ∧ (∀ r ∈ ro, r.Fine) ∧ ∀ es : List Q, Ris es (ro.map endOf) → P (.d (.tuple (es.map (tabD ro)))) M
theorem ris_len {es qs : List Q} (h : Ris es qs) : es.length ≤ qs.length := by
  refine nodup_len es qs (h.pw.imp fun {a b} hab e => ?_) fun x hx => (h.mem x).mp hx
  subst e
  exact Int.lt_irrefl _ hab
abbrev s_table : Stmt := topS 27
theorem sc_table : FnScope ["bundle", "ends", "rope", "end"] ["bundle"] (defScope s_table) := ⟨rfl, rfl, rfl, by decide +kernel, rfl, by decide +kernel, by decide +kernel⟩
theorem ok_table (T : Txt mg) (F0 : Fun K "table" "table" s_table f fd) (c_rising : Has P w K mg base 3 "rising" ["fractions"] S_rising) (c_end_of : Has P w K mg base 3 "end_of" ["rope"] S_end) (c_pulled_at : Has P w K mg base 4 "pulled_at" ["ropes", "sunk"] S_pulled) (c_lasting_to : Has P w K mg base 4 "lasting_to" ["ropes", "sunk"] S_lasting) : FnOk P w K mg base CX0 5 f fd ["bundle"] (spOf K S_table) := by
  refine ok_of F0 sc_table (fun rs M P h => by obtain ⟨a, rfl, _⟩ := h; rfl) fun cdv A outer s H E hr => ⟨_, (pss_cons (ps_set (i := 1) sc_table.nd rfl (Or.inl rfl) (pe_callH' c_rising (hr.mono (by first | decide | omega)) rfl (pa_cons (pe_lc (own := [("rope", 2)]) (by rfl) sc_table.nd (kpi_tup K (pv 0)) (blkOk_by (N := ["bundle", "ends", "rope", "end"]) (sc := defScope s_table) (own := [("rope", 2)]) (by decide +kernel)) (fun _ _ _ _ _ => (pg_name (i := 2) sc_table.nd rfl (Or.inl rfl))) (fun _ _ _ _ _ => pts_nil) (fun _ _ _ _ _ => (pe_callH' c_end_of (hr.mono (by first | decide | omega)) rfl (pa_cons (pv 2) pa_nil)))) pa_nil)))
      (pss_one (ps_ret (pe_callTy (kcall_tuple K) (by rfl) T.tuple (by decide +kernel) (pa_cons (pe_lc (own := [("end", 3)]) (by rfl) sc_table.nd (kpi_list K (pv 1)) (blkOk_by (N := ["bundle", "ends", "rope", "end"]) (sc := defScope s_table) (own := [("end", 3)]) (by decide +kernel)) (fun _ _ _ _ _ => (pg_name (i := 3) sc_table.nd rfl (Or.inl rfl))) (fun _ _ _ _ _ => pts_nil) (fun _ _ _ _ _ => (pe_tup (pa_cons (pv 3) (pa_cons (pe_callH' c_pulled_at (hr.mono (by first | decide | omega)) rfl (pa_cons (pe_callH' c_lasting_to (hr.mono (by first | decide | omega)) rfl (pa_cons (pv 0) (pa_cons (pv 3) pa_nil))) (pa_cons (pv 3) pa_nil))) pa_nil))))) pa_nil))))), fun rs M P h => ?_⟩
  obtain ⟨ro, rfl, hl, hf, p⟩ := h
  walk_at "d"
  refine dE_lcT (gw_name 2) ?_
  walk_at "d"
  refine ⟨by rw [List.length_map]; omega, fun i acc M' => M' = M ∧ acc = ((ro.take i).map endOf).map fr, ⟨rfl, rfl⟩, fun i y acc M' hy hI => ?_, fun acc M' hI => .inl ?_⟩
  · obtain ⟨rfl, rfl⟩ := hI
    obtain ⟨r, hr1, rfl⟩ := getElem?_map_some hy
    have hrf := hf r (List.mem_of_getElem? hr1)
    walk_at "d"
    refine ifT rfl ?_
    walk_at "d"
    refine ⟨hrf, ?_⟩
    walk_at "d"
    refine ⟨rfl, ?_⟩
    rw [List.take_succ, hr1, List.map_append, List.map_append]
    rfl
  · obtain ⟨rfl, rfl⟩ := hI
    rw [List.length_map, List.take_length]
    walk_at "d"
    refine ⟨by rw [List.length_map]; omega, fun q hq => ?_, fun es hes => ?_⟩
    · obtain ⟨r, hr1, rfl⟩ := List.mem_map.mp hq
      exact (end_en (hf r hr1)).fr1
    have hen : ∀ e ∈ es, En e := fun e he => by
      obtain ⟨r, hr1, rfl⟩ := List.mem_map.mp ((hes.mem e).mp he)
      exact end_en (hf r hr1)
    have hel := ris_len hes
    rw [List.length_map] at hel
    walk_at "d"
    refine dE_lcL (gw_name 3) ?_
    walk_at "d"
    refine ⟨by rw [List.length_map]; omega, fun i acc M3 => M3 = M' ∧ acc = (es.take i).map (tabD ro), ⟨rfl, rfl⟩, fun i y acc M3 hy hI => ?_, fun acc M3 hI => .inl ?_⟩
    · obtain ⟨rfl, rfl⟩ := hI
      obtain ⟨e, he1, rfl⟩ := getElem?_map_some hy
      have he := hen e (List.mem_of_getElem? he1)
      walk_at "d"
      refine ifT rfl ?_
      walk_at "d"
      refine ⟨hl, hf, he, ?_⟩
      walk_at "d"
      refine ⟨Nat.le_trans (List.length_filter_le _ _) hl, lasts_fine hf, he.qok, ?_⟩
      walk_at "d"
      refine ⟨rfl, ?_⟩
      rw [List.take_succ, he1, List.map_append]
      rfl
    · obtain ⟨rfl, rfl⟩ := hI
      rw [List.length_map, List.take_length]
      walk_at "d"
      refine dC_tuple (.inl rfl) ?_
      exact rtOf.of (p es hes)
end
end K2

namespace K2
open PySem L2 Sd Ma
/-! ### which loads a rope stands -/
theorem gt_le {x y : Q} : gtQ x y = false ↔ leQ x y := by
  unfold gtQ leQ
  rw [decide_eq_false_iff_not]
  omega
theorem gt_lt {x y : Q} : gtQ x y = true ↔ ltQ y x := by
  unfold gtQ
  rw [decide_eq_true_iff]
theorem le_low {q x : Q} {X : Int} (hX : 0 ≤ X) (hx : 0 < x.2) (hq : 0 < q.2) : leQ q (low X x.2) ↔ q.1 * x.2 ≤ X * q.2 := by
  have hr := low_red hX hx
  have he := low_eq (t := X) hx
  unfold leQ
  generalize low X x.2 = z at *
  constructor
  · intro h
    have h1 := Int.mul_le_mul_of_nonneg_right h (Int.le_of_lt hx)
    have e1 : q.1 * z.2 * x.2 = q.1 * x.2 * z.2 := by grind
    have e2 : z.1 * q.2 * x.2 = z.1 * x.2 * q.2 := by grind
    rw [e1, e2, ← he] at h1
    have e3 : X * z.2 * q.2 = X * q.2 * z.2 := by grind
    rw [e3] at h1
    exact Int.le_of_mul_le_mul_right h1 hr.q0
  · intro h
    have h1 := Int.mul_le_mul_of_nonneg_right h (Int.le_of_lt hr.q0)
    have e3 : X * q.2 * z.2 = X * z.2 * q.2 := by grind
    rw [e3, he] at h1
    have e1 : q.1 * x.2 * z.2 = q.1 * z.2 * x.2 := by grind
    have e2 : z.1 * x.2 * q.2 = z.1 * q.2 * x.2 := by grind
    rw [e1, e2] at h1
    exact Int.le_of_mul_le_mul_right h1 hx
theorem end_red {r : Rope} (ha : 0 ≤ r.a) (hb : 0 < r.b) (hc : 0 < r.c) : Red (endOf r) := low_red (by have := Int.mul_nonneg ha (Int.le_of_lt hb); omega) hb
/-- a rope gives way just where the bar is beyond its end -/
theorem tm_end {r : Rope} {x : Q} (ha : 0 ≤ r.a) (hb : 0 < r.b) (hc : 0 < r.c) (hx : 0 < x.2) : tooMuch x r = false ↔ leQ x (endOf r) := by
  have h0 : 0 ≤ r.a * r.b + r.c := by have := Int.mul_nonneg ha (Int.le_of_lt hb); omega
  have e : leQ x (endOf r) ↔ x.1 * r.b ≤ (r.a * r.b + r.c) * x.2 := le_low (x := (0, r.b)) h0 hb hx
  rw [e, ← Bool.not_eq_true, tm_iff hb hc hx]
  have e1 : (r.c + r.a * r.b) * x.2 = (r.a * r.b + r.c) * x.2 := by rw [Int.add_comm]
  have e2 : r.b * x.1 = x.1 * r.b := Int.mul_comm _ _
  rw [e1, e2]
  omega
theorem lasts_sub (ro : List Rope) (x : Q) : (lasts ro x).Sublist ro := List.filter_sublist
theorem mem_lasts {ro : List Rope} {x : Q} {r : Rope} : r ∈ lasts ro x ↔ r ∈ ro ∧ leQ x (endOf r) := by
  unfold lasts
  rw [List.mem_filter, ← gt_le]
  cases gtQ x (endOf r) <;> simp
theorem leQ_nought {q x : Q} (hq : q.1 = 0) (hq2 : 0 < q.2) (hx : Red x) : leQ q x := by
  unfold leQ
  rw [hq, Int.zero_mul]
  exact Int.mul_nonneg hx.p0 (Int.le_of_lt hq2)
theorem lasts_closed {ro : List Rope} {x q : Q} (hn : Nice ro) (hx : Red x) (hq : Red q) (h : leQ q (capOf ro x)) : Closed (lasts ro x) q := fun y hy r hr => by
  have hs := hn.sub (lasts_sub ro x)
  have ry := sunk_red hs.pos hq hy
  have hF := sunk_F hs.pos hq.p0 hq.q0 hy
  obtain ⟨hr1, hr2⟩ := mem_lasts.mp hr
  have re := end_red (hn.a r hr1) (hn.b r hr1) (hn.c r hr1)
  rw [tm_end (hn.a r hr1) (hn.b r hr1) (hn.c r hr1) ry.q0]
  refine leQ_trans ry.q0 hx.q0 re.q0 ?_ hr2
  have h' : q.1 * x.2 ≤ F x ((lasts ro x).map pr) * q.2 := (le_low (F_nn hs.pos.pb) hx.q0 hq.q0).mp h
  generalize lasts ro x = T at *
  rcases Int.lt_or_le (x.1 * y.2) (y.1 * x.2) with hlt | hle
  · exfalso
    obtain ⟨h1, h2⟩ := F_lt hx.q0 ry.q0 hlt hs.pos.pb
    have n1 := F_nn (q := y) hs.pos.pb
    rcases Int.lt_or_le 0 (F y (T.map pr)) with h4 | h4
    · have h5 := Int.mul_lt_mul_of_pos_right (h2 h4) hq.q0
      have h6 := Int.mul_le_mul_of_nonneg_right h' (Int.le_of_lt ry.q0)
      have e1 : F y (T.map pr) * x.2 * q.2 = F y (T.map pr) * q.2 * x.2 := by grind
      rw [e1, hF] at h5
      have e2 : q.1 * y.2 * x.2 = q.1 * x.2 * y.2 := by grind
      have e3 : F x (T.map pr) * y.2 * q.2 = F x (T.map pr) * q.2 * y.2 := by grind
      rw [e2, e3] at h5
      omega
    · have h5 : F y (T.map pr) = 0 := by omega
      rw [h5, Int.zero_mul] at hF
      have ht : q.1 = 0 := by
        rcases Int.mul_eq_zero.mp hF.symm with h | h
        · exact h
        · have := ry.q0; omega
      unfold sunkOf at hy
      rw [if_pos ht] at hy
      cases hy
      have := hx.p0
      simp at hlt
      omega
  · exact hle
theorem whole_if {ro : List Rope} {x q : Q} {r : Rope} (hn : Nice ro) (hx : Red x) (hq : Red q) (hr : r ∈ ro) (he : leQ x (endOf r)) (h : leQ q (capOf ro x)) : r ∈ finalOf ro q :=
  (final_max hq hq (Int.le_refl _) _ ro (lasts ro x) (Nat.le_refl _) hn (lasts_sub ro x) (lasts_closed hn hx hq h)).subset (mem_lasts.mpr ⟨hr, he⟩)
/-- the least of some -/
theorem least_end : ∀ (S : List Rope), S ≠ [] → (∀ r ∈ S, Red (endOf r)) → ∃ s ∈ S, ∀ t ∈ S, leQ (endOf s) (endOf t)
  | [], h, _ => absurd rfl h
  | [r], _, _ => ⟨r, List.mem_cons_self, fun t ht => by rw [List.mem_singleton.mp ht]; exact leQ_refl _⟩
  | r :: r2 :: S, _, h => by
    obtain ⟨s, hs, hl⟩ := least_end (r2 :: S) (List.cons_ne_nil _ _) fun z hz => h z (List.mem_cons_of_mem _ hz)
    rcases leQ_total (endOf r) (endOf s) with h1 | h1
    · refine ⟨r, List.mem_cons_self, fun t ht => ?_⟩
      rcases List.mem_cons.mp ht with rfl | ht
      · exact leQ_refl _
      · exact leQ_trans (h r List.mem_cons_self).q0 (h s (List.mem_cons_of_mem _ hs)).q0 (h t (List.mem_cons_of_mem _ ht)).q0 h1 (hl t ht)
    · refine ⟨s, List.mem_cons_of_mem _ hs, fun t ht => ?_⟩
      rcases List.mem_cons.mp ht with rfl | ht
      · exact h1
      · exact hl t ht
theorem F_mono {x y : Q} (hx : 0 < x.2) (hy : 0 < y.2) (h : leQ x y) {ps : List Pr} (hp : PosB ps) : F x ps * y.2 ≤ F y ps * x.2 := by
  rcases Int.lt_or_le (x.1 * y.2) (y.1 * x.2) with h1 | h1
  · exact (F_lt hx hy h1 hp).1
  · have e : x.1 * y.2 = y.1 * x.2 := Int.le_antisymm h h1
    have all : ∀ {ps : List Pr}, PosB ps → F x ps * y.2 = F y ps * x.2 := fun {ps} => by
      induction ps with
      | nil => intro _; rw [F_nil, F_nil]; omega
      | cons p ps ih =>
        intro hp
        rw [F_cons, F_cons, Int.add_mul, Int.add_mul, ih fun z hz => hp z (List.mem_cons_of_mem _ hz)]
        have : f1 x p * y.2 = f1 y p * x.2 := by
          unfold f1
          have e2 : (x.1 - p.1 * x.2) * y.2 = (y.1 - p.1 * y.2) * x.2 := by grind
          generalize x.1 - p.1 * x.2 = u at *
          generalize y.1 - p.1 * y.2 = v at *
          have key : max 0 u * y.2 = max 0 v * x.2 := by
            by_cases hu : 0 ≤ u
            · have hv : 0 ≤ v := by
                rcases Int.lt_or_le v 0 with h | h
                · exfalso
                  have a1 := Int.mul_nonneg hu (Int.le_of_lt hy)
                  have a2 := Int.mul_pos (show 0 < -v by omega) hx
                  rw [Int.neg_mul] at a2
                  omega
                · exact h
              rw [show max 0 u = u by omega, show max 0 v = v by omega]
              exact e2
            · have hv : v ≤ 0 := by
                rcases Int.lt_or_le 0 v with h | h
                · exfalso
                  have a1 := Int.mul_pos (show 0 < -u by omega) hy
                  have a2 := Int.mul_pos h hx
                  rw [Int.neg_mul] at a1
                  omega
                · exact h
              rw [show max 0 u = 0 by omega, show max 0 v = 0 by omega, Int.zero_mul, Int.zero_mul]
          rw [Int.mul_assoc, Int.mul_assoc, key]
        omega
    exact Int.le_of_eq (all hp)
theorem whole_only {ro : List Rope} {q : Q} {r : Rope} (hn : Nice ro) (hq : Red q) (h0 : 0 < q.1) (hr : r ∈ finalOf ro q) : ∃ s ∈ ro, leQ (endOf s) (endOf r) ∧ leQ q (capOf ro (endOf s)) := by
  have hs : (finalOf ro q).Sublist ro := left_sub _ _
  have hc := final_closed (q := q) _ ro (Nat.le_refl _)
  have hne : finalOf ro q ≠ [] := fun e => by rw [e] at hr; cases hr
  generalize finalOf ro q = S at *
  have hS := hn.sub hs
  have red : ∀ t ∈ S, Red (endOf t) := fun t ht => end_red (hS.a t ht) (hS.b t ht) (hS.c t ht)
  obtain ⟨y, hy⟩ := sunk_some (ro := S) (t := q.1) (b := q.2) hne
  obtain ⟨s, hsm, hl⟩ := least_end S hne red
  have ry := sunk_red hS.pos hq hy
  have hF := sunk_F hS.pos hq.p0 hq.q0 hy
  refine ⟨s, hs.subset hsm, hl r hr, ?_⟩
  have h1 : leQ y (endOf s) := (tm_end (hS.a s hsm) (hS.b s hsm) (hS.c s hsm) ry.q0).mp (hc y hy s hsm)
  have hsub : S.Sublist (lasts ro (endOf s)) := by
    have e : S.filter (fun r => !gtQ (endOf s) (endOf r)) = S := List.filter_eq_self.mpr fun t ht => by rw [gt_le.mpr (hl t ht)]; rfl
    rw [← e]
    exact hs.filter _
  have h2 := F_mono ry.q0 (red s hsm).q0 h1 hS.pos.pb
  have h3 := F_sub (q := endOf s) (hsub.map pr) (hn.sub (lasts_sub ro (endOf s))).pos.pb
  refine (le_low (F_nn (hn.sub (lasts_sub ro (endOf s))).pos.pb) (red s hsm).q0 hq.q0).mpr ?_
  generalize endOf s = e at *
  have pe := (red s hsm).q0
  have h4 := Int.mul_le_mul_of_nonneg_right h2 (Int.le_of_lt hq.q0)
  have e1 : F y (S.map pr) * e.2 * q.2 = F y (S.map pr) * q.2 * e.2 := by grind
  rw [e1, hF] at h4
  have e2 : q.1 * y.2 * e.2 = q.1 * e.2 * y.2 := by grind
  have e3 : F e (S.map pr) * y.2 * q.2 = F e (S.map pr) * q.2 * y.2 := by grind
  rw [e2, e3] at h4
  have h5 := Int.le_of_mul_le_mul_right h4 ry.q0
  exact Int.le_trans h5 (Int.mul_le_mul_of_nonneg_right h3 (Int.le_of_lt hq.q0))
/-! ### the greatest of some -/
theorem best_from (m : Q) : ∀ (l : List Q), Red m → (∀ x ∈ l, Red x) → (l.foldl (fun m x => if gtQ x m = true then x else m) m = m ∨ l.foldl (fun m x => if gtQ x m = true then x else m) m ∈ l) ∧ leQ m (l.foldl (fun m x => if gtQ x m = true then x else m) m) ∧ ∀ x ∈ l, leQ x (l.foldl (fun m x => if gtQ x m = true then x else m) m)
  | [], _, _ => ⟨.inl rfl, leQ_refl _, fun x hx => by cases hx⟩
  | x :: l, hm, h => by
    have hx := h x List.mem_cons_self
    have hl : ∀ z ∈ l, Red z := fun z hz => h z (List.mem_cons_of_mem _ hz)
    have red : ∀ (m : Q), Red m → ∀ (l : List Q), (∀ z ∈ l, Red z) → Red (l.foldl (fun m x => if gtQ x m = true then x else m) m) := fun m hm l => by
      induction l generalizing m with
      | nil => intro _; exact hm
      | cons y l ih =>
        intro h
        rw [List.foldl_cons]
        refine ih _ ?_ fun z hz => h z (List.mem_cons_of_mem _ hz)
        split
        · exact h y List.mem_cons_self
        · exact hm
    rw [List.foldl_cons]
    by_cases hg : gtQ x m = true
    · rw [if_pos hg]
      obtain ⟨h1, h2, h3⟩ := best_from x l hx hl
      refine ⟨.inr ?_, leQ_trans hm.q0 hx.q0 (red x hx l hl).q0 (Int.le_of_lt (gt_lt.mp hg)) h2, fun z hz => ?_⟩
      · rcases h1 with h1 | h1
        · rw [h1]; exact List.mem_cons_self
        · exact List.mem_cons_of_mem _ h1
      · rcases List.mem_cons.mp hz with rfl | hz
        · exact h2
        · exact h3 z hz
    · rw [if_neg hg]
      obtain ⟨h1, h2, h3⟩ := best_from m l hm hl
      refine ⟨?_, h2, fun z hz => ?_⟩
      · rcases h1 with h1 | h1
        · exact .inl h1
        · exact .inr (List.mem_cons_of_mem _ h1)
      · rcases List.mem_cons.mp hz with rfl | hz
        · exact leQ_trans hx.q0 hm.q0 (red m hm l hl).q0 (gt_le.mp (Bool.not_eq_true _ ▸ hg)) h2
        · exact h3 z hz
theorem red01 : Red (0, 1) := ⟨by decide, by decide, by decide⟩
theorem best_le {l : List Q} (h : ∀ x ∈ l, Red x) {x : Q} (hx : x ∈ l) : leQ x (best l) := (best_from (0, 1) l red01 h).2.2 x hx
theorem best_mem {l : List Q} (h : ∀ x ∈ l, Red x) : best l = (0, 1) ∨ best l ∈ l := (best_from (0, 1) l red01 h).1
theorem best_red {l : List Q} (h : ∀ x ∈ l, Red x) : Red (best l) := by
  rcases best_mem h with e | e
  · rw [e]; exact red01
  · exact h _ e
theorem leQ_anti {x y : Q} (hx : Red x) (hy : Red y) (h1 : leQ x y) (h2 : leQ y x) : x = y := red_unique hx hy (Int.le_antisymm h1 h2)
theorem best_congr {l l' : List Q} (h : ∀ x ∈ l, Red x) (e : ∀ x, x ∈ l ↔ x ∈ l') : best l = best l' := by
  have h' : ∀ x ∈ l', Red x := fun x hx => h x ((e x).mpr hx)
  have half : ∀ {l l' : List Q}, (∀ x ∈ l, Red x) → (∀ x ∈ l', Red x) → (∀ x ∈ l, x ∈ l') → leQ (best l) (best l') := fun {l l'} h h' e => by
    rcases best_mem h with q | q
    · rw [q]; exact leQ_nought rfl (by decide) (best_red h')
    · exact best_le h' (e _ q)
  exact leQ_anti (best_red h) (best_red h') (half h h' fun x hx => (e x).mp hx) (half h' h fun x hx => (e x).mpr hx)
/-- the greatest load by which a rope is whole -/
def tillOf (ro : List Rope) (r : Rope) : Q := best ((ro.filter fun s => !gtQ (endOf s) (endOf r)).map fun s => capOf ro (endOf s))
theorem cap_red {ro : List Rope} {x : Q} (hn : Nice ro) (hx : Red x) : Red (capOf ro x) := low_red (F_nn (hn.sub (lasts_sub ro x)).pos.pb) hx.q0
theorem till_reds {ro : List Rope} {r : Rope} (hn : Nice ro) : ∀ x ∈ (ro.filter fun s => !gtQ (endOf s) (endOf r)).map (fun s => capOf ro (endOf s)), Red x := fun x hx => by
  obtain ⟨s, hs, rfl⟩ := List.mem_map.mp hx
  have hm := (List.mem_filter.mp hs).1
  exact cap_red hn (end_red (hn.a s hm) (hn.b s hm) (hn.c s hm))
theorem till_red {ro : List Rope} {r : Rope} (hn : Nice ro) : Red (tillOf ro r) := best_red (till_reds hn)
theorem final_nought {ro : List Rope} {q : Q} (hn : Nice ro) (h : q.1 = 0) : finalOf ro q = ro := by
  refine final_end ?_
  unfold gwOf
  have e : sunkOf ro q.1 q.2 = some (0, 1) := by unfold sunkOf; rw [if_pos h]
  rw [e]
  show (ro.filter (tooMuch (0, 1))).map Rope.n = []
  rw [List.filter_eq_nil_iff.mpr, List.map_nil]
  intro r hr ht
  have := (tm_end (hn.a r hr) (hn.b r hr) (hn.c r hr) (show (0 : Int) < ((0, 1) : Q).2 by decide)).mpr (leQ_nought rfl (by decide) (end_red (hn.a r hr) (hn.b r hr) (hn.c r hr)))
  rw [this] at ht
  cases ht
theorem whole_iff {ro : List Rope} {q : Q} {r : Rope} (hn : Nice ro) (hq : Red q) (hr : r ∈ ro) : r ∈ finalOf ro q ↔ leQ q (tillOf ro r) := by
  have hred := till_reds (r := r) hn
  have rt := till_red (r := r) hn
  by_cases h0 : q.1 = 0
  · rw [final_nought hn h0]
    exact ⟨fun _ => leQ_nought h0 hq.q0 rt, fun _ => hr⟩
  · have hpos : 0 < q.1 := by have := hq.p0; omega
    constructor
    · intro h
      obtain ⟨s, hs, h1, h2⟩ := whole_only hn hq hpos h
      have rs := end_red (hn.a s hs) (hn.b s hs) (hn.c s hs)
      refine leQ_trans hq.q0 (cap_red hn rs).q0 rt.q0 h2 (best_le hred (List.mem_map.mpr ⟨s, List.mem_filter.mpr ⟨hs, ?_⟩, rfl⟩))
      rw [gt_le.mpr h1]; rfl
    · intro h
      rcases best_mem hred with e | e
      · exfalso
        unfold tillOf at h
        rw [e] at h
        have : q.1 * 1 ≤ 0 * q.2 := h
        omega
      · obtain ⟨s, hs, e⟩ := List.mem_map.mp e
        obtain ⟨hm, hg⟩ := List.mem_filter.mp hs
        unfold tillOf at h
        rw [← e] at h
        exact whole_if hn (end_red (hn.a s hm) (hn.b s hm) (hn.c s hm)) hq hr (gt_le.mp (by simpa using hg)) h
/-- a rope gone never helps another one -/
theorem till_sub {ro lo : List Rope} {r : Rope} (hn : Nice ro) (hs : lo.Sublist ro) (hr : r ∈ lo) : leQ (tillOf lo r) (tillOf ro r) := by
  have hl := hn.sub hs
  have rt := till_red (r := r) hl
  refine (whole_iff hn rt (hs.subset hr)).mp ?_
  exact (final_less rt rt (Int.le_refl _) hn hs).subset ((whole_iff hl rt hr).mpr (leQ_refl _))
end K2

namespace K2
open PySem L2 Sd Ma
local macro_rules | `(tactic| walk_at "d1") => `(tactic| first
  | ((with_reducible refine' dE_var ?dv ?_); (case dv => rfl))
  | with_reducible refine' dE_int ?_
  | with_reducible refine' dE_str ?_
  | with_reducible refine' dE_bl ?_
  | with_reducible refine' dE_non ?_
  | ((with_reducible refine' dE_nt ?dv ?_); (case dv => assumption))
  | with_reducible refine' dE_ref ?_
  | with_reducible refine' dE_op ?_
  | with_reducible refine' dE_un ?_
  | with_reducible refine' dE_cmp ?_
  | with_reducible refine' dE_isN ?_
  | with_reducible refine' dE_notN ?_
  | with_reducible refine' dE_call ?_
  | with_reducible refine' dE_cb ?_
  | with_reducible refine' dE_kw ?_
  | with_reducible refine' dE_tup ?_
  | with_reducible refine' dE_if ?_
  | with_reducible refine' dE_and ?_
  | with_reducible refine' dE_or ?_
  | with_reducible refine' dE_not ?_
  | with_reducible refine' dE_sl ?_
  | with_reducible refine' dO_none ?_
  | with_reducible refine' dO_some ?_
  | with_reducible refine' dA_cons ?_
  | with_reducible refine' dA_nil ?_
  | with_reducible refine' dT_B ?_
  | with_reducible refine' dT_test ?_
  | with_reducible refine' dT_and ?_
  | with_reducible refine' dT_or ?_
  | with_reducible refine' dT_not ?_
  | with_reducible refine' dT_yes ?_
  | with_reducible refine' dR_I0i ?_
  | with_reducible refine' dU_neg ?_
  | ((with_reducible refine' dR_ixT ?dv ?_); (case dv => rfl))
  | with_reducible refine' dS_seq ?_
  | with_reducible refine' dS_next ?_
  | with_reducible refine' dS_ret ?_
  | with_reducible refine' dS_drop ?_
  | with_reducible refine' dS_if ?_
  | with_reducible refine' dS_asg ?_
  | with_reducible refine' dS_par ?_
  | with_reducible refine' dG_name ?_
  | ((with_reducible refine' dG_tup ?dv ?_); (case dv => rfl); (dsimp only [List.map]))
  | with_reducible refine' dGs_cons ?_
  | with_reducible refine' dGs_nil ?_
  | with_reducible refine' dC_abs ?_
  | with_reducible refine' dC_max2 ?_
  | with_reducible refine' dC_min2 ?_
  | with_reducible refine' rtOf.of ?_
  | with_reducible refine' ex_cmp ?_
  | with_reducible refine' ex_bool ?_
  | with_reducible refine' ex_int ?_
  | with_reducible refine' ex_list ?_
  | with_reducible refine' ex_tup ?_
  | with_reducible refine' ex_d ?_
  | with_reducible refine' ex_m ?_
  | with_reducible refine' ex_par ?_
  | with_reducible refine' ex_rg1 ?_
  | with_reducible refine' ex_rg2 ?_
  | ((with_reducible refine' ex_dat ?dv ?dw ?_); (case dv => rfl); (case dw => exact Nat.le_of_ble_eq_true rfl))
  | ((fail_if_success (with_reducible show ∃ _, _)); (fail_if_success (with_reducible show _ ∧ _)); refine ⟨_, _, rfl, ?_⟩)
  | ((fail_if_success (with_reducible show ∃ _, _)); (fail_if_success (with_reducible show _ ∧ _)); refine ⟨_, rfl, ?_⟩)
  | fail)
local macro_rules | `(tactic| walk_at "d") => `(tactic| repeat' walk_at "d1")
local macro_rules | `(tactic| walk_at "e1") => `(tactic| first
  | ((with_reducible refine' dE_var ?dv ?_); (case dv => rfl))
  | with_reducible refine' dE_int ?_
  | with_reducible refine' dE_str ?_
  | with_reducible refine' dE_bl ?_
  | with_reducible refine' dE_non ?_
  | ((with_reducible refine' dE_nt ?dv ?_); (case dv => assumption))
  | with_reducible refine' dE_ref ?_
  | with_reducible refine' dE_op ?_
  | with_reducible refine' dE_un ?_
  | with_reducible refine' dE_cmp ?_
  | with_reducible refine' dE_isN ?_
  | with_reducible refine' dE_notN ?_
  | with_reducible refine' dE_call ?_
  | with_reducible refine' dE_cb ?_
  | with_reducible refine' dE_kw ?_
  | with_reducible refine' dE_tup ?_
  | with_reducible refine' dE_if ?_
  | with_reducible refine' dE_and ?_
  | with_reducible refine' dE_or ?_
  | with_reducible refine' dE_not ?_
  | with_reducible refine' dE_sl ?_
  | with_reducible refine' dO_none ?_
  | with_reducible refine' dO_some ?_
  | with_reducible refine' dA_cons ?_
  | with_reducible refine' dA_nil ?_
  | with_reducible refine' dT_B ?_
  | with_reducible refine' dT_test ?_
  | with_reducible refine' dT_and ?_
  | with_reducible refine' dT_or ?_
  | with_reducible refine' dT_not ?_
  | with_reducible refine' dT_yes ?_
  | with_reducible refine' dR_I0i ?_
  | with_reducible refine' dU_neg ?_
  | ((with_reducible refine' dR_ixT ?dv ?_); (case dv => rfl))
  | with_reducible refine' dS_next ?_
  | with_reducible refine' dS_ret ?_
  | with_reducible refine' dS_drop ?_
  | with_reducible refine' dS_if ?_
  | with_reducible refine' dS_asg ?_
  | with_reducible refine' dS_par ?_
  | with_reducible refine' dG_name ?_
  | ((with_reducible refine' dG_tup ?dv ?_); (case dv => rfl); (dsimp only [List.map]))
  | with_reducible refine' dGs_cons ?_
  | with_reducible refine' dGs_nil ?_
  | with_reducible refine' dC_abs ?_
  | with_reducible refine' dC_max2 ?_
  | with_reducible refine' dC_min2 ?_
  | with_reducible refine' rtOf.of ?_
  | with_reducible refine' ex_cmp ?_
  | with_reducible refine' ex_bool ?_
  | with_reducible refine' ex_int ?_
  | with_reducible refine' ex_list ?_
  | with_reducible refine' ex_tup ?_
  | with_reducible refine' ex_d ?_
  | with_reducible refine' ex_m ?_
  | with_reducible refine' ex_par ?_
  | with_reducible refine' ex_rg1 ?_
  | with_reducible refine' ex_rg2 ?_
  | ((with_reducible refine' ex_dat ?dv ?dw ?_); (case dv => rfl); (case dw => exact Nat.le_of_ble_eq_true rfl))
  | ((fail_if_success (with_reducible show ∃ _, _)); (fail_if_success (with_reducible show _ ∧ _)); refine ⟨_, _, rfl, ?_⟩)
  | ((fail_if_success (with_reducible show ∃ _, _)); (fail_if_success (with_reducible show _ ∧ _)); refine ⟨_, rfl, ?_⟩)
  | fail)
local macro_rules | `(tactic| walk_at "e") => `(tactic| repeat' walk_at "e1")

def tillStep (ro : List Rope) (d : Q) (m e : Q) : Q := if (!gtQ e d && gtQ (capOf ro e) m) = true then capOf ro e else m
theorem till_fold (ro : List Rope) (d : Q) : ∀ (es : List Q) (m : Q), es.foldl (tillStep ro d) m = ((es.filter fun e => !gtQ e d).map (capOf ro)).foldl (fun m x => if gtQ x m = true then x else m) m
  | [], m => rfl
  | e :: es, m => by
    rw [List.foldl_cons, till_fold ro d es, List.filter_cons]
    unfold tillStep
    cases h : gtQ e d with
    | true => simp
    | false => simp
theorem till_eq {ro : List Rope} {r : Rope} {es : List Q} (hn : Nice ro) (h : Ris es (ro.map endOf)) : es.foldl (tillStep ro (endOf r)) (0, 1) = tillOf ro r := by
  rw [till_fold]
  have hm : ∀ x, x ∈ (es.filter fun e => !gtQ e (endOf r)).map (capOf ro) ↔ x ∈ (ro.filter fun s => !gtQ (endOf s) (endOf r)).map fun s => capOf ro (endOf s) := fun x => by
    constructor
    · intro hx
      obtain ⟨e, he, rfl⟩ := List.mem_map.mp hx
      obtain ⟨h1, h2⟩ := List.mem_filter.mp he
      obtain ⟨s, hs, rfl⟩ := List.mem_map.mp ((h.mem e).mp h1)
      exact List.mem_map.mpr ⟨s, List.mem_filter.mpr ⟨hs, h2⟩, rfl⟩
    · intro hx
      obtain ⟨s, hs, rfl⟩ := List.mem_map.mp hx
      obtain ⟨h1, h2⟩ := List.mem_filter.mp hs
      exact List.mem_map.mpr ⟨endOf s, List.mem_filter.mpr ⟨(h.mem _).mpr (List.mem_map.mpr ⟨s, h1, rfl⟩), h2⟩, rfl⟩
  exact best_congr (fun x hx => till_reds hn x ((hm x).mp hx)) hm
section
variable {P : Program} {w : World} {K : PySem.W.Frag} {mg : Str → Option Value} {base : Heap} {f : Addr} {fd : FuncData}
def S_till : SpD := fun rs M P => ∃ (ro : List Rope) (r : Rope), rs = [.d (bd ro), .d r.d] ∧ ro.length ≤ 8 ∧ (∀ r ∈ ro, r.Fine) ∧ Nice ro ∧ r.Fine ∧ P (.d (fr (tillOf ro r))) M
theorem mk01 : Mk (0, 1) := ⟨red01, by decide, by decide⟩
theorem till_mk {ro : List Rope} {r : Rope} (hl : ro.length ≤ 8) (hf : ∀ r ∈ ro, r.Fine) (hn : Nice ro) : Mk (tillOf ro r) := by
  rcases best_mem (till_reds (r := r) hn) with e | e
  · unfold tillOf; rw [e]; exact mk01
  · obtain ⟨s, hs, e⟩ := List.mem_map.mp e
    unfold tillOf
    rw [← e]
    exact cap_mk hl hf (end_en (hf s (List.mem_filter.mp hs).1))
abbrev s_lasting_till : Stmt := topS 32
theorem sc_lasting_till : FnScope ["left", "rope", "deepest", "most", "end", "load"] ["left", "rope"] (defScope s_lasting_till) := ⟨rfl, rfl, rfl, by decide +kernel, rfl, by decide +kernel, by decide +kernel⟩
theorem ok_lasting_till {a_N : Addr} (N : Nt K mg a_N) (F0 : Fun K "lasting_till" "lasting_till" s_lasting_till f fd) (c_table : Has P w K mg base 5 "table" ["bundle"] S_table) (c_end_of : Has P w K mg base 3 "end_of" ["rope"] S_end) (c_is_more : Has P w K mg base 1 "is_more" ["one", "other"] S_more) : FnOk P w K mg base CX0 6 f fd ["left", "rope"] (spOf K S_till) := by
  refine ok_of F0 sc_lasting_till (fun rs M P h => by obtain ⟨a, b, rfl, _⟩ := h; rfl) fun cdv A outer s H E hr => ⟨_, (pss_cons (ps_set (i := 2) sc_lasting_till.nd rfl (Or.inl rfl) (pe_callH' c_end_of (hr.mono (by first | decide | omega)) rfl (pa_cons (pv 1) pa_nil)))
      (pss_cons (ps_set (i := 3) sc_lasting_till.nd rfl (Or.inl rfl) (pe_glob (v := .ref a_N) rfl N.m rfl))
      (pss_cons (ps_for PassesOwn.never rfl (kpi_tup K (pe_callH' c_table (hr.mono (by first | decide | omega)) rfl (pa_cons (pv 0) pa_nil))) (kpg_tup K (n := 2) rfl (pgs_cons (pg_name (i := 4) sc_lasting_till.nd rfl (Or.inl rfl)) (pgs_cons (pg_name (i := 5) sc_lasting_till.nd rfl (Or.inl rfl)) pgs_nil))) (pss_one (ps_if (PW.pt (pw_and (pt_not (pt_val (pe_callH' c_is_more (hr.mono (by first | decide | omega)) rfl (pa_cons (pv 4) (pa_cons (pv 2) pa_nil))))) (pw_and1 (pt_val (pe_callH' c_is_more (hr.mono (by first | decide | omega)) rfl (pa_cons (pv 5) (pa_cons (pv 3) pa_nil))))))) (pss_one (ps_set (i := 3) sc_lasting_till.nd rfl (Or.inl rfl) (pv 5))) pss_nil)))
      (pss_one (ps_ret (pv 3)))))), fun rs M P h => ?_⟩
  obtain ⟨ro, r, rfl, hl, hf, hn, hrf, p⟩ := h
  walk_at "d"
  refine ⟨hrf, ?_⟩
  walk_at "d"
  refine dS_forT ?_
  walk_at "d"
  refine ⟨hl, hf, fun es hes => ?_⟩
  have hen : ∀ e ∈ es, En e := fun e he => by
    obtain ⟨r, hr1, rfl⟩ := List.mem_map.mp ((hes.mem e).mp he)
    exact end_en (hf r hr1)
  walk_at "d"
  refine ⟨fun i δ M' => ∃ (m : Q) (x1 x2 : Option SV), δ = [some (.d (bd ro)), some (.d r.d), some (.d (fr (endOf r))), some (.d (fr m)), x1, x2] ∧ M' = M ∧ Mk m ∧ (es.drop i).foldl (tillStep ro (endOf r)) m = tillOf ro r, ⟨(0, 1), _, _, rfl, rfl, mk01, till_eq hn hes⟩, fun i y δ M' hy hI => ?_, fun δ M' hI => ?_⟩
  · obtain ⟨m, x1, x2, rfl, rfl, hm, hg⟩ := hI
    obtain ⟨e, he1, rfl⟩ := getElem?_map_some hy
    have he := hen e (List.mem_of_getElem? he1)
    have hc := cap_mk hl hf he
    have hdr : es.drop i = e :: es.drop (i + 1) := by rw [List.drop_eq_getElem_cons (List.getElem?_eq_some_iff.mp he1).1, (List.getElem?_eq_some_iff.mp he1).2]
    rw [hdr, List.foldl_cons] at hg
    walk_at "d"
    refine ⟨he.fr, (end_en hrf).fr, ?_⟩
    walk_at "d"
    refine ifB (fun h1 => ?_) (fun h1 => ?_)
    · walk_at "d"
      refine ⟨hc.fr3, hm.fr3, ?_⟩
      walk_at "d"
      refine ifB (fun h2 => ?_) (fun h2 => ?_)
      · walk_at "d"
        refine ⟨capOf ro e, _, _, rfl, rfl, hc, ?_⟩
        unfold tillStep at hg
        rw [if_pos (by rw [h1, h2]; rfl)] at hg
        exact hg
      · walk_at "d"
        refine ⟨m, _, _, rfl, rfl, hm, ?_⟩
        unfold tillStep at hg
        rw [if_neg (by rw [h1, h2]; decide)] at hg
        exact hg
    · refine ifF rfl ?_
      walk_at "d"
      refine ⟨m, _, _, rfl, rfl, hm, ?_⟩
      unfold tillStep at hg
      rw [if_neg (by rw [h1, Bool.false_and]; decide)] at hg
      exact hg
  · obtain ⟨m, x1, x2, rfl, rfl, hm, hg⟩ := hI
    rw [List.length_map, List.drop_length] at hg
    walk_at "d"
    rw [show m = tillOf ro r from hg]
    exact p
end
end K2

namespace K2
open PySem L2 Sd Ma
local macro_rules | `(tactic| walk_at "d1") => `(tactic| first
  | ((with_reducible refine' dE_var ?dv ?_); (case dv => rfl))
  | with_reducible refine' dE_int ?_
  | with_reducible refine' dE_str ?_
  | with_reducible refine' dE_bl ?_
  | with_reducible refine' dE_non ?_
  | ((with_reducible refine' dE_nt ?dv ?_); (case dv => assumption))
  | with_reducible refine' dE_ref ?_
  | with_reducible refine' dE_op ?_
  | with_reducible refine' dE_un ?_
  | with_reducible refine' dE_cmp ?_
  | with_reducible refine' dE_isN ?_
  | with_reducible refine' dE_notN ?_
  | with_reducible refine' dE_call ?_
  | with_reducible refine' dE_cb ?_
  | with_reducible refine' dE_kw ?_
  | with_reducible refine' dE_tup ?_
  | with_reducible refine' dE_if ?_
  | with_reducible refine' dE_and ?_
  | with_reducible refine' dE_or ?_
  | with_reducible refine' dE_not ?_
  | with_reducible refine' dE_sl ?_
  | with_reducible refine' dO_none ?_
  | with_reducible refine' dO_some ?_
  | with_reducible refine' dA_cons ?_
  | with_reducible refine' dA_nil ?_
  | with_reducible refine' dT_B ?_
  | with_reducible refine' dT_test ?_
  | with_reducible refine' dT_and ?_
  | with_reducible refine' dT_or ?_
  | with_reducible refine' dT_not ?_
  | with_reducible refine' dT_yes ?_
  | with_reducible refine' dR_I0i ?_
  | with_reducible refine' dU_neg ?_
  | ((with_reducible refine' dR_ixT ?dv ?_); (case dv => rfl))
  | with_reducible refine' dS_seq ?_
  | with_reducible refine' dS_next ?_
  | with_reducible refine' dS_ret ?_
  | with_reducible refine' dS_drop ?_
  | with_reducible refine' dS_if ?_
  | with_reducible refine' dS_asg ?_
  | with_reducible refine' dS_par ?_
  | with_reducible refine' dG_name ?_
  | ((with_reducible refine' dG_tup ?dv ?_); (case dv => rfl); (dsimp only [List.map]))
  | with_reducible refine' dGs_cons ?_
  | with_reducible refine' dGs_nil ?_
  | with_reducible refine' dC_abs ?_
  | with_reducible refine' dC_max2 ?_
  | with_reducible refine' dC_min2 ?_
  | with_reducible refine' rtOf.of ?_
  | with_reducible refine' ex_cmp ?_
  | with_reducible refine' ex_bool ?_
  | with_reducible refine' ex_int ?_
  | with_reducible refine' ex_list ?_
  | with_reducible refine' ex_tup ?_
  | with_reducible refine' ex_d ?_
  | with_reducible refine' ex_m ?_
  | with_reducible refine' ex_par ?_
  | with_reducible refine' ex_rg1 ?_
  | with_reducible refine' ex_rg2 ?_
  | ((with_reducible refine' ex_dat ?dv ?dw ?_); (case dv => rfl); (case dw => exact Nat.le_of_ble_eq_true rfl))
  | ((fail_if_success (with_reducible show ∃ _, _)); (fail_if_success (with_reducible show _ ∧ _)); refine ⟨_, _, rfl, ?_⟩)
  | ((fail_if_success (with_reducible show ∃ _, _)); (fail_if_success (with_reducible show _ ∧ _)); refine ⟨_, rfl, ?_⟩)
  | fail)
local macro_rules | `(tactic| walk_at "d") => `(tactic| repeat' walk_at "d1")
local macro_rules | `(tactic| walk_at "e1") => `(tactic| first
  | ((with_reducible refine' dE_var ?dv ?_); (case dv => rfl))
  | with_reducible refine' dE_int ?_
  | with_reducible refine' dE_str ?_
  | with_reducible refine' dE_bl ?_
  | with_reducible refine' dE_non ?_
  | ((with_reducible refine' dE_nt ?dv ?_); (case dv => assumption))
  | with_reducible refine' dE_ref ?_
  | with_reducible refine' dE_op ?_
  | with_reducible refine' dE_un ?_
  | with_reducible refine' dE_cmp ?_
  | with_reducible refine' dE_isN ?_
  | with_reducible refine' dE_notN ?_
  | with_reducible refine' dE_call ?_
  | with_reducible refine' dE_cb ?_
  | with_reducible refine' dE_kw ?_
  | with_reducible refine' dE_tup ?_
  | with_reducible refine' dE_if ?_
  | with_reducible refine' dE_and ?_
  | with_reducible refine' dE_or ?_
  | with_reducible refine' dE_not ?_
  | with_reducible refine' dE_sl ?_
  | with_reducible refine' dO_none ?_
  | with_reducible refine' dO_some ?_
  | with_reducible refine' dA_cons ?_
  | with_reducible refine' dA_nil ?_
  | with_reducible refine' dT_B ?_
  | with_reducible refine' dT_test ?_
  | with_reducible refine' dT_and ?_
  | with_reducible refine' dT_or ?_
  | with_reducible refine' dT_not ?_
  | with_reducible refine' dT_yes ?_
  | with_reducible refine' dR_I0i ?_
  | with_reducible refine' dU_neg ?_
  | ((with_reducible refine' dR_ixT ?dv ?_); (case dv => rfl))
  | with_reducible refine' dS_next ?_
  | with_reducible refine' dS_ret ?_
  | with_reducible refine' dS_drop ?_
  | with_reducible refine' dS_if ?_
  | with_reducible refine' dS_asg ?_
  | with_reducible refine' dS_par ?_
  | with_reducible refine' dG_name ?_
  | ((with_reducible refine' dG_tup ?dv ?_); (case dv => rfl); (dsimp only [List.map]))
  | with_reducible refine' dGs_cons ?_
  | with_reducible refine' dGs_nil ?_
  | with_reducible refine' dC_abs ?_
  | with_reducible refine' dC_max2 ?_
  | with_reducible refine' dC_min2 ?_
  | with_reducible refine' rtOf.of ?_
  | with_reducible refine' ex_cmp ?_
  | with_reducible refine' ex_bool ?_
  | with_reducible refine' ex_int ?_
  | with_reducible refine' ex_list ?_
  | with_reducible refine' ex_tup ?_
  | with_reducible refine' ex_d ?_
  | with_reducible refine' ex_m ?_
  | with_reducible refine' ex_par ?_
  | with_reducible refine' ex_rg1 ?_
  | with_reducible refine' ex_rg2 ?_
  | ((with_reducible refine' ex_dat ?dv ?dw ?_); (case dv => rfl); (case dw => exact Nat.le_of_ble_eq_true rfl))
  | ((fail_if_success (with_reducible show ∃ _, _)); (fail_if_success (with_reducible show _ ∧ _)); refine ⟨_, _, rfl, ?_⟩)
  | ((fail_if_success (with_reducible show ∃ _, _)); (fail_if_success (with_reducible show _ ∧ _)); refine ⟨_, rfl, ?_⟩)
  | fail)
local macro_rules | `(tactic| walk_at "e") => `(tactic| repeat' walk_at "e1")

section
variable {P : Program} {w : World} {K : PySem.W.Frag} {mg : Str → Option Value} {base : Heap} {f : Addr} {fd : FuncData}
def S_lastingL : SpD := fun rs M P => ∃ (ro : List Rope) (x : Q), rs = [.d (ld ro), .d (fr x)] ∧ ro.length ≤ 8 ∧ (∀ r ∈ ro, r.Fine) ∧ En x ∧ P (.d (ld (lasts ro x))) M
theorem ok_lasting_toL (F0 : Fun K "lasting_to" "lasting_to" s_lasting_to f fd) (c_is_more : Has P w K mg base 1 "is_more" ["one", "other"] S_more) (c_end_of : Has P w K mg base 3 "end_of" ["rope"] S_end) : FnOk P w K mg base CX0 4 f fd ["ropes", "sunk"] (spOf K S_lastingL) := by
  refine ok_of F0 sc_lasting_to (fun rs M P h => by obtain ⟨a, b, rfl, _⟩ := h; rfl) fun cdv A outer s H E hr => ⟨_, (pss_one (ps_ret (pe_lc (own := [("rope", 2)]) (by rfl) sc_lasting_to.nd (kpi_list K (pv 0)) (blkOk_by (N := ["ropes", "sunk", "rope"]) (sc := defScope s_lasting_to) (own := [("rope", 2)]) (by decide +kernel)) (fun _ _ _ _ _ => (pg_name (i := 2) sc_lasting_to.nd rfl (Or.inl rfl))) (fun _ _ _ _ _ => (pts_one (pt_not (pt_val (pe_callH' c_is_more (hr.mono (by first | decide | omega)) rfl (pa_cons (pv 1) (pa_cons (pe_callH' c_end_of (hr.mono (by first | decide | omega)) rfl (pa_cons (pv 2) pa_nil)) pa_nil))))))) (fun _ _ _ _ _ => (pv 2))))), fun rs M P h => ?_⟩
  obtain ⟨ro, x, rfl, hl, hf, hx, p⟩ := h
  walk_at "d"
  refine dE_lcL (gw_name 2) ?_
  walk_at "d"
  refine ⟨by rw [List.length_map]; omega, fun i acc M' => M' = M ∧ acc = (lasts (ro.take i) x).map Rope.d, ⟨rfl, rfl⟩, fun i y acc M' hy hI => ?_, fun acc M' hI => .inl ?_⟩
  · obtain ⟨rfl, rfl⟩ := hI
    obtain ⟨r, hr1, rfl⟩ := getElem?_map_some hy
    have hrf := hf r (List.mem_of_getElem? hr1)
    have ht : ro.take (i + 1) = ro.take i ++ [r] := by rw [List.take_succ, hr1]; rfl
    walk_at "d"
    refine ⟨hrf, ?_⟩
    walk_at "d"
    refine ⟨hx.fr, (end_en hrf).fr, ?_⟩
    walk_at "d"
    refine ifB (fun h => ?_) (fun h => ?_)
    · walk_at "d"
      refine ⟨rfl, ?_⟩
      rw [ht]
      unfold lasts
      rw [List.filter_append, List.map_append, List.filter_cons, if_pos h]
      rfl
    · refine ⟨rfl, ?_⟩
      rw [ht]
      unfold lasts
      rw [List.filter_append, List.map_append, List.filter_cons, if_neg (by rw [h]; decide)]
      simp
  · obtain ⟨rfl, rfl⟩ := hI
    rw [List.length_map, List.take_length]
    exact rtOf.of p
def S_tableL : SpD := fun rs M P => ∃ ro : List Rope, rs = [.d (ld ro)] ∧ ro.length ≤ 8 ∧ (∀ r ∈ ro, r.Fine) ∧ ∀ es : List Q, Ris es (ro.map endOf) → P (.d (.tuple (es.map (tabD ro)))) M
theorem ok_tableL (T : Txt mg) (F0 : Fun K "table" "table" s_table f fd) (c_rising : Has P w K mg base 3 "rising" ["fractions"] S_rising) (c_end_of : Has P w K mg base 3 "end_of" ["rope"] S_end) (c_pulled_at : Has P w K mg base 4 "pulled_at" ["ropes", "sunk"] S_pulled) (c_lasting_to : Has P w K mg base 4 "lasting_to" ["ropes", "sunk"] S_lastingL) : FnOk P w K mg base CX0 5 f fd ["bundle"] (spOf K S_tableL) := by
  refine ok_of F0 sc_table (fun rs M P h => by obtain ⟨a, rfl, _⟩ := h; rfl) fun cdv A outer s H E hr => ⟨_, (pss_cons (ps_set (i := 1) sc_table.nd rfl (Or.inl rfl) (pe_callH' c_rising (hr.mono (by first | decide | omega)) rfl (pa_cons (pe_lc (own := [("rope", 2)]) (by rfl) sc_table.nd (kpi_list K (pv 0)) (blkOk_by (N := ["bundle", "ends", "rope", "end"]) (sc := defScope s_table) (own := [("rope", 2)]) (by decide +kernel)) (fun _ _ _ _ _ => (pg_name (i := 2) sc_table.nd rfl (Or.inl rfl))) (fun _ _ _ _ _ => pts_nil) (fun _ _ _ _ _ => (pe_callH' c_end_of (hr.mono (by first | decide | omega)) rfl (pa_cons (pv 2) pa_nil)))) pa_nil)))
      (pss_one (ps_ret (pe_callTy (kcall_tuple K) (by rfl) T.tuple (by decide +kernel) (pa_cons (pe_lc (own := [("end", 3)]) (by rfl) sc_table.nd (kpi_list K (pv 1)) (blkOk_by (N := ["bundle", "ends", "rope", "end"]) (sc := defScope s_table) (own := [("end", 3)]) (by decide +kernel)) (fun _ _ _ _ _ => (pg_name (i := 3) sc_table.nd rfl (Or.inl rfl))) (fun _ _ _ _ _ => pts_nil) (fun _ _ _ _ _ => (pe_tup (pa_cons (pv 3) (pa_cons (pe_callH' c_pulled_at (hr.mono (by first | decide | omega)) rfl (pa_cons (pe_callH' c_lasting_to (hr.mono (by first | decide | omega)) rfl (pa_cons (pv 0) (pa_cons (pv 3) pa_nil))) (pa_cons (pv 3) pa_nil))) pa_nil))))) pa_nil))))), fun rs M P h => ?_⟩
  obtain ⟨ro, rfl, hl, hf, p⟩ := h
  walk_at "d"
  refine dE_lcL (gw_name 2) ?_
  walk_at "d"
  refine ⟨by rw [List.length_map]; omega, fun i acc M' => M' = M ∧ acc = ((ro.take i).map endOf).map fr, ⟨rfl, rfl⟩, fun i y acc M' hy hI => ?_, fun acc M' hI => .inl ?_⟩
  · obtain ⟨rfl, rfl⟩ := hI
    obtain ⟨r, hr1, rfl⟩ := getElem?_map_some hy
    have hrf := hf r (List.mem_of_getElem? hr1)
    walk_at "d"
    refine ifT rfl ?_
    walk_at "d"
    refine ⟨hrf, ?_⟩
    walk_at "d"
    refine ⟨rfl, ?_⟩
    rw [List.take_succ, hr1, List.map_append, List.map_append]
    rfl
  · obtain ⟨rfl, rfl⟩ := hI
    rw [List.length_map, List.take_length]
    walk_at "d"
    refine ⟨by rw [List.length_map]; omega, fun q hq => ?_, fun es hes => ?_⟩
    · obtain ⟨r, hr1, rfl⟩ := List.mem_map.mp hq
      exact (end_en (hf r hr1)).fr1
    have hen : ∀ e ∈ es, En e := fun e he => by
      obtain ⟨r, hr1, rfl⟩ := List.mem_map.mp ((hes.mem e).mp he)
      exact end_en (hf r hr1)
    have hel := ris_len hes
    rw [List.length_map] at hel
    walk_at "d"
    refine dE_lcL (gw_name 3) ?_
    walk_at "d"
    refine ⟨by rw [List.length_map]; omega, fun i acc M3 => M3 = M' ∧ acc = (es.take i).map (tabD ro), ⟨rfl, rfl⟩, fun i y acc M3 hy hI => ?_, fun acc M3 hI => .inl ?_⟩
    · obtain ⟨rfl, rfl⟩ := hI
      obtain ⟨e, he1, rfl⟩ := getElem?_map_some hy
      have he := hen e (List.mem_of_getElem? he1)
      walk_at "d"
      refine ifT rfl ?_
      walk_at "d"
      refine ⟨hl, hf, he, ?_⟩
      walk_at "d"
      refine ⟨Nat.le_trans (List.length_filter_le _ _) hl, lasts_fine hf, he.qok, ?_⟩
      walk_at "d"
      refine ⟨rfl, ?_⟩
      rw [List.take_succ, he1, List.map_append]
      rfl
    · obtain ⟨rfl, rfl⟩ := hI
      rw [List.length_map, List.take_length]
      walk_at "d"
      refine dC_tuple (.inl rfl) ?_
      exact rtOf.of (p es hes)
def S_tillL : SpD := fun rs M P => ∃ (ro : List Rope) (r : Rope), rs = [.d (ld ro), .d r.d] ∧ ro.length ≤ 8 ∧ (∀ r ∈ ro, r.Fine) ∧ Nice ro ∧ r.Fine ∧ P (.d (fr (tillOf ro r))) M
theorem ok_lasting_tillL {a_N : Addr} (N : Nt K mg a_N) (F0 : Fun K "lasting_till" "lasting_till" s_lasting_till f fd) (c_table : Has P w K mg base 5 "table" ["bundle"] S_tableL) (c_end_of : Has P w K mg base 3 "end_of" ["rope"] S_end) (c_is_more : Has P w K mg base 1 "is_more" ["one", "other"] S_more) : FnOk P w K mg base CX0 6 f fd ["left", "rope"] (spOf K S_tillL) := by
  refine ok_of F0 sc_lasting_till (fun rs M P h => by obtain ⟨a, b, rfl, _⟩ := h; rfl) fun cdv A outer s H E hr => ⟨_, (pss_cons (ps_set (i := 2) sc_lasting_till.nd rfl (Or.inl rfl) (pe_callH' c_end_of (hr.mono (by first | decide | omega)) rfl (pa_cons (pv 1) pa_nil)))
      (pss_cons (ps_set (i := 3) sc_lasting_till.nd rfl (Or.inl rfl) (pe_glob (v := .ref a_N) rfl N.m rfl))
      (pss_cons (ps_for PassesOwn.never rfl (kpi_tup K (pe_callH' c_table (hr.mono (by first | decide | omega)) rfl (pa_cons (pv 0) pa_nil))) (kpg_tup K (n := 2) rfl (pgs_cons (pg_name (i := 4) sc_lasting_till.nd rfl (Or.inl rfl)) (pgs_cons (pg_name (i := 5) sc_lasting_till.nd rfl (Or.inl rfl)) pgs_nil))) (pss_one (ps_if (PW.pt (pw_and (pt_not (pt_val (pe_callH' c_is_more (hr.mono (by first | decide | omega)) rfl (pa_cons (pv 4) (pa_cons (pv 2) pa_nil))))) (pw_and1 (pt_val (pe_callH' c_is_more (hr.mono (by first | decide | omega)) rfl (pa_cons (pv 5) (pa_cons (pv 3) pa_nil))))))) (pss_one (ps_set (i := 3) sc_lasting_till.nd rfl (Or.inl rfl) (pv 5))) pss_nil)))
      (pss_one (ps_ret (pv 3)))))), fun rs M P h => ?_⟩
  obtain ⟨ro, r, rfl, hl, hf, hn, hrf, p⟩ := h
  walk_at "d"
  refine ⟨hrf, ?_⟩
  walk_at "d"
  refine dS_forT ?_
  walk_at "d"
  refine ⟨hl, hf, fun es hes => ?_⟩
  have hen : ∀ e ∈ es, En e := fun e he => by
    obtain ⟨r, hr1, rfl⟩ := List.mem_map.mp ((hes.mem e).mp he)
    exact end_en (hf r hr1)
  walk_at "d"
  refine ⟨fun i δ M' => ∃ (m : Q) (x1 x2 : Option SV), δ = [some (.d (ld ro)), some (.d r.d), some (.d (fr (endOf r))), some (.d (fr m)), x1, x2] ∧ M' = M ∧ Mk m ∧ (es.drop i).foldl (tillStep ro (endOf r)) m = tillOf ro r, ⟨(0, 1), _, _, rfl, rfl, mk01, till_eq hn hes⟩, fun i y δ M' hy hI => ?_, fun δ M' hI => ?_⟩
  · obtain ⟨m, x1, x2, rfl, rfl, hm, hg⟩ := hI
    obtain ⟨e, he1, rfl⟩ := getElem?_map_some hy
    have he := hen e (List.mem_of_getElem? he1)
    have hc := cap_mk hl hf he
    have hdr : es.drop i = e :: es.drop (i + 1) := by rw [List.drop_eq_getElem_cons (List.getElem?_eq_some_iff.mp he1).1, (List.getElem?_eq_some_iff.mp he1).2]
    rw [hdr, List.foldl_cons] at hg
    walk_at "d"
    refine ⟨he.fr, (end_en hrf).fr, ?_⟩
    walk_at "d"
    refine ifB (fun h1 => ?_) (fun h1 => ?_)
    · walk_at "d"
      refine ⟨hc.fr3, hm.fr3, ?_⟩
      walk_at "d"
      refine ifB (fun h2 => ?_) (fun h2 => ?_)
      · walk_at "d"
        refine ⟨capOf ro e, _, _, rfl, rfl, hc, ?_⟩
        unfold tillStep at hg
        rw [if_pos (by rw [h1, h2]; rfl)] at hg
        exact hg
      · walk_at "d"
        refine ⟨m, _, _, rfl, rfl, hm, ?_⟩
        unfold tillStep at hg
        rw [if_neg (by rw [h1, h2]; decide)] at hg
        exact hg
    · refine ifF rfl ?_
      walk_at "d"
      refine ⟨m, _, _, rfl, rfl, hm, ?_⟩
      unfold tillStep at hg
      rw [if_neg (by rw [h1, Bool.false_and]; decide)] at hg
      exact hg
  · obtain ⟨m, x1, x2, rfl, rfl, hm, hg⟩ := hI
    rw [List.length_map, List.drop_length] at hg
    walk_at "d"
    rw [show m = tillOf ro r from hg]
    exact p
end
end K2

namespace K2
open PySem L2 Sd Ma
local macro_rules | `(tactic| walk_at "d1") => `(tactic| first
  | ((with_reducible refine' dE_var ?dv ?_); (case dv => rfl))
  | with_reducible refine' dE_int ?_
  | with_reducible refine' dE_str ?_
  | with_reducible refine' dE_bl ?_
  | with_reducible refine' dE_non ?_
  | ((with_reducible refine' dE_nt ?dv ?_); (case dv => assumption))
  | with_reducible refine' dE_ref ?_
  | with_reducible refine' dE_op ?_
  | with_reducible refine' dE_un ?_
  | with_reducible refine' dE_cmp ?_
  | with_reducible refine' dE_isN ?_
  | with_reducible refine' dE_notN ?_
  | with_reducible refine' dE_call ?_
  | with_reducible refine' dE_cb ?_
  | with_reducible refine' dE_kw ?_
  | with_reducible refine' dE_tup ?_
  | with_reducible refine' dE_if ?_
  | with_reducible refine' dE_and ?_
  | with_reducible refine' dE_or ?_
  | with_reducible refine' dE_not ?_
  | with_reducible refine' dE_sl ?_
  | with_reducible refine' dO_none ?_
  | with_reducible refine' dO_some ?_
  | with_reducible refine' dA_cons ?_
  | with_reducible refine' dA_nil ?_
  | with_reducible refine' dT_B ?_
  | with_reducible refine' dT_test ?_
  | with_reducible refine' dT_and ?_
  | with_reducible refine' dT_or ?_
  | with_reducible refine' dT_not ?_
  | with_reducible refine' dT_yes ?_
  | with_reducible refine' dR_I0i ?_
  | with_reducible refine' dU_neg ?_
  | ((with_reducible refine' dR_ixT ?dv ?_); (case dv => rfl))
  | with_reducible refine' dS_seq ?_
  | with_reducible refine' dS_next ?_
  | with_reducible refine' dS_ret ?_
  | with_reducible refine' dS_drop ?_
  | with_reducible refine' dS_if ?_
  | with_reducible refine' dS_asg ?_
  | with_reducible refine' dS_par ?_
  | with_reducible refine' dG_name ?_
  | ((with_reducible refine' dG_tup ?dv ?_); (case dv => rfl); (dsimp only [List.map]))
  | with_reducible refine' dGs_cons ?_
  | with_reducible refine' dGs_nil ?_
  | with_reducible refine' dC_abs ?_
  | with_reducible refine' dC_max2 ?_
  | with_reducible refine' dC_min2 ?_
  | with_reducible refine' rtOf.of ?_
  | with_reducible refine' ex_cmp ?_
  | with_reducible refine' ex_bool ?_
  | with_reducible refine' ex_int ?_
  | with_reducible refine' ex_list ?_
  | with_reducible refine' ex_tup ?_
  | with_reducible refine' ex_d ?_
  | with_reducible refine' ex_m ?_
  | with_reducible refine' ex_par ?_
  | with_reducible refine' ex_rg1 ?_
  | with_reducible refine' ex_rg2 ?_
  | ((with_reducible refine' ex_dat ?dv ?dw ?_); (case dv => rfl); (case dw => exact Nat.le_of_ble_eq_true rfl))
  | ((fail_if_success (with_reducible show ∃ _, _)); (fail_if_success (with_reducible show _ ∧ _)); refine ⟨_, _, rfl, ?_⟩)
  | ((fail_if_success (with_reducible show ∃ _, _)); (fail_if_success (with_reducible show _ ∧ _)); refine ⟨_, rfl, ?_⟩)
  | fail)
local macro_rules | `(tactic| walk_at "d") => `(tactic| repeat' walk_at "d1")
local macro_rules | `(tactic| walk_at "e1") => `(tactic| first
  | ((with_reducible refine' dE_var ?dv ?_); (case dv => rfl))
  | with_reducible refine' dE_int ?_
  | with_reducible refine' dE_str ?_
  | with_reducible refine' dE_bl ?_
  | with_reducible refine' dE_non ?_
  | ((with_reducible refine' dE_nt ?dv ?_); (case dv => assumption))
  | with_reducible refine' dE_ref ?_
  | with_reducible refine' dE_op ?_
  | with_reducible refine' dE_un ?_
  | with_reducible refine' dE_cmp ?_
  | with_reducible refine' dE_isN ?_
  | with_reducible refine' dE_notN ?_
  | with_reducible refine' dE_call ?_
  | with_reducible refine' dE_cb ?_
  | with_reducible refine' dE_kw ?_
  | with_reducible refine' dE_tup ?_
  | with_reducible refine' dE_if ?_
  | with_reducible refine' dE_and ?_
  | with_reducible refine' dE_or ?_
  | with_reducible refine' dE_not ?_
  | with_reducible refine' dE_sl ?_
  | with_reducible refine' dO_none ?_
  | with_reducible refine' dO_some ?_
  | with_reducible refine' dA_cons ?_
  | with_reducible refine' dA_nil ?_
  | with_reducible refine' dT_B ?_
  | with_reducible refine' dT_test ?_
  | with_reducible refine' dT_and ?_
  | with_reducible refine' dT_or ?_
  | with_reducible refine' dT_not ?_
  | with_reducible refine' dT_yes ?_
  | with_reducible refine' dR_I0i ?_
  | with_reducible refine' dU_neg ?_
  | ((with_reducible refine' dR_ixT ?dv ?_); (case dv => rfl))
  | with_reducible refine' dS_next ?_
  | with_reducible refine' dS_ret ?_
  | with_reducible refine' dS_drop ?_
  | with_reducible refine' dS_if ?_
  | with_reducible refine' dS_asg ?_
  | with_reducible refine' dS_par ?_
  | with_reducible refine' dG_name ?_
  | ((with_reducible refine' dG_tup ?dv ?_); (case dv => rfl); (dsimp only [List.map]))
  | with_reducible refine' dGs_cons ?_
  | with_reducible refine' dGs_nil ?_
  | with_reducible refine' dC_abs ?_
  | with_reducible refine' dC_max2 ?_
  | with_reducible refine' dC_min2 ?_
  | with_reducible refine' rtOf.of ?_
  | with_reducible refine' ex_cmp ?_
  | with_reducible refine' ex_bool ?_
  | with_reducible refine' ex_int ?_
  | with_reducible refine' ex_list ?_
  | with_reducible refine' ex_tup ?_
  | with_reducible refine' ex_d ?_
  | with_reducible refine' ex_m ?_
  | with_reducible refine' ex_par ?_
  | with_reducible refine' ex_rg1 ?_
  | with_reducible refine' ex_rg2 ?_
  | ((with_reducible refine' ex_dat ?dv ?dw ?_); (case dv => rfl); (case dw => exact Nat.le_of_ble_eq_true rfl))
  | ((fail_if_success (with_reducible show ∃ _, _)); (fail_if_success (with_reducible show _ ∧ _)); refine ⟨_, _, rfl, ?_⟩)
  | ((fail_if_success (with_reducible show ∃ _, _)); (fail_if_success (with_reducible show _ ∧ _)); refine ⟨_, rfl, ?_⟩)
  | fail)
local macro_rules | `(tactic| walk_at "e") => `(tactic| repeat' walk_at "e1")

/-- the greatest load of all -/
def topOf (ro : List Rope) : Q := best (ro.map fun s => capOf ro (endOf s))
def topStep (ro : List Rope) (m e : Q) : Q := if gtQ (capOf ro e) m = true then capOf ro e else m
theorem top_fold (ro : List Rope) : ∀ (es : List Q) (m : Q), es.foldl (topStep ro) m = (es.map (capOf ro)).foldl (fun m x => if gtQ x m = true then x else m) m
  | [], m => rfl
  | e :: es, m => by rw [List.foldl_cons, List.map_cons, List.foldl_cons, top_fold ro es]; rfl
theorem top_reds {ro : List Rope} (hn : Nice ro) : ∀ x ∈ ro.map (fun s => capOf ro (endOf s)), Red x := fun x hx => by
  obtain ⟨s, hs, rfl⟩ := List.mem_map.mp hx
  exact cap_red hn (end_red (hn.a s hs) (hn.b s hs) (hn.c s hs))
theorem top_eq {ro : List Rope} {es : List Q} (hn : Nice ro) (h : Ris es (ro.map endOf)) : es.foldl (topStep ro) (0, 1) = topOf ro := by
  rw [top_fold]
  have hm : ∀ x, x ∈ es.map (capOf ro) ↔ x ∈ ro.map fun s => capOf ro (endOf s) := fun x => by
    constructor
    · intro hx
      obtain ⟨e, he, rfl⟩ := List.mem_map.mp hx
      obtain ⟨s, hs, rfl⟩ := List.mem_map.mp ((h.mem e).mp he)
      exact List.mem_map.mpr ⟨s, hs, rfl⟩
    · intro hx
      obtain ⟨s, hs, rfl⟩ := List.mem_map.mp hx
      exact List.mem_map.mpr ⟨endOf s, (h.mem _).mpr (List.mem_map.mpr ⟨s, hs, rfl⟩), rfl⟩
  exact best_congr (fun x hx => top_reds hn x ((hm x).mp hx)) hm
theorem top_mk {ro : List Rope} (hl : ro.length ≤ 8) (hf : ∀ r ∈ ro, r.Fine) (hn : Nice ro) : Mk (topOf ro) := by
  rcases best_mem (top_reds hn) with e | e
  · unfold topOf; rw [e]; exact mk01
  · obtain ⟨s, hs, e⟩ := List.mem_map.mp e
    unfold topOf
    rw [← e]
    exact cap_mk hl hf (end_en (hf s hs))
def brkAt' (ro lo : List Rope) (q : Q) : List Str := (lo.filter fun r => decide (tillOf ro r = q)).map Rope.n
def brkAt (ro : List Rope) (q : Q) : List Str := brkAt' ro ro q
theorem fr_eqv {x y : Q} : PyData.eqv (fr x) (fr y) = decide (x = y) := by
  show (x.1 == y.1 && (x.2 == y.2 && true)) = _
  rw [Bool.and_true, Bool.eq_iff_iff, Bool.and_eq_true, beq_iff_eq, beq_iff_eq, decide_eq_true_iff, Prod.ext_iff]
section
variable {P : Program} {w : World} {K : PySem.W.Frag} {mg : Str → Option Value} {base : Heap} {f : Addr} {fd : FuncData}
def S_great : SpD := fun rs M P => ∃ (ro : List Rope), rs = [.d (bd ro)] ∧ Bun ro ∧ ∀ e : Q, P (.d (.tuple [fr (topOf ro), fr e])) M
abbrev s_greatest : Stmt := topS 28
theorem sc_greatest : FnScope ["bundle", "most", "sunk", "end", "load"] ["bundle"] (defScope s_greatest) := ⟨rfl, rfl, rfl, by decide +kernel, rfl, by decide +kernel, by decide +kernel⟩
theorem ok_greatest {a_N : Addr} (N : Nt K mg a_N) (F0 : Fun K "greatest" "greatest" s_greatest f fd) (c_table : Has P w K mg base 5 "table" ["bundle"] S_table) (c_is_more : Has P w K mg base 1 "is_more" ["one", "other"] S_more) : FnOk P w K mg base CX0 6 f fd ["bundle"] (spOf K S_great) := by
  refine ok_of F0 sc_greatest (fun rs M P h => by obtain ⟨a, rfl, _⟩ := h; rfl) fun cdv A outer s H E hr => ⟨_, (pss_cons (ps_set (i := 1) sc_greatest.nd rfl (Or.inl rfl) (pe_glob (v := .ref a_N) rfl N.m rfl))
      (pss_cons (ps_set (i := 2) sc_greatest.nd rfl (Or.inl rfl) (pe_glob (v := .ref a_N) rfl N.m rfl))
      (pss_cons (ps_for PassesOwn.never rfl (kpi_tup K (pe_callH' c_table (hr.mono (by first | decide | omega)) rfl (pa_cons (pv 0) pa_nil))) (kpg_tup K (n := 2) rfl (pgs_cons (pg_name (i := 3) sc_greatest.nd rfl (Or.inl rfl)) (pgs_cons (pg_name (i := 4) sc_greatest.nd rfl (Or.inl rfl)) pgs_nil))) (pss_one (ps_if (pt_val (pe_callH' c_is_more (hr.mono (by first | decide | omega)) rfl (pa_cons (pv 4) (pa_cons (pv 1) pa_nil)))) (pss_cons (ps_set (i := 1) sc_greatest.nd rfl (Or.inl rfl) (pv 4))
      (pss_one (ps_set (i := 2) sc_greatest.nd rfl (Or.inl rfl) (pv 3)))) pss_nil)))
      (pss_one (ps_ret (pe_tup (pa_cons (pv 1) (pa_cons (pv 2) pa_nil)))))))), fun rs M P h => ?_⟩
  obtain ⟨ro, rfl, hB, p⟩ := h
  have hl : ro.length ≤ 8 := by have := hB.len; omega
  have hn := hB.nice
  walk_at "d"
  refine dS_forT ?_
  walk_at "d"
  refine ⟨hl, hB.fine, fun es hes => ?_⟩
  have hen : ∀ e ∈ es, En e := fun e he => by
    obtain ⟨r, hr1, rfl⟩ := List.mem_map.mp ((hes.mem e).mp he)
    exact end_en (hB.fine r hr1)
  walk_at "d"
  refine ⟨fun i δ M' => ∃ (m k : Q) (x1 x2 : Option SV), δ = [some (.d (bd ro)), some (.d (fr m)), some (.d (fr k)), x1, x2] ∧ M' = M ∧ Mk m ∧ (es.drop i).foldl (topStep ro) m = topOf ro, ⟨(0, 1), (0, 1), _, _, rfl, rfl, mk01, top_eq hn hes⟩, fun i y δ M' hy hI => ?_, fun δ M' hI => ?_⟩
  · obtain ⟨m, k, x1, x2, rfl, rfl, hm, hg⟩ := hI
    obtain ⟨e, he1, rfl⟩ := getElem?_map_some hy
    have he := hen e (List.mem_of_getElem? he1)
    have hc := cap_mk hl hB.fine he
    have hdr : es.drop i = e :: es.drop (i + 1) := by rw [List.drop_eq_getElem_cons (List.getElem?_eq_some_iff.mp he1).1, (List.getElem?_eq_some_iff.mp he1).2]
    rw [hdr, List.foldl_cons] at hg
    unfold topStep at hg
    walk_at "d"
    refine ⟨hc.fr3, hm.fr3, ?_⟩
    walk_at "d"
    refine ifB (fun h => ?_) (fun h => ?_)
    · walk_at "d"
      rw [if_pos h] at hg
      exact ⟨capOf ro e, e, _, _, rfl, rfl, hc, hg⟩
    · walk_at "d"
      rw [if_neg (by rw [h]; decide)] at hg
      exact ⟨m, k, _, _, rfl, rfl, hm, hg⟩
  · obtain ⟨m, k, x1, x2, rfl, rfl, hm, hg⟩ := hI
    rw [List.length_map, List.drop_length] at hg
    walk_at "d"
    rw [show m = topOf ro from hg]
    exact p k
def S_brk : SpD := fun rs M P => ∃ (ro : List Rope) (q : Q), rs = [.d (bd ro), .d (.list ((ro.map (tillOf ro)).map fr)), .d (fr q)] ∧ Bun ro ∧ P (.d (nm (brkAt ro q))) M
abbrev s_breaking_at : Stmt := topS 33
theorem sc_breaking_at : FnScope ["bundle", "tills", "load", "rope", "till"] ["bundle", "tills", "load"] (defScope s_breaking_at) := ⟨rfl, rfl, rfl, by decide +kernel, rfl, by decide +kernel, by decide +kernel⟩
theorem ok_breaking_at (T : Txt mg) (F0 : Fun K "breaking_at" "breaking_at" s_breaking_at f fd) : FnOk P w K mg base CX0 1 f fd ["bundle", "tills", "load"] (spOf K S_brk) := by
  refine ok_of F0 sc_breaking_at (fun rs M P h => by obtain ⟨a, b, rfl, _⟩ := h; rfl) fun cdv A outer s H E hr => ⟨_, (pss_one (ps_ret (pe_callTy (kcall_tuple K) (by rfl) T.tuple (by decide +kernel) (pa_cons (pe_lc (own := [("rope", 3), ("till", 4)]) (by rfl) sc_breaking_at.nd (kpi_zipM K (by rfl) T.zip (pa_cons (pv 0) (pa_cons (pv 1) pa_nil))) (blkOk_by (N := ["bundle", "tills", "load", "rope", "till"]) (sc := defScope s_breaking_at) (own := [("rope", 3), ("till", 4)]) (by decide +kernel)) (fun _ _ _ _ _ => (kpg_tup K (n := 2) rfl (pgs_cons (pg_name (i := 3) sc_breaking_at.nd rfl (Or.inl rfl)) (pgs_cons (pg_name (i := 4) sc_breaking_at.nd rfl (Or.inl rfl)) pgs_nil)))) (fun _ _ _ _ _ => (pts_one (pt_cmpR (kop_eqD K hr.units) (pv 4) (pv 2) (nomark _)))) (fun _ _ _ _ _ => (pe_ix (kix_tup K) (pv 3) pe_int (fun _ _ => rfl)))) pa_nil)))), fun rs M P h => ?_⟩
  obtain ⟨ro, q, rfl, hB, p⟩ := h
  walk_at "d"
  refine dE_lcZM (gw_name2 2 3 4 (by decide)) ?_
  walk_at "d"
  refine ⟨_, _, rfl, by rw [List.length_map]; have := hB.len; omega, fun i acc M' => M' = M ∧ acc = (brkAt' ro (ro.take i) q).map .str, ⟨rfl, rfl⟩, fun i x y acc M' hx hy hI => ?_, fun acc M' hI => .inl ?_⟩
  · obtain ⟨rfl, rfl⟩ := hI
    obtain ⟨r, hr1, rfl⟩ := getElem?_map_some hx
    rw [List.map_map] at hy
    obtain ⟨r2, hr2, rfl⟩ := getElem?_map_some hy
    rw [hr1] at hr2
    cases hr2
    walk_at "d"
    refine dR_eq (d := fr (tillOf ro r)) (e := fr q) .of .of Shp.fr.shaped Shp.fr.shaped ?_
    rw [fr_eqv]
    walk_at "d"
    have ht : ro.take (i + 1) = ro.take i ++ [r] := by rw [List.take_succ, hr1]; rfl
    refine ifB (fun h => ?_) (fun h => ?_)
    · walk_at "d"
      refine ⟨rfl, ?_⟩
      rw [ht]
      unfold brkAt'
      rw [List.filter_append, List.map_append, List.map_append, List.filter_cons, if_pos h]
      rfl
    · refine ⟨rfl, ?_⟩
      rw [ht]
      unfold brkAt'
      rw [List.filter_append, List.filter_cons, if_neg (by rw [h]; decide)]
      simp
  · obtain ⟨rfl, rfl⟩ := hI
    rw [List.length_map, List.length_map, List.length_map, Nat.min_self, List.take_length]
    walk_at "d"
    refine dC_tuple (.inl rfl) ?_
    exact rtOf.of p
abbrev stepD (ro : List Rope) (q : Q) : PyData := .tuple [fr q, nm (brkAt ro q)]
def S_steps : SpD := fun rs M P => ∃ (ro : List Rope), rs = [.d (bd ro)] ∧ Bun ro ∧ ∀ ls : List Q, Ris ls (ro.map (tillOf ro)) → ∀ a, M a = none → P (.m a) (mset M a (ls.map (stepD ro)))
abbrev s_steps : Stmt := topS 29
theorem sc_steps : FnScope ["bundle", "tills", "rope", "load"] ["bundle"] (defScope s_steps) := ⟨rfl, rfl, rfl, by decide +kernel, rfl, by decide +kernel, by decide +kernel⟩
theorem ok_steps (F0 : Fun K "steps" "steps" s_steps f fd) (c_lasting_till : Has P w K mg base 6 "lasting_till" ["left", "rope"] S_till) (c_rising : Has P w K mg base 3 "rising" ["fractions"] S_rising) (c_breaking_at : Has P w K mg base 1 "breaking_at" ["bundle", "tills", "load"] S_brk) : FnOk P w K mg base CX0 7 f fd ["bundle"] (spOf K S_steps) := by
  refine ok_of F0 sc_steps (fun rs M P h => by obtain ⟨a, rfl, _⟩ := h; rfl) fun cdv A outer s H E hr => ⟨_, (pss_cons (ps_set (i := 1) sc_steps.nd rfl (Or.inr rfl) (pe_lc (own := [("rope", 2)]) (by rfl) sc_steps.nd (kpi_tup K (pv 0)) (blkOk_by (N := ["bundle", "tills", "rope", "load"]) (sc := defScope s_steps) (own := [("rope", 2)]) (by decide +kernel)) (fun _ _ _ _ _ => (pg_name (i := 2) sc_steps.nd rfl (Or.inl rfl))) (fun _ _ _ _ _ => pts_nil) (fun _ _ _ _ _ => (pe_callH' c_lasting_till (hr.mono (by first | decide | omega)) rfl (pa_cons (pv 0) (pa_cons (pv 2) pa_nil))))))
      (pss_one (ps_ret (pe_lc (own := [("load", 3)]) (by rfl) sc_steps.nd (kpi_list K (pe_callH' c_rising (hr.mono (by first | decide | omega)) rfl (pa_cons (pv 1) pa_nil))) (blkOk_by (N := ["bundle", "tills", "rope", "load"]) (sc := defScope s_steps) (own := [("load", 3)]) (by decide +kernel)) (fun _ _ _ _ _ => (pg_name (i := 3) sc_steps.nd rfl (Or.inl rfl))) (fun _ _ _ _ _ => pts_nil) (fun _ _ _ _ _ => (pe_tup (pa_cons (pv 3) (pa_cons (pe_callH' c_breaking_at (hr.mono (by first | decide | omega)) rfl (pa_cons (pv 0) (pa_cons (pv 1) (pa_cons (pv 3) pa_nil)))) pa_nil)))))))), fun rs M P h => ?_⟩
  obtain ⟨ro, rfl, hB, p⟩ := h
  have hl : ro.length ≤ 8 := by have := hB.len; omega
  have hn := hB.nice
  walk_at "d"
  refine dE_lcTm (enc := Rope.d) (out := fun r => fr (tillOf ro r)) (xs := ro) ?_
  walk_at "d"
  refine ⟨rfl, rfl, by omega, fun r hr => ?_, .inl ?_⟩
  · walk_at "d"
    refine ⟨hl, hB.fine, hn, hB.fine r hr, rfl, rfl⟩
  rw [show (ro.map fun r => fr (tillOf ro r)) = (ro.map (tillOf ro)).map fr by rw [List.map_map]; rfl]
  walk_at "d"
  refine dE_lcL (gw_name 3) ?_
  walk_at "d"
  refine ⟨by rw [List.length_map]; omega, fun q hq => ?_, fun ls hls => ?_⟩
  · obtain ⟨r, hr, rfl⟩ := List.mem_map.mp hq
    exact (till_mk hl hB.fine hn).fr1
  have hll := ris_len hls
  rw [List.length_map] at hll
  walk_at "d"
  refine ⟨by rw [List.length_map]; omega, fun i acc M' => M' = M ∧ acc = (ls.take i).map (stepD ro), ⟨rfl, rfl⟩, fun i y acc M' hy hI => ?_, fun acc M' hI => .inr fun a ha => ?_⟩
  · obtain ⟨rfl, rfl⟩ := hI
    obtain ⟨q, hq1, rfl⟩ := getElem?_map_some hy
    walk_at "d"
    refine ifT rfl ?_
    walk_at "d"
    refine ⟨hB, ?_⟩
    walk_at "d"
    refine ⟨rfl, ?_⟩
    rw [List.take_succ, hq1, List.map_append]
    rfl
  · obtain ⟨rfl, rfl⟩ := hI
    rw [List.length_map, List.take_length]
    exact rtOf.of (p ls hls a ha)
end
end K2

namespace K2
open PySem L2 Sd Ma
/-! ### the steps of a growing load -/
theorem low_leq {q : Q} {X s : Int} (hX : 0 ≤ X) (hs : 0 < s) (hq : 0 < q.2) : leQ (low X s) q ↔ X * q.2 ≤ q.1 * s := by
  have hr := low_red hX hs
  have he := low_eq (t := X) hs
  unfold leQ
  generalize low X s = z at *
  constructor
  · intro h
    have h1 := Int.mul_le_mul_of_nonneg_right h (Int.le_of_lt hs)
    have e1 : z.1 * q.2 * s = z.1 * s * q.2 := by grind
    have e2 : q.1 * z.2 * s = q.1 * s * z.2 := by grind
    rw [e1, e2, ← he] at h1
    have e3 : X * z.2 * q.2 = X * q.2 * z.2 := by grind
    rw [e3] at h1
    exact Int.le_of_mul_le_mul_right h1 hr.q0
  · intro h
    have h1 := Int.mul_le_mul_of_nonneg_right h (Int.le_of_lt hr.q0)
    have e3 : X * q.2 * z.2 = X * z.2 * q.2 := by grind
    rw [e3, he] at h1
    have e1 : z.1 * s * q.2 = z.1 * q.2 * s := by grind
    have e2 : q.1 * s * z.2 = q.1 * z.2 * s := by grind
    rw [e1, e2] at h1
    exact Int.le_of_mul_le_mul_right h1 hs
theorem lt_not {x y : Q} : ltQ x y ↔ ¬ leQ y x := by
  unfold leQ
  constructor
  · intro h k
    have h : x.1 * y.2 < y.1 * x.2 := h
    omega
  · intro h
    show x.1 * y.2 < y.1 * x.2
    omega
theorem ltQ_low {q : Q} {X s : Int} (hX : 0 ≤ X) (hs : 0 < s) (hq : 0 < q.2) : ltQ q (low X s) ↔ q.1 * s < X * q.2 := by
  rw [lt_not, low_leq hX hs hq]
  omega
theorem plus_nn {a b : Q} (ha : Red a) (hb : Red b) : 0 ≤ a.1 * b.2 + b.1 * a.2 := by have := Int.mul_nonneg ha.p0 (Int.le_of_lt hb.q0); have := Int.mul_nonneg hb.p0 (Int.le_of_lt ha.q0); omega
theorem plus_lt {a b : Q} (ha : Red a) (hb : Red b) (h : 0 < b.1) : ltQ a (plus a b) := by
  refine (ltQ_low (plus_nn ha hb) (Int.mul_pos ha.q0 hb.q0) ha.q0).mpr ?_
  have h2 := Int.mul_pos (Int.mul_pos h ha.q0) ha.q0
  have e : (a.1 * b.2 + b.1 * a.2) * a.2 = a.1 * (a.2 * b.2) + b.1 * a.2 * a.2 := by grind
  omega
theorem near_le {a b : Q} (ha : Mk a) (hb : Mk b) (h : ltQ a b) : leQ (near a) b := by
  have hr : Red (1, 10 ^ 24) := ⟨by decide, by decide, by decide⟩
  refine (low_leq (plus_nn ha.toRed hr) (Int.mul_pos ha.q0 hr.q0) hb.q0).mpr ?_
  show (a.1 * 10 ^ 24 + 1 * a.2) * b.2 ≤ b.1 * (a.2 * 10 ^ 24)
  have h1 : a.2 * b.2 ≤ 100 * 100 := Int.mul_le_mul ha.u hb.u (Int.le_of_lt hb.q0) (by decide)
  have h2 : a.1 * b.2 + 1 ≤ b.1 * a.2 := h
  have h3 := Int.mul_le_mul_of_nonneg_right h2 (show (0 : Int) ≤ 10 ^ 24 by decide)
  have e1 : (a.1 * 10 ^ 24 + 1 * a.2) * b.2 = a.1 * b.2 * 10 ^ 24 + a.2 * b.2 := by grind
  have e2 : b.1 * (a.2 * 10 ^ 24) = b.1 * a.2 * 10 ^ 24 := by grind
  have e3 : (a.1 * b.2 + 1) * 10 ^ 24 = a.1 * b.2 * 10 ^ 24 + 10 ^ 24 := by grind
  rw [e1, e2]
  rw [e3] at h3
  have : (10 : Int) ^ 24 = 1000000000000000000000000 := by decide
  omega
def midOf (a b : Q) : Q := low (plus a b).1 (2 * (plus a b).2)
theorem mid_low {a b : Q} (ha : Red a) (hb : Red b) : midOf a b = low (a.1 * b.2 + b.1 * a.2) (2 * (a.2 * b.2)) := by
  have hD := Int.mul_pos ha.q0 hb.q0
  have hp := plus_red ha hb
  have e : (a.1 * b.2 + b.1 * a.2) * (plus a b).2 = (plus a b).1 * (a.2 * b.2) := low_eq hD
  unfold midOf
  refine low_unique hp.p0 (by have := hp.q0; omega) (low_red (plus_nn ha hb) (by omega)) ?_
  have e2 := low_eq (t := a.1 * b.2 + b.1 * a.2) (show 0 < 2 * (a.2 * b.2) by omega)
  generalize low (a.1 * b.2 + b.1 * a.2) (2 * (a.2 * b.2)) = z at *
  generalize plus a b = m at *
  refine Int.eq_of_mul_eq_mul_right (Int.ne_of_gt hD) ?_
  calc m.1 * z.2 * (a.2 * b.2) = m.1 * (a.2 * b.2) * z.2 := by grind
    _ = (a.1 * b.2 + b.1 * a.2) * m.2 * z.2 := by rw [e]
    _ = (a.1 * b.2 + b.1 * a.2) * z.2 * m.2 := by grind
    _ = z.1 * (2 * (a.2 * b.2)) * m.2 := by rw [e2]
    _ = z.1 * (2 * m.2) * (a.2 * b.2) := by grind
theorem mid_gt {a b : Q} (ha : Red a) (hb : Red b) (h : ltQ a b) : ltQ a (midOf a b) := by
  rw [mid_low ha hb]
  have hD := Int.mul_pos ha.q0 hb.q0
  refine (ltQ_low (plus_nn ha hb) (by omega) ha.q0).mpr ?_
  have h1 := Int.mul_lt_mul_of_pos_right (show a.1 * b.2 < b.1 * a.2 from h) ha.q0
  have e1 : a.1 * (2 * (a.2 * b.2)) = a.1 * b.2 * a.2 + a.1 * b.2 * a.2 := by grind
  have e2 : (a.1 * b.2 + b.1 * a.2) * a.2 = a.1 * b.2 * a.2 + b.1 * a.2 * a.2 := by grind
  omega
theorem mid_le {a b : Q} (ha : Red a) (hb : Red b) (h : ltQ a b) : leQ (midOf a b) b := by
  rw [mid_low ha hb]
  have hD := Int.mul_pos ha.q0 hb.q0
  refine (low_leq (plus_nn ha hb) (by omega) hb.q0).mpr ?_
  have h1 := Int.mul_lt_mul_of_pos_right (show a.1 * b.2 < b.1 * a.2 from h) hb.q0
  have e1 : b.1 * (2 * (a.2 * b.2)) = b.1 * a.2 * b.2 + b.1 * a.2 * b.2 := by grind
  have e2 : (a.1 * b.2 + b.1 * a.2) * b.2 = a.1 * b.2 * b.2 + b.1 * a.2 * b.2 := by grind
  omega
/-! ### names -/
theorem sorted_same {l : List Str} (h : l.Pairwise fun a b => leN a b = true) : sortN l = l :=
  List.Perm.eq_of_pairwise (fun x y _ _ h1 h2 => leN_anti h1 h2) (sortN_sorted l) h (List.mergeSort_perm l leN)
theorem bun_sorted {ro : List Rope} (hB : Bun ro) : (ro.map Rope.n).Pairwise fun a b => leN a b = true := hB.ris.imp fun {a b} h => by
  rw [show leN a b = decide (a.cps.toList ≤ b.cps.toList) from congrFun (congrFun (PySem.W.dataLe_str (β := Str) id) a) b]
  exact decide_eq_true (List.le_of_lt h)
theorem brk_sub (ro : List Rope) (q : Q) : (brkAt ro q).Sublist (ro.map Rope.n) := (List.filter_sublist (p := fun r => decide (tillOf ro r = q))).map Rope.n
theorem brk_sorted {ro : List Rope} {q : Q} (hB : Bun ro) : sortN (brkAt ro q) = brkAt ro q := sorted_same ((bun_sorted hB).sublist (brk_sub ro q))
theorem mem_brk {ro : List Rope} {q : Q} {x : Str} : x ∈ brkAt ro q ↔ ∃ r ∈ ro, r.n = x ∧ tillOf ro r = q := by
  unfold brkAt brkAt'
  constructor
  · intro h
    obtain ⟨r, hr, e⟩ := List.mem_map.mp h
    obtain ⟨h1, h2⟩ := List.mem_filter.mp hr
    exact ⟨r, h1, e, of_decide_eq_true h2⟩
  · rintro ⟨r, h1, e, h2⟩
    exact List.mem_map.mpr ⟨r, List.mem_filter.mpr ⟨h1, decide_eq_true h2⟩, e⟩
def soFar (ro : List Rope) (qs : List Q) : List Str := (qs.map (brkAt ro)).flatten
theorem mem_far {ro : List Rope} {qs : List Q} {x : Str} : x ∈ soFar ro qs ↔ ∃ r ∈ ro, r.n = x ∧ tillOf ro r ∈ qs := by
  unfold soFar
  rw [List.mem_flatten]
  constructor
  · rintro ⟨l, hl, hx⟩
    obtain ⟨q, hq, rfl⟩ := List.mem_map.mp hl
    obtain ⟨r, h1, h2, h3⟩ := mem_brk.mp hx
    exact ⟨r, h1, h2, h3 ▸ hq⟩
  · rintro ⟨r, h1, h2, h3⟩
    exact ⟨_, List.mem_map.mpr ⟨_, h3, rfl⟩, mem_brk.mpr ⟨r, h1, h2, rfl⟩⟩
theorem far_nodup {ro : List Rope} (hn : Nice ro) : ∀ {qs : List Q}, qs.Nodup → (soFar ro qs).Nodup
  | [], _ => List.nodup_nil
  | q :: qs, h => by
    obtain ⟨h1, h2⟩ := List.nodup_cons.mp h
    show (brkAt ro q ++ soFar ro qs).Nodup
    rw [List.nodup_append]
    refine ⟨(brk_sub ro q).nodup hn.nd, far_nodup hn h2, fun a ha b hb e => ?_⟩
    subst e
    obtain ⟨r, r1, r2, r3⟩ := mem_brk.mp ha
    obtain ⟨t, t1, t2, t3⟩ := mem_far.mp hb
    have := hn.inj r1 t1 (r2.trans t2.symm)
    subst this
    rw [r3] at t3
    exact h1 t3
theorem ris_nodup {ls qs : List Q} (h : Ris ls qs) : ls.Nodup := h.pw.imp fun {a b} hab e => by
  subst e
  exact Int.lt_irrefl _ hab
theorem far_all {ro : List Rope} {ls : List Q} (hB : Bun ro) (h : Ris ls (ro.map (tillOf ro))) : sortN (soFar ro ls) = ro.map Rope.n := by
  rw [← sorted_same (bun_sorted hB)]
  refine sortN_eq (far_nodup hB.nice (ris_nodup h)) hB.nice.nd fun x => ?_
  rw [mem_far]
  constructor
  · rintro ⟨r, h1, h2, _⟩
    exact List.mem_map.mpr ⟨r, h1, h2⟩
  · intro hx
    obtain ⟨r, h1, h2⟩ := List.mem_map.mp hx
    exact ⟨r, h1, h2, (h.mem _).mpr (List.mem_map.mpr ⟨r, h1, rfl⟩)⟩
theorem br_mem {ro : List Rope} {r : Rope} {q : Q} (hB : Bun ro) (hr : r ∈ ro) (hq : Red q) : r.n ∈ brOf ro [] q ↔ ltQ (tillOf ro r) q := by
  have hl : r ∈ leftOf ro [] := by rw [left_nil]; exact hr
  rw [lt_not, ← whole_iff hB.nice hq hr]
  have e := left_br (ro := ro) (ns := []) (q := q)
  rw [left_nil] at e
  rw [← e]
  unfold leftOf
  rw [List.mem_filter]
  constructor
  · intro h k
    have := k.2
    rw [List.contains_iff_mem.mpr h] at this
    cases this
  · intro h
    rcases Classical.em (r.n ∈ brOf ro [] q) with k | k
    · exact k
    · refine absurd ⟨hr, ?_⟩ h
      cases hc : (brOf ro [] q).contains r.n with
      | false => rfl
      | true => exact absurd (List.contains_iff_mem.mp hc) k
/-- what is broken by q: those of the steps ahead -/
theorem br_far {ro : List Rope} {qs : List Q} {q : Q} (hB : Bun ro) (hq : Red q) (nd : qs.Nodup) (cut : ∀ r ∈ ro, (tillOf ro r ∈ qs ↔ ltQ (tillOf ro r) q)) : brOf ro [] q = sortN (soFar ro qs) := by
  have hb : Brk ro [] := ⟨(fun x hx => by cases hx), List.nodup_nil⟩
  have hbr := hb.br (q := q) hB.nice.nd
  rw [← br_sorted (ro := ro) (ns := []) (q := q)]
  refine sortN_eq hbr.nd (far_nodup hB.nice nd) fun x => ?_
  rw [mem_far]
  constructor
  · intro hx
    obtain ⟨r, h1, h2⟩ := List.mem_map.mp (hbr.sub x hx)
    subst h2
    exact ⟨r, h1, rfl, (cut r h1).mpr ((br_mem hB h1 hq).mp hx)⟩
  · rintro ⟨r, h1, h2, h3⟩
    subst h2
    exact (br_mem hB h1 hq).mpr ((cut r h1).mp h3)
theorem ris_lt {ls qs : List Q} (h : Ris ls qs) {i j : Nat} {a b : Q} (ha : ls[i]? = some a) (hb : ls[j]? = some b) (hij : i < j) : ltQ a b := by
  obtain ⟨i1, rfl⟩ := List.getElem?_eq_some_iff.mp ha
  obtain ⟨j1, rfl⟩ := List.getElem?_eq_some_iff.mp hb
  exact List.pairwise_iff_getElem.mp h.pw i j i1 j1 hij
theorem mem_take {ls : List Q} {q : Q} {i : Nat} : q ∈ ls.take i ↔ ∃ j, j < i ∧ ls[j]? = some q := by
  constructor
  · intro h
    obtain ⟨j, hj⟩ := List.mem_iff_getElem?.mp h
    have hl : j < (ls.take i).length := (List.getElem?_eq_some_iff.mp hj).1
    rw [List.length_take] at hl
    exact ⟨j, by omega, by rw [List.getElem?_take_of_lt (by omega)] at hj; exact hj⟩
  · rintro ⟨j, h1, h2⟩
    exact List.mem_iff_getElem?.mpr ⟨j, by rw [List.getElem?_take_of_lt h1]; exact h2⟩
theorem cut_at {ro : List Rope} {ls : List Q} (hB : Bun ro) (h : Ris ls (ro.map (tillOf ro))) {i : Nat} {a q : Q} (ha : ls[i]? = some a) (hq : Red q) (h1 : ltQ a q) (h2 : ∀ b, ls[i + 1]? = some b → leQ q b) : ∀ r ∈ ro, (tillOf ro r ∈ ls.take (i + 1) ↔ ltQ (tillOf ro r) q) := fun r hr => by
  have red : ∀ {x : Q}, x ∈ ls → Red x := fun {x} hx => by
    obtain ⟨t, ht, rfl⟩ := List.mem_map.mp ((h.mem x).mp hx)
    exact till_red hB.nice
  have ra := red (List.mem_of_getElem? ha)
  have rt := till_red (r := r) hB.nice
  constructor
  · intro hm
    obtain ⟨j, hj, e⟩ := mem_take.mp hm
    by_cases k : j = i
    · subst k; rw [ha] at e; cases e; exact h1
    · have := ris_lt h e ha (by omega)
      refine lt_not.mpr fun hle => ?_
      exact lt_not.mp h1 (leQ_trans hq.q0 rt.q0 ra.q0 hle (Int.le_of_lt this))
  · intro hlt
    obtain ⟨j, e⟩ := List.mem_iff_getElem?.mp ((h.mem _).mpr (List.mem_map.mpr ⟨r, hr, rfl⟩))
    refine mem_take.mpr ⟨j, ?_, e⟩
    rcases Nat.lt_or_ge j (i + 1) with k | k
    · exact k
    · exfalso
      have hjl : j < ls.length := (List.getElem?_eq_some_iff.mp e).1
      have hb : ls[i + 1]? = some ls[i + 1] := List.getElem?_eq_getElem (by omega)
      have hle := h2 _ hb
      have rb := red (List.mem_of_getElem? hb)
      by_cases k2 : j = i + 1
      · subst k2
        rw [hb] at e
        rw [Option.some.inj e] at hle
        exact lt_not.mp hlt hle
      · have := ris_lt h hb e (by omega)
        exact lt_not.mp hlt (leQ_trans hq.q0 rb.q0 rt.q0 hle (Int.le_of_lt this))
theorem cut_here {ro : List Rope} {ls : List Q} (hB : Bun ro) (h : Ris ls (ro.map (tillOf ro))) {i : Nat} {a : Q} (ha : ls[i]? = some a) : ∀ r ∈ ro, (tillOf ro r ∈ ls.take i ↔ ltQ (tillOf ro r) a) := fun r hr => by
  constructor
  · intro hm
    obtain ⟨j, hj, e⟩ := mem_take.mp hm
    exact ris_lt h e ha hj
  · intro hlt
    obtain ⟨j, e⟩ := List.mem_iff_getElem?.mp ((h.mem _).mpr (List.mem_map.mpr ⟨r, hr, rfl⟩))
    refine mem_take.mpr ⟨j, ?_, e⟩
    rcases Nat.lt_or_ge j i with k | k
    · exact k
    · exfalso
      by_cases k2 : j = i
      · subst k2; rw [ha] at e; cases e; exact Int.lt_irrefl _ hlt
      · have := ris_lt h ha e (by omega)
        exact lt_not.mp hlt (Int.le_of_lt this)
/-- the last step is the greatest load -/
theorem most_end : ∀ (S : List Rope), S ≠ [] → (∀ r ∈ S, Red (endOf r)) → ∃ s ∈ S, ∀ t ∈ S, leQ (endOf t) (endOf s)
  | [], h, _ => absurd rfl h
  | [r], _, _ => ⟨r, List.mem_cons_self, fun t ht => by rw [List.mem_singleton.mp ht]; exact leQ_refl _⟩
  | r :: r2 :: S, _, h => by
    obtain ⟨s, hs, hl⟩ := most_end (r2 :: S) (List.cons_ne_nil _ _) fun z hz => h z (List.mem_cons_of_mem _ hz)
    rcases leQ_total (endOf s) (endOf r) with h1 | h1
    · refine ⟨r, List.mem_cons_self, fun t ht => ?_⟩
      rcases List.mem_cons.mp ht with rfl | ht
      · exact leQ_refl _
      · exact leQ_trans (h t (List.mem_cons_of_mem _ ht)).q0 (h s (List.mem_cons_of_mem _ hs)).q0 (h r List.mem_cons_self).q0 (hl t ht) h1
    · refine ⟨s, List.mem_cons_of_mem _ hs, fun t ht => ?_⟩
      rcases List.mem_cons.mp ht with rfl | ht
      · exact h1
      · exact hl t ht
theorem top_in {ro : List Rope} (hB : Bun ro) : topOf ro ∈ ro.map (tillOf ro) ∧ ∀ r ∈ ro, leQ (tillOf ro r) (topOf ro) := by
  have hn := hB.nice
  obtain ⟨s, hs, hl⟩ := most_end ro hB.ne fun r hr => end_red (hn.a r hr) (hn.b r hr) (hn.c r hr)
  refine ⟨List.mem_map.mpr ⟨s, hs, ?_⟩, fun r hr => ?_⟩
  · unfold tillOf topOf
    rw [List.filter_eq_self.mpr fun t ht => by rw [gt_le.mpr (hl t ht)]; rfl]
  · rcases best_mem (till_reds (r := r) hn) with e | e
    · unfold tillOf
      rw [e]
      exact leQ_nought rfl (by decide) (best_red (top_reds hn))
    · obtain ⟨t, ht, e⟩ := List.mem_map.mp e
      unfold tillOf
      rw [← e]
      exact best_le (top_reds hn) (List.mem_map.mpr ⟨t, (List.mem_filter.mp ht).1, rfl⟩)
theorem last_top {ro : List Rope} {ls : List Q} (hB : Bun ro) (h : Ris ls (ro.map (tillOf ro))) {n : Nat} {a : Q} (hl : ls.length = n + 1) (ha : ls[n]? = some a) : a = topOf ro := by
  obtain ⟨h1, h2⟩ := top_in hB
  obtain ⟨r, hr, e⟩ := List.mem_map.mp ((h.mem a).mp (List.mem_of_getElem? ha))
  obtain ⟨j, hj⟩ := List.mem_iff_getElem?.mp ((h.mem _).mpr h1)
  have hjl : j < ls.length := (List.getElem?_eq_some_iff.mp hj).1
  by_cases k : j = n
  · subst k; rw [ha] at hj; cases hj; rfl
  · have := ris_lt h hj ha (by omega)
    exact absurd (e ▸ h2 r hr) (lt_not.mp this)
theorem eqv_len : ∀ (xs ys : List PyData), PyData.eqvAll xs ys = true → xs.length = ys.length
  | [], [], _ => rfl
  | [], _ :: _, h => by cases h
  | _ :: _, [], h => by cases h
  | x :: xs, y :: ys, h => by
    have h' : (PyData.eqv x y && PyData.eqvAll xs ys) = true := h
    rw [Bool.and_eq_true] at h'
    rw [List.length_cons, List.length_cons, eqv_len xs ys h'.2]
theorem ris_same_len {a b qs : List Q} (ha : Ris a qs) (hb : Ris b qs) : a.length = b.length :=
  Nat.le_antisymm (nodup_len a b (ris_nodup ha) fun x hx => (hb.mem x).mpr ((ha.mem x).mp hx)) (nodup_len b a (ris_nodup hb) fun x hx => (ha.mem x).mpr ((hb.mem x).mp hx))
end K2

namespace K2
open PySem L2 Sd Ma
theorem ris_unique {a b qs : List Q} (ha : Ris a qs) (hb : Ris b qs) : a = b :=
  List.Perm.eq_of_pairwise (fun x y _ _ (h1 : ltQ x y) (h2 : ltQ y x) => absurd h1 (by unfold ltQ at *; omega)) ha.pw hb.pw ((List.perm_ext_iff_of_nodup (ris_nodup ha) (ris_nodup hb)).mpr fun x => (ha.mem x).trans (hb.mem x).symm)
theorem ltQ_trans {a b c : Q} (ha : 0 < a.2) (hb : 0 < b.2) (hc : 0 < c.2) (h1 : ltQ a b) (h2 : leQ b c) : ltQ a c := by
  rw [lt_not]
  intro h
  exact lt_not.mp h1 (leQ_trans hb hc ha h2 h)
theorem filter_lt {α : Type} {p q : α → Bool} : ∀ {l : List α} {x : α}, (∀ y ∈ l, p y = true → q y = true) → x ∈ l → p x = false → q x = true → (l.filter p).length < (l.filter q).length
  | y :: l, x, h, hm, h1, h2 => by
    have hs : ∀ {l : List α}, (∀ y ∈ l, p y = true → q y = true) → (l.filter p).length ≤ (l.filter q).length := fun {l} => by
      induction l with
      | nil => intro _; exact Nat.le_refl _
      | cons z l ih =>
        intro h
        have := ih fun y hy => h y (List.mem_cons_of_mem _ hy)
        rw [List.filter_cons, List.filter_cons]
        have hz := h z List.mem_cons_self
        cases e : p z with
        | true => rw [hz e, if_pos rfl, if_pos rfl, List.length_cons, List.length_cons]; omega
        | false =>
          rw [if_neg (by decide)]
          split
          · rw [List.length_cons]; omega
          · exact this
    rcases List.mem_cons.mp hm with rfl | hm
    · rw [List.filter_cons, List.filter_cons, h1, h2, if_neg (by decide), if_pos rfl, List.length_cons]
      have := hs fun y hy => h y (List.mem_cons_of_mem _ hy)
      omega
    · have ih := filter_lt (fun y hy => h y (List.mem_cons_of_mem _ hy)) hm h1 h2
      have hz := h y List.mem_cons_self
      rw [List.filter_cons, List.filter_cons]
      cases e : p y with
      | true => rw [hz e, if_pos rfl, if_pos rfl, List.length_cons, List.length_cons]; omega
      | false =>
        rw [if_neg (by decide)]
        split
        · rw [List.length_cons]; omega
        · exact ih
theorem bears_iff {ro : List Rope} {q : Q} (hB : Bun ro) (hq : Red q) : bearsOf ro [] q = true ↔ leQ q (topOf ro) := by
  have hn := hB.nice
  obtain ⟨ht1, ht2⟩ := top_in hB
  have rt : Red (topOf ro) := best_red (top_reds hn)
  unfold bearsOf
  by_cases h0 : q.1 = 0
  · rw [if_pos h0]
    exact ⟨fun _ => leQ_nought h0 hq.q0 rt, fun _ => rfl⟩
  rw [if_neg h0, decide_eq_true_iff]
  have hbr : Brk ro (brOf ro [] q) := Brk.br hn.nd ⟨(fun x hx => by cases hx), .nil⟩
  constructor
  · intro h
    rcases leQ_total q (topOf ro) with hle | hle
    · exact hle
    · rcases Classical.em (leQ q (topOf ro)) with hle' | hle'
      · exact hle'
      · exfalso
        have : (ro.map Rope.n).length ≤ (brOf ro [] q).length := nodup_len _ _ hn.nd fun x hx => by
          obtain ⟨r, hr, rfl⟩ := List.mem_map.mp hx
          rw [br_mem hB hr hq, lt_not]
          intro h'
          exact hle' (leQ_trans hq.q0 (till_red hn).q0 rt.q0 h' (ht2 r hr))
        rw [List.length_map] at this
        omega
  · intro h
    obtain ⟨r, hr, e⟩ := List.mem_map.mp ht1
    have hno : r.n ∉ brOf ro [] q := by
      rw [br_mem hB hr hq, lt_not, e]
      exact fun k => k h
    have : (r.n :: brOf ro [] q).length ≤ (ro.map Rope.n).length := nodup_len _ _ (List.nodup_cons.mpr ⟨hno, hbr.nd⟩) fun x hx => by
      rcases List.mem_cons.mp hx with rfl | hx
      · exact List.mem_map_of_mem hr
      · exact hbr.sub x hx
    rw [List.length_cons, List.length_map] at this
    omega
theorem filter_ext {α : Type} {p q : α → Bool} {l : List α} (h : ∀ r ∈ l, r ∈ l.filter p ↔ r ∈ l.filter q) : l.filter p = l.filter q := List.filter_congr fun r hr => by
  have := h r hr
  rw [List.mem_filter, List.mem_filter] at this
  rw [Bool.eq_iff_iff]
  exact ⟨fun k => (this.mp ⟨hr, k⟩).2, fun k => (this.mpr ⟨hr, k⟩).2⟩
/-- the first end where the greatest load is pulled -/
structure Deep (ro : List Rope) (e : Q) : Prop where
  mem : e ∈ ro.map endOf
  cap : capOf ro e = topOf ro
  first : ∀ x ∈ ro.map endOf, ltQ x e → ltQ (capOf ro x) (topOf ro)
theorem cap_pos {ro : List Rope} {r : Rope} (hn : Nice ro) (hr : r ∈ ro) : 0 < (capOf ro (endOf r)).1 := by
  have hb := hn.b r hr
  have he := end_red (hn.a r hr) hb (hn.c r hr)
  have hx := he.q0
  have hin : r ∈ lasts ro (endOf r) := mem_lasts.mpr ⟨hr, leQ_refl _⟩
  have hpb : PosB ((lasts ro (endOf r)).map pr) := (hn.sub (lasts_sub ro _)).pos.pb
  have hF : F (endOf r) [pr r] ≤ F (endOf r) ((lasts ro (endOf r)).map pr) := F_sub (by
    have := List.singleton_sublist.mpr (List.mem_map_of_mem (f := pr) hin)
    exact this) hpb
  have h1 : 0 < F (endOf r) [pr r] := by
    rw [F_cons, F_nil, Int.add_zero]
    have hlow := low_eq (t := r.a * r.b + r.c) hb
    have : r.a * (endOf r).2 < (endOf r).1 := by
      have h2 : (r.a * r.b + r.c) * (endOf r).2 = (endOf r).1 * r.b := hlow
      have hc := hn.c r hr
      have h3 : 0 < r.c * (endOf r).2 := Int.mul_pos hc hx
      have h4 : r.a * (endOf r).2 * r.b < (endOf r).1 * r.b := by rw [← h2]; grind
      exact Int.lt_of_mul_lt_mul_right h4 (Int.le_of_lt hb)
    show 0 < r.b * max 0 ((endOf r).1 - r.a * (endOf r).2)
    exact Int.mul_pos hb (by omega)
  show 0 < (low (F (endOf r) ((lasts ro (endOf r)).map pr)) (endOf r).2).1
  have hr2 := low_red (t := F (endOf r) ((lasts ro (endOf r)).map pr)) (by omega) hx
  have e := low_eq (t := F (endOf r) ((lasts ro (endOf r)).map pr)) hx
  rcases Int.lt_or_eq_of_le hr2.p0 with h | h
  · exact h
  · rw [← h, Int.zero_mul] at e
    have := Int.mul_pos (show 0 < F (endOf r) ((lasts ro (endOf r)).map pr) by omega) hr2.q0
    omega
theorem top_pos {ro : List Rope} (hB : Bun ro) : 0 < (topOf ro).1 := by
  have hn := hB.nice
  obtain ⟨r, hr⟩ := List.exists_mem_of_ne_nil ro hB.ne
  have h1 := cap_pos hn hr
  have h2 : leQ (capOf ro (endOf r)) (topOf ro) := best_le (top_reds hn) (List.mem_map.mpr ⟨r, hr, rfl⟩)
  have h3 := (cap_red hn (end_red (hn.a r hr) (hn.b r hr) (hn.c r hr))).q0
  have rt : Red (topOf ro) := best_red (top_reds hn)
  unfold leQ at h2
  have h4 := Int.mul_pos h1 rt.q0
  rcases Int.lt_or_eq_of_le rt.p0 with h | h
  · exact h
  · rw [← h, Int.zero_mul] at h2; omega
theorem final_top {ro : List Rope} {e : Q} (hB : Bun ro) (h : Deep ro e) : finalOf ro (topOf ro) = lasts ro e := by
  have hn := hB.nice
  have rt : Red (topOf ro) := best_red (top_reds hn)
  have hen : ∀ {s}, s ∈ ro → Red (endOf s) := fun {s} hs => end_red (hn.a s hs) (hn.b s hs) (hn.c s hs)
  obtain ⟨s0, hs0, rfl⟩ := List.mem_map.mp h.mem
  have hmem : ∀ r ∈ ro, r ∈ finalOf ro (topOf ro) ↔ r ∈ lasts ro (endOf s0) := fun r hr => by
    constructor
    · intro hf
      obtain ⟨s, hs, h1, h2⟩ := whole_only hn rt (top_pos hB) hf
      refine mem_lasts.mpr ⟨hr, ?_⟩
      rcases Classical.em (leQ (endOf s0) (endOf s)) with k | k
      · exact leQ_trans (hen hs0).q0 (hen hs).q0 (hen hr).q0 k h1
      · have := h.first (endOf s) (List.mem_map_of_mem hs) (lt_not.mpr k)
        exact absurd h2 (lt_not.mp this)
    · intro hl
      exact whole_if hn (hen hs0) rt hr (mem_lasts.mp hl).2 (by rw [h.cap]; exact leQ_refl _)
  exact filter_ext hmem
theorem sunk_top {ro : List Rope} {e : Q} (hB : Bun ro) (h : Deep ro e) : sunkOf (finalOf ro (topOf ro)) (topOf ro).1 (topOf ro).2 = some e := by
  have hn := hB.nice
  have rt : Red (topOf ro) := best_red (top_reds hn)
  rw [final_top hB h]
  obtain ⟨s0, hs0, rfl⟩ := List.mem_map.mp h.mem
  have hen := end_red (hn.a s0 hs0) (hn.b s0 hs0) (hn.c s0 hs0)
  have hns := hn.sub (lasts_sub ro (endOf s0))
  have hne : lasts ro (endOf s0) ≠ [] := fun e => by
    have : s0 ∈ lasts ro (endOf s0) := mem_lasts.mpr ⟨hs0, leQ_refl _⟩
    rw [e] at this; cases this
  obtain ⟨q, hq, hs⟩ := sunk_sol hne hns.pos (top_pos hB) rt.q0
  rw [hq]
  refine congrArg some (sol_unique hns.pos.pb (top_pos hB) rt.q0 hs ⟨hen, ?_⟩)
  have hc := h.cap
  have hl := low_eq (t := F (endOf s0) ((lasts ro (endOf s0)).map pr)) hen.q0
  rw [show low (F (endOf s0) ((lasts ro (endOf s0)).map pr)) (endOf s0).2 = topOf ro from hc] at hl
  exact hl
theorem near_more {q : Q} (h : Red q) : ¬ leQ (near q) q := lt_not.mp (plus_lt h ⟨by decide, by decide, by decide⟩ (by decide))
theorem part_le {q : Q} {t : Int} (hq : Red q) (h0 : 0 ≤ t) (h1 : t ≤ 100) : leQ (low (q.1 * t) (q.2 * 100)) q := by
  rw [low_leq (Int.mul_nonneg hq.p0 h0) (by have := hq.q0; omega) hq.q0]
  have : q.1 * t ≤ q.1 * 100 := Int.mul_le_mul_of_nonneg_left h1 hq.p0
  have := Int.mul_le_mul_of_nonneg_right this (Int.le_of_lt hq.q0)
  grind
end K2

namespace K2
open PySem L2 Sd Ma
local macro_rules | `(tactic| walk_at "d1") => `(tactic| first
  | ((with_reducible refine' dE_var ?dv ?_); (case dv => rfl))
  | with_reducible refine' dE_int ?_
  | with_reducible refine' dE_str ?_
  | with_reducible refine' dE_bl ?_
  | with_reducible refine' dE_non ?_
  | ((with_reducible refine' dE_nt ?dv ?_); (case dv => assumption))
  | with_reducible refine' dE_ref ?_
  | with_reducible refine' dE_op ?_
  | with_reducible refine' dE_un ?_
  | with_reducible refine' dE_cmp ?_
  | with_reducible refine' dE_isN ?_
  | with_reducible refine' dE_notN ?_
  | with_reducible refine' dE_call ?_
  | with_reducible refine' dE_cb ?_
  | with_reducible refine' dE_kw ?_
  | with_reducible refine' dE_tup ?_
  | with_reducible refine' dE_if ?_
  | with_reducible refine' dE_and ?_
  | with_reducible refine' dE_or ?_
  | with_reducible refine' dE_not ?_
  | with_reducible refine' dE_sl ?_
  | with_reducible refine' dO_none ?_
  | with_reducible refine' dO_some ?_
  | with_reducible refine' dA_cons ?_
  | with_reducible refine' dA_nil ?_
  | with_reducible refine' dT_B ?_
  | with_reducible refine' dT_test ?_
  | with_reducible refine' dT_and ?_
  | with_reducible refine' dT_or ?_
  | with_reducible refine' dT_not ?_
  | with_reducible refine' dT_yes ?_
  | with_reducible refine' dR_I0i ?_
  | with_reducible refine' dU_neg ?_
  | ((with_reducible refine' dR_ixT ?dv ?_); (case dv => rfl))
  | with_reducible refine' dS_seq ?_
  | with_reducible refine' dS_next ?_
  | with_reducible refine' dS_ret ?_
  | with_reducible refine' dS_drop ?_
  | with_reducible refine' dS_if ?_
  | with_reducible refine' dS_asg ?_
  | with_reducible refine' dS_par ?_
  | with_reducible refine' dG_name ?_
  | ((with_reducible refine' dG_tup ?dv ?_); (case dv => rfl); (dsimp only [List.map]))
  | with_reducible refine' dGs_cons ?_
  | with_reducible refine' dGs_nil ?_
  | with_reducible refine' dC_abs ?_
  | with_reducible refine' dC_max2 ?_
  | with_reducible refine' dC_min2 ?_
  | with_reducible refine' rtOf.of ?_
  | with_reducible refine' ex_cmp ?_
  | with_reducible refine' ex_bool ?_
  | with_reducible refine' ex_int ?_
  | with_reducible refine' ex_list ?_
  | with_reducible refine' ex_tup ?_
  | with_reducible refine' ex_d ?_
  | with_reducible refine' ex_m ?_
  | with_reducible refine' ex_par ?_
  | with_reducible refine' ex_rg1 ?_
  | with_reducible refine' ex_rg2 ?_
  | ((with_reducible refine' ex_dat ?dv ?dw ?_); (case dv => rfl); (case dw => exact Nat.le_of_ble_eq_true rfl))
  | ((fail_if_success (with_reducible show ∃ _, _)); (fail_if_success (with_reducible show _ ∧ _)); refine ⟨_, _, rfl, ?_⟩)
  | ((fail_if_success (with_reducible show ∃ _, _)); (fail_if_success (with_reducible show _ ∧ _)); refine ⟨_, rfl, ?_⟩)
  | fail)
local macro_rules | `(tactic| walk_at "d") => `(tactic| repeat' walk_at "d1")
local macro_rules | `(tactic| walk_at "e1") => `(tactic| first
  | ((with_reducible refine' dE_var ?dv ?_); (case dv => rfl))
  | with_reducible refine' dE_int ?_
  | with_reducible refine' dE_str ?_
  | with_reducible refine' dE_bl ?_
  | with_reducible refine' dE_non ?_
  | ((with_reducible refine' dE_nt ?dv ?_); (case dv => assumption))
  | with_reducible refine' dE_ref ?_
  | with_reducible refine' dE_op ?_
  | with_reducible refine' dE_un ?_
  | with_reducible refine' dE_cmp ?_
  | with_reducible refine' dE_isN ?_
  | with_reducible refine' dE_notN ?_
  | with_reducible refine' dE_call ?_
  | with_reducible refine' dE_cb ?_
  | with_reducible refine' dE_kw ?_
  | with_reducible refine' dE_tup ?_
  | with_reducible refine' dE_if ?_
  | with_reducible refine' dE_and ?_
  | with_reducible refine' dE_or ?_
  | with_reducible refine' dE_not ?_
  | with_reducible refine' dE_sl ?_
  | with_reducible refine' dO_none ?_
  | with_reducible refine' dO_some ?_
  | with_reducible refine' dA_cons ?_
  | with_reducible refine' dA_nil ?_
  | with_reducible refine' dT_B ?_
  | with_reducible refine' dT_test ?_
  | with_reducible refine' dT_and ?_
  | with_reducible refine' dT_or ?_
  | with_reducible refine' dT_not ?_
  | with_reducible refine' dT_yes ?_
  | with_reducible refine' dR_I0i ?_
  | with_reducible refine' dU_neg ?_
  | ((with_reducible refine' dR_ixT ?dv ?_); (case dv => rfl))
  | with_reducible refine' dS_next ?_
  | with_reducible refine' dS_ret ?_
  | with_reducible refine' dS_drop ?_
  | with_reducible refine' dS_if ?_
  | with_reducible refine' dS_asg ?_
  | with_reducible refine' dS_par ?_
  | with_reducible refine' dG_name ?_
  | ((with_reducible refine' dG_tup ?dv ?_); (case dv => rfl); (dsimp only [List.map]))
  | with_reducible refine' dGs_cons ?_
  | with_reducible refine' dGs_nil ?_
  | with_reducible refine' dC_abs ?_
  | with_reducible refine' dC_max2 ?_
  | with_reducible refine' dC_min2 ?_
  | with_reducible refine' rtOf.of ?_
  | with_reducible refine' ex_cmp ?_
  | with_reducible refine' ex_bool ?_
  | with_reducible refine' ex_int ?_
  | with_reducible refine' ex_list ?_
  | with_reducible refine' ex_tup ?_
  | with_reducible refine' ex_d ?_
  | with_reducible refine' ex_m ?_
  | with_reducible refine' ex_par ?_
  | with_reducible refine' ex_rg1 ?_
  | with_reducible refine' ex_rg2 ?_
  | ((with_reducible refine' ex_dat ?dv ?dw ?_); (case dv => rfl); (case dw => exact Nat.le_of_ble_eq_true rfl))
  | ((fail_if_success (with_reducible show ∃ _, _)); (fail_if_success (with_reducible show _ ∧ _)); refine ⟨_, _, rfl, ?_⟩)
  | ((fail_if_success (with_reducible show ∃ _, _)); (fail_if_success (with_reducible show _ ∧ _)); refine ⟨_, rfl, ?_⟩)
  | fail)
local macro_rules | `(tactic| walk_at "e") => `(tactic| repeat' walk_at "e1")

theorem only_one : ∀ {ro : List Rope} {r : Rope}, (ro.map Rope.n).Nodup → r ∈ ro → ro.filter (fun s => s.n == r.n) = [r]
  | [], _, _, h => by cases h
  | x :: ro, r, nd, h => by
    rw [List.map_cons, List.nodup_cons] at nd
    have rest : ∀ (z : Rope), z.n ∉ ro.map Rope.n → ro.filter (fun s => s.n == z.n) = [] := fun z hz => List.filter_eq_nil_iff.mpr fun s hs e => hz (List.mem_map.mpr ⟨s, hs, eq_of_beq e⟩)
    rcases List.mem_cons.mp h with rfl | h
    · rw [List.filter_cons, if_pos (beq_self_eq_true _), rest r nd.1]
    · have ne : ¬ (x.n == r.n) = true := fun e => nd.1 (List.mem_map.mpr ⟨r, h, (eq_of_beq e).symm⟩)
      rw [List.filter_cons, if_neg ne]
      exact only_one nd.2 h
def guardOf (ro : List Rope) (r s : Rope) : Bool := !(r.n == s.n) && gtQ (tillOf ro s) (tillOf (leftOf ro [r.n]) s)
section
variable {P : Program} {w : World} {K : PySem.W.Frag} {mg : Str → Option Value} {base : Heap} {f : Addr} {fd : FuncData}
theorem Shp.lay {x : Str} (h : PyData.canLay0 (.str x) = true) : SeqAt.shaped (.str x) = true := by
  unfold SeqAt.shaped
  rw [h]
  rfl
def S_called : SpD := fun rs M P => ∃ (ro : List Rope) (r : Rope), rs = [.d (bd ro), .d (.str r.n)] ∧ Bun ro ∧ r ∈ ro ∧ P (.d r.d) M
abbrev s_rope_called : Stmt := topS 44
theorem sc_rope_called : FnScope ["bundle", "name", "rope"] ["bundle", "name"] (defScope s_rope_called) := ⟨rfl, rfl, rfl, by decide +kernel, rfl, by decide +kernel, by decide +kernel⟩
theorem ok_rope_called (F0 : Fun K "rope_called" "rope_called" s_rope_called f fd) : FnOk P w K mg base CX0 2 f fd ["bundle", "name"] (spOf K S_called) := by
  refine ok_of F0 sc_rope_called (fun rs M P h => by obtain ⟨a, b, rfl, _⟩ := h; rfl) fun cdv A outer s H E hr => ⟨_, (pss_one (ps_ret (pe_ix (kix_list K) (pe_lc (own := [("rope", 2)]) (by rfl) sc_rope_called.nd (kpi_tup K (pv 0)) (blkOk_by (N := ["bundle", "name", "rope"]) (sc := defScope s_rope_called) (own := [("rope", 2)]) (by decide +kernel)) (fun _ _ _ _ _ => (pg_name (i := 2) sc_rope_called.nd rfl (Or.inl rfl))) (fun _ _ _ _ _ => (pts_one (pt_cmpR (kop_eqD K hr.units) (pe_ix (kix_tup K) (pv 2) pe_int (fun _ _ => rfl)) (pv 1) (nomark _)))) (fun _ _ _ _ _ => (pv 2))) pe_int (fun _ _ => rfl)))), fun rs M P h => ?_⟩
  obtain ⟨ro, r, rfl, hB, hr1, p⟩ := h
  walk_at "d"
  refine dE_lcTf (enc := Rope.d) (out := Rope.d) (pt := fun s => s.n == r.n) (xs := ro) ?_
  walk_at "d"
  refine ⟨rfl, rfl, by have := hB.len; omega, fun s hs => ?_, fun s hs h => ?_, .inl ?_⟩
  · walk_at "d"
    refine dR_eq (d := .str s.n) (e := .str r.n) .of .of (Shp.lay (bun_lay hB s hs)) (Shp.lay (bun_lay hB r hr1)) ?_
    walk_at "d"
    exact ⟨rfl, rfl⟩
  · walk_at "d"
    exact ⟨rfl, rfl⟩
  · rw [only_one hB.nice.nd hr1]
    walk_at "d"
    refine dR_ixL (.inl rfl) atI_zero ?_
    exact rtOf.of p
def S_whole : SpD := fun rs M P => ∃ (ro : List Rope) (ns : List Str) (r : Rope), rs = [.d (bd ro), .d (nm ns), .d (.str r.n)] ∧ Bun ro ∧ r ∈ ro ∧ P (.d (fr (tillOf (leftOf ro ns) r))) M
abbrev s_whole_till : Stmt := topS 41
theorem sc_whole_till : FnScope ["bundle", "broken", "name"] ["bundle", "broken", "name"] (defScope s_whole_till) := ⟨rfl, rfl, rfl, by decide +kernel, rfl, by decide +kernel, by decide +kernel⟩
theorem ok_whole_till (F0 : Fun K "whole_till" "whole_till" s_whole_till f fd) (c_ropes_left : Has P w K mg base 1 "ropes_left" ["bundle", "broken"] S_left) (c_rope_called : Has P w K mg base 2 "rope_called" ["bundle", "name"] S_called) (c_lasting_till : Has P w K mg base 6 "lasting_till" ["left", "rope"] S_tillL) : FnOk P w K mg base CX0 7 f fd ["bundle", "broken", "name"] (spOf K S_whole) := by
  refine ok_of F0 sc_whole_till (fun rs M P h => by obtain ⟨a, b, c, rfl, _⟩ := h; rfl) fun cdv A outer s H E hr => ⟨_, (pss_one (ps_ret (pe_callH' c_lasting_till (hr.mono (by first | decide | omega)) rfl (pa_cons (pe_callH' c_ropes_left (hr.mono (by first | decide | omega)) rfl (pa_cons (pv 0) (pa_cons (pv 1) pa_nil))) (pa_cons (pe_callH' c_rope_called (hr.mono (by first | decide | omega)) rfl (pa_cons (pv 0) (pa_cons (pv 2) pa_nil))) pa_nil))))), fun rs M P h => ?_⟩
  obtain ⟨ro, ns, r, rfl, hB, hr1, p⟩ := h
  have hl := hB.len
  walk_at "d"
  refine ⟨by omega, ?_⟩
  walk_at "d"
  refine ⟨hB, hr1, ?_⟩
  walk_at "d"
  exact ⟨Nat.le_trans (List.length_filter_le _ _) (by omega), fun z hz => hB.fine z (List.mem_filter.mp hz).1, hB.nice.sub (left_sub _ _), hB.fine r hr1, rtOf.of p⟩
def S_guard : SpD := fun rs M P => ∃ (ro : List Rope) (r s : Rope), rs = [.d (bd ro), .d (.str r.n), .d (.str s.n)] ∧ Bun ro ∧ r ∈ ro ∧ s ∈ ro ∧ P (.d (.bool (guardOf ro r s))) M
theorem till_mkL {ro : List Rope} {r : Rope} (hB : Bun ro) (ns : List Str) : Mk (tillOf (leftOf ro ns) r) :=
  till_mk (Nat.le_trans (List.length_filter_le _ _) (by have := hB.len; omega)) (fun z hz => hB.fine z (List.mem_filter.mp hz).1) (hB.nice.sub (left_sub _ _))
abbrev s_is_guard : Stmt := topS 45
theorem sc_is_guard : FnScope ["bundle", "one", "other"] ["bundle", "one", "other"] (defScope s_is_guard) := ⟨rfl, rfl, rfl, by decide +kernel, rfl, by decide +kernel, by decide +kernel⟩
theorem ok_is_guard (F0 : Fun K "is_guard" "is_guard" s_is_guard f fd) (c_is_more : Has P w K mg base 1 "is_more" ["one", "other"] S_more) (c_whole_till : Has P w K mg base 7 "whole_till" ["bundle", "broken", "name"] S_whole) : FnOk P w K mg base CX0 8 f fd ["bundle", "one", "other"] (spOf K S_guard) := by
  refine ok_of F0 sc_is_guard (fun rs M P h => by obtain ⟨a, b, c, rfl, _⟩ := h; rfl) fun cdv A outer s H E hr => ⟨_, (pss_cons (ps_if (pt_cmpR (kop_eqD K hr.units) (pv 1) (pv 2) (nomark _)) (pss_one (ps_ret pe_bl)) pss_nil)
      (pss_one (ps_ret (pe_callH' c_is_more (hr.mono (by first | decide | omega)) rfl (pa_cons (pe_callH' c_whole_till (hr.mono (by first | decide | omega)) rfl (pa_cons (pv 0) (pa_cons (pe_tup pa_nil) (pa_cons (pv 2) pa_nil)))) (pa_cons (pe_callH' c_whole_till (hr.mono (by first | decide | omega)) rfl (pa_cons (pv 0) (pa_cons (pe_tup (pa_cons (pv 1) pa_nil)) (pa_cons (pv 2) pa_nil)))) pa_nil)))))), fun rs M P h => ?_⟩
  obtain ⟨ro, r, t, rfl, hB, hr1, hs1, p⟩ := h
  walk_at "d"
  refine dR_eq (d := .str r.n) (e := .str t.n) .of .of (Shp.lay (bun_lay hB r hr1)) (Shp.lay (bun_lay hB t hs1)) ?_
  walk_at "d"
  refine ifB (fun h => ?_) (fun h => ?_)
  · have h' : (r.n == t.n) = true := h
    walk_at "d"
    unfold guardOf at p
    rw [h'] at p
    exact p
  · have h' : (r.n == t.n) = false := h
    unfold guardOf at p
    rw [h'] at p
    walk_at "d"
    refine ⟨ro, [], t, rfl, hB, hs1, ?_⟩
    walk_at "d"
    refine ⟨ro, [r.n], t, rfl, hB, hs1, ?_⟩
    walk_at "d"
    refine ⟨(till_mkL hB []).fr3, (till_mkL hB [r.n]).fr3, ?_⟩
    rw [left_nil]
    exact rtOf.of p
def S_guards : SpD := fun rs M P => ∃ (ro : List Rope), rs = [.d (bd ro)] ∧ Bun ro ∧ P (.d (.list (ro.flatMap fun r => (ro.filter (guardOf ro r)).map fun s => .tuple [.str r.n, .str s.n]))) M
abbrev s_guards : Stmt := topS 42
theorem sc_guards : FnScope ["bundle", "names", "rope", "one", "other"] ["bundle"] (defScope s_guards) := ⟨rfl, rfl, rfl, by decide +kernel, rfl, by decide +kernel, by decide +kernel⟩
theorem ok_guards (F0 : Fun K "guards" "guards" s_guards f fd) (c_is_guard : Has P w K mg base 8 "is_guard" ["bundle", "one", "other"] S_guard) : FnOk P w K mg base CX0 9 f fd ["bundle"] (spOf K S_guards) := by
  refine ok_of F0 sc_guards (fun rs M P h => by obtain ⟨a, rfl, _⟩ := h; rfl) fun cdv A outer s H E hr => ⟨_, (pss_cons (ps_set (i := 1) sc_guards.nd rfl (Or.inr rfl) (pe_lc (own := [("rope", 2)]) (by rfl) sc_guards.nd (kpi_tup K (pv 0)) (blkOk_by (N := ["bundle", "names", "rope", "one", "other"]) (sc := defScope s_guards) (own := [("rope", 2)]) (by decide +kernel)) (fun _ _ _ _ _ => (pg_name (i := 2) sc_guards.nd rfl (Or.inl rfl))) (fun _ _ _ _ _ => pts_nil) (fun _ _ _ _ _ => (pe_ix (kix_tup K) (pv 2) pe_int (fun _ _ => rfl)))))
      (pss_one (ps_ret (pe_lc2 (own := [("one", 3), ("other", 4)]) (vs1 := [4]) (by rfl) sc_guards.nd (kpi_list K (pv 1)) (blkOk_by (N := ["bundle", "names", "rope", "one", "other"]) (sc := defScope s_guards) (own := [("one", 3), ("other", 4)]) (by decide +kernel)) (by decide) (fun _ _ _ _ _ => (pg_name (i := 3) sc_guards.nd rfl (Or.inl rfl))) (fun _ _ _ _ _ => pts_nil) (fun _ _ _ _ _ => (kpi_list K (pv 1))) (fun _ _ _ _ _ => (pg_name (i := 4) sc_guards.nd rfl (Or.inl rfl))) (fun _ _ _ _ _ => (pts_one (pt_val (pe_callH' c_is_guard (hr.mono (by first | decide | omega)) rfl (pa_cons (pv 0) (pa_cons (pv 3) (pa_cons (pv 4) pa_nil))))))) (fun _ _ _ _ _ => (pe_tup (pa_cons (pv 3) (pa_cons (pv 4) pa_nil)))))))), fun rs M P h => ?_⟩
  obtain ⟨ro, rfl, hB, p⟩ := h
  have hl := hB.len
  walk_at "d"
  refine dE_lcTm (enc := Rope.d) (out := fun r => .str r.n) (xs := ro) ?_
  walk_at "d"
  refine ⟨rfl, rfl, by omega, fun r hr => ?_, .inl ?_⟩
  · walk_at "d"
    exact ⟨rfl, rfl⟩
  · walk_at "d"
    refine dE_lc2 (e1 := fun r : Rope => .str r.n) (e2 := fun r : Rope => .str r.n) (out := fun r s => .tuple [.str r.n, .str s.n]) (pt := guardOf ro) (xs := ro) (ys := ro) (by decide) (by decide) (by decide) rfl (by omega) ?_
    walk_at "d"
    refine ⟨rfl, rfl, by omega, fun r hr s hs => ?_, fun r hr s hs h => ?_, .inl (rtOf.of p)⟩
    · walk_at "d"
      refine ⟨ro, r, s, rfl, hB, hr, hs, ?_⟩
      walk_at "d"
      exact ⟨rfl, rfl⟩
    · walk_at "d"
      exact ⟨rfl, rfl⟩
end
end K2

namespace K2
open PySem L2 Sd Ma
local macro_rules | `(tactic| walk_at "d1") => `(tactic| first
  | ((with_reducible refine' dE_var ?dv ?_); (case dv => rfl))
  | with_reducible refine' dE_int ?_
  | with_reducible refine' dE_str ?_
  | with_reducible refine' dE_bl ?_
  | with_reducible refine' dE_non ?_
  | ((with_reducible refine' dE_nt ?dv ?_); (case dv => assumption))
  | with_reducible refine' dE_ref ?_
  | with_reducible refine' dE_op ?_
  | with_reducible refine' dE_un ?_
  | with_reducible refine' dE_cmp ?_
  | with_reducible refine' dE_isN ?_
  | with_reducible refine' dE_notN ?_
  | with_reducible refine' dE_call ?_
  | with_reducible refine' dE_cb ?_
  | with_reducible refine' dE_kw ?_
  | with_reducible refine' dE_tup ?_
  | with_reducible refine' dE_if ?_
  | with_reducible refine' dE_and ?_
  | with_reducible refine' dE_or ?_
  | with_reducible refine' dE_not ?_
  | with_reducible refine' dE_sl ?_
  | with_reducible refine' dO_none ?_
  | with_reducible refine' dO_some ?_
  | with_reducible refine' dA_cons ?_
  | with_reducible refine' dA_nil ?_
  | with_reducible refine' dT_B ?_
  | with_reducible refine' dT_test ?_
  | with_reducible refine' dT_and ?_
  | with_reducible refine' dT_or ?_
  | with_reducible refine' dT_not ?_
  | with_reducible refine' dT_yes ?_
  | with_reducible refine' dR_I0i ?_
  | with_reducible refine' dU_neg ?_
  | ((with_reducible refine' dR_ixT ?dv ?_); (case dv => rfl))
  | with_reducible refine' dS_seq ?_
  | with_reducible refine' dS_next ?_
  | with_reducible refine' dS_ret ?_
  | with_reducible refine' dS_drop ?_
  | with_reducible refine' dS_if ?_
  | with_reducible refine' dS_asg ?_
  | with_reducible refine' dS_par ?_
  | with_reducible refine' dG_name ?_
  | ((with_reducible refine' dG_tup ?dv ?_); (case dv => rfl); (dsimp only [List.map]))
  | with_reducible refine' dGs_cons ?_
  | with_reducible refine' dGs_nil ?_
  | with_reducible refine' dC_abs ?_
  | with_reducible refine' dC_max2 ?_
  | with_reducible refine' dC_min2 ?_
  | with_reducible refine' rtOf.of ?_
  | with_reducible refine' ex_cmp ?_
  | with_reducible refine' ex_bool ?_
  | with_reducible refine' ex_int ?_
  | with_reducible refine' ex_list ?_
  | with_reducible refine' ex_tup ?_
  | with_reducible refine' ex_d ?_
  | with_reducible refine' ex_m ?_
  | with_reducible refine' ex_par ?_
  | with_reducible refine' ex_rg1 ?_
  | with_reducible refine' ex_rg2 ?_
  | ((with_reducible refine' ex_dat ?dv ?dw ?_); (case dv => rfl); (case dw => exact Nat.le_of_ble_eq_true rfl))
  | ((fail_if_success (with_reducible show ∃ _, _)); (fail_if_success (with_reducible show _ ∧ _)); refine ⟨_, _, rfl, ?_⟩)
  | ((fail_if_success (with_reducible show ∃ _, _)); (fail_if_success (with_reducible show _ ∧ _)); refine ⟨_, rfl, ?_⟩)
  | fail)
local macro_rules | `(tactic| walk_at "d") => `(tactic| repeat' walk_at "d1")
local macro_rules | `(tactic| walk_at "e1") => `(tactic| first
  | ((with_reducible refine' dE_var ?dv ?_); (case dv => rfl))
  | with_reducible refine' dE_int ?_
  | with_reducible refine' dE_str ?_
  | with_reducible refine' dE_bl ?_
  | with_reducible refine' dE_non ?_
  | ((with_reducible refine' dE_nt ?dv ?_); (case dv => assumption))
  | with_reducible refine' dE_ref ?_
  | with_reducible refine' dE_op ?_
  | with_reducible refine' dE_un ?_
  | with_reducible refine' dE_cmp ?_
  | with_reducible refine' dE_isN ?_
  | with_reducible refine' dE_notN ?_
  | with_reducible refine' dE_call ?_
  | with_reducible refine' dE_cb ?_
  | with_reducible refine' dE_kw ?_
  | with_reducible refine' dE_tup ?_
  | with_reducible refine' dE_if ?_
  | with_reducible refine' dE_and ?_
  | with_reducible refine' dE_or ?_
  | with_reducible refine' dE_not ?_
  | with_reducible refine' dE_sl ?_
  | with_reducible refine' dO_none ?_
  | with_reducible refine' dO_some ?_
  | with_reducible refine' dA_cons ?_
  | with_reducible refine' dA_nil ?_
  | with_reducible refine' dT_B ?_
  | with_reducible refine' dT_test ?_
  | with_reducible refine' dT_and ?_
  | with_reducible refine' dT_or ?_
  | with_reducible refine' dT_not ?_
  | with_reducible refine' dT_yes ?_
  | with_reducible refine' dR_I0i ?_
  | with_reducible refine' dU_neg ?_
  | ((with_reducible refine' dR_ixT ?dv ?_); (case dv => rfl))
  | with_reducible refine' dS_next ?_
  | with_reducible refine' dS_ret ?_
  | with_reducible refine' dS_drop ?_
  | with_reducible refine' dS_if ?_
  | with_reducible refine' dS_asg ?_
  | with_reducible refine' dS_par ?_
  | with_reducible refine' dG_name ?_
  | ((with_reducible refine' dG_tup ?dv ?_); (case dv => rfl); (dsimp only [List.map]))
  | with_reducible refine' dGs_cons ?_
  | with_reducible refine' dGs_nil ?_
  | with_reducible refine' dC_abs ?_
  | with_reducible refine' dC_max2 ?_
  | with_reducible refine' dC_min2 ?_
  | with_reducible refine' rtOf.of ?_
  | with_reducible refine' ex_cmp ?_
  | with_reducible refine' ex_bool ?_
  | with_reducible refine' ex_int ?_
  | with_reducible refine' ex_list ?_
  | with_reducible refine' ex_tup ?_
  | with_reducible refine' ex_d ?_
  | with_reducible refine' ex_m ?_
  | with_reducible refine' ex_par ?_
  | with_reducible refine' ex_rg1 ?_
  | with_reducible refine' ex_rg2 ?_
  | ((with_reducible refine' ex_dat ?dv ?dw ?_); (case dv => rfl); (case dw => exact Nat.le_of_ble_eq_true rfl))
  | ((fail_if_success (with_reducible show ∃ _, _)); (fail_if_success (with_reducible show _ ∧ _)); refine ⟨_, _, rfl, ?_⟩)
  | ((fail_if_success (with_reducible show ∃ _, _)); (fail_if_success (with_reducible show _ ∧ _)); refine ⟨_, rfl, ?_⟩)
  | fail)
local macro_rules | `(tactic| walk_at "e") => `(tactic| repeat' walk_at "e1")

/-! ### all lots of so many -/
def lotsAt (f : List Str → List (List Str)) (ns : List Str) (i : Nat) : List (List Str) := match ns[i]? with
  | none => []
  | some x => (f (ns.drop (i + 1))).map (x :: ·)
def lots : Nat → List Str → List (List Str)
  | 0, _ => [[]]
  | k + 1, ns => (List.range ns.length).flatMap (lotsAt (lots k) ns)
theorem flat_len {f : Nat → List (List Str)} {c : Nat} : ∀ n : Nat, (∀ i, (f i).length ≤ c) → ((List.range n).flatMap f).length ≤ n * c
  | 0, _ => by simp
  | n + 1, h => by
    rw [List.range_succ, List.flatMap_append, List.length_append, Nat.succ_mul]
    have := flat_len n h
    have := h n
    rw [List.flatMap_cons, List.flatMap_nil, List.append_nil]
    omega
theorem lots_len : ∀ (k : Nat) (ns : List Str), ns.length ≤ 6 → (lots k ns).length ≤ 6 ^ k
  | 0, _, _ => Nat.le_refl _
  | k + 1, ns, h => by
    have := flat_len (f := lotsAt (lots k) ns) (c := 6 ^ k) ns.length fun i => by
      unfold lotsAt
      split
      · exact Nat.zero_le _
      · rw [List.length_map]
        exact lots_len k _ (by rw [List.length_drop]; omega)
    rw [Nat.pow_succ, Nat.mul_comm]
    exact Nat.le_trans this (Nat.mul_le_mul_right _ h)
theorem lots_mem : ∀ (k : Nat) (ns : List Str), ∀ l ∈ lots k ns, l.length = k ∧ ∀ x ∈ l, x ∈ ns
  | 0, ns, l, h => by
    rw [show lots 0 ns = [[]] from rfl, List.mem_singleton] at h
    subst h
    exact ⟨rfl, fun x hx => by cases hx⟩
  | k + 1, ns, l, h => by
    obtain ⟨i, hi, h⟩ := List.mem_flatMap.mp (show l ∈ (List.range ns.length).flatMap (lotsAt (lots k) ns) from h)
    unfold lotsAt at h
    split at h
    · cases h
    · rename_i x hx
      obtain ⟨m, hm, rfl⟩ := List.mem_map.mp h
      obtain ⟨h1, h2⟩ := lots_mem k _ m hm
      refine ⟨by rw [List.length_cons, h1], fun y hy => ?_⟩
      rcases List.mem_cons.mp hy with rfl | hy
      · exact List.mem_of_getElem? hx
      · exact List.mem_of_mem_drop (h2 y hy)
/-- a bundle, some given twice their strength -/
def dbl (lot : List Str) (r : Rope) : Rope := if lot.contains r.n = true then ⟨r.n, r.a, r.b, 2 * r.c⟩ else r
theorem dbl_ok {lot : List Str} {r : Rope} (h : r.Fine) : (dbl lot r).Ok := by
  have ho := fine_ok h
  unfold dbl
  split
  · exact ⟨ho.a0, ho.aS, ho.b0, ho.bS, by show 0 < 2 * r.c; have := ho.c0; omega, (sz_lt (n := 30) (by show 0 ≤ 2 * r.c; have := ho.c0; omega) (by show 2 * r.c < _; have := h.c1; omega)).up (by decide)⟩
  · exact ho
theorem dbl_bw {ro : List Rope} (hB : Bun ro) (lot : List Str) : Bw (ro.map (dbl lot)) := by
  refine ⟨⟨by rw [List.length_map]; exact hB.ok.len, fun r hr => ?_⟩, fun r hr => ?_⟩
  · obtain ⟨z, hz, rfl⟩ := List.mem_map.mp hr
    exact dbl_ok (hB.fine z hz)
  · obtain ⟨z, hz, rfl⟩ := List.mem_map.mp hr
    have : (dbl lot z).n = z.n := by unfold dbl; split <;> rfl
    rw [this]
    exact bun_lay hB z hz
theorem datAll_d : ∀ ds : List PyData, datAll (ds.map SV.d) = some ds
  | [] => rfl
  | d :: ds => by
    show (datAll (ds.map SV.d)).map (d :: ·) = _
    rw [datAll_d ds]
    rfl
theorem cut_from {ds : List PyData} {i : Nat} (h : i < ds.length) : cutD ds (some ((i : Int) + 1)) none = ds.drop (i + 1) := by
  unfold cutD
  rw [show ((i : Int) + 1) = ((i + 1 : Nat) : Int) by omega, HT.sIx_nat, HT.sIx_none, Nat.min_eq_left (by omega), List.take_of_length_le (by rw [List.length_drop]; omega)]
theorem lots_next {k : Nat} {ns : List Str} {i : Nat} {x : Str} (h : ns[i]? = some x) : (List.range (i + 1)).flatMap (lotsAt (lots k) ns) = (List.range i).flatMap (lotsAt (lots k) ns) ++ (lots k (ns.drop (i + 1))).map (x :: ·) := by
  rw [List.range_succ, List.flatMap_append, List.flatMap_cons, List.flatMap_nil, List.append_nil]
  unfold lotsAt
  rw [h]
theorem lots_part {k : Nat} {ns : List Str} (i : Nat) (h : ns.length ≤ 6) (hk : k ≤ 5) (hi : i ≤ 6) : ((List.range i).flatMap (lotsAt (lots k) ns)).length ≤ 46656 := by
  have := flat_len (f := lotsAt (lots k) ns) (c := 6 ^ 5) i fun j => by
    unfold lotsAt
    split
    · exact Nat.zero_le _
    · rw [List.length_map]
      exact Nat.le_trans (lots_len k _ (by rw [List.length_drop]; omega)) (Nat.pow_le_pow_right (by decide) hk)
  have h2 : i * 6 ^ 5 ≤ 6 * 6 ^ 5 := Nat.mul_le_mul_right _ hi
  exact Nat.le_trans this (Nat.le_trans h2 (by decide))
section
variable {P : Program} {w : World} {K : PySem.W.Frag} {mg : Str → Option Value} {base : Heap} {f : Addr} {fd : FuncData}
theorem ok_never {k : Nat} {ps : List Str} : FnOk P w K mg base CX0 k f fd ps (spOf K fun _ _ _ => False) :=
  ⟨fun vs H Q E h => (let ⟨_, _, _, _, _, _, z, _⟩ := h; z.elim), fun A outer s H args us vs Q E hr he hb hv h => (let ⟨_, _, _, _, _, _, z, _⟩ := h; z.elim)⟩
def S_lots (m : Nat) : SpD := fun rs M P => ∃ (ns : List Str) (k : Nat), rs = [.d (.list (ns.map .str)), .d (.int k)] ∧ ns.length ≤ 6 ∧ k < m ∧ k ≤ 6 ∧ P (.d (.list ((lots k ns).map nm))) M
theorem ok_lots0 {k : Nat} {ps : List Str} : FnOk P w K mg base CX0 k f fd ps (spOf K (S_lots 0)) :=
  ok_never.imp fun vs H Q E h => by
    obtain ⟨rs, H', M, P, a, b, ⟨_, _, _, _, z, _⟩, d⟩ := h
    exact absurd z (Nat.not_lt_zero _)
abbrev s_choices : Stmt := topS 46
theorem sc_choices : FnScope ["names", "many", "told", "at", "name", "more"] ["names", "many"] (defScope s_choices) := ⟨rfl, rfl, rfl, by decide +kernel, rfl, by decide +kernel, by decide +kernel⟩
theorem ok_choices {n : Nat} (T : Txt mg) (F : Fun K "choices" "choices" s_choices f fd) (c_choices : Has P w K mg base n "choices" ["names", "many"] (S_lots n)) : FnOk P w K mg base CX0 (n + 1) f fd ["names", "many"] (spOf K (S_lots (n + 1))) := by
  refine ok_of F sc_choices (fun rs M P h => by obtain ⟨a, b, rfl, _⟩ := h; rfl) fun cdv A outer s H E hr => ⟨_, (pss_cons (ps_if (pt_cmp (pc_eqI (pv 1) pe_int)) (pss_one (ps_ret (pe_lst (pa_cons (pe_tup pa_nil) pa_nil)))) pss_nil)
      (pss_cons (ps_set (i := 2) sc_choices.nd rfl (Or.inl rfl) (pe_lst pa_nil))
      (pss_cons (ps_for PassesOwn.never rfl (kpi_enum K (by rfl) T.enumerate (pa_cons (pv 0) pa_nil)) (kpg_tup K (n := 2) rfl (pgs_cons (pg_name (i := 3) sc_choices.nd rfl (Or.inl rfl)) (pgs_cons (pg_name (i := 4) sc_choices.nd rfl (Or.inr rfl)) pgs_nil))) (pss_one (ps_expr (kpe_bm K (pe_bm PySem.F.plainAttrs_list PySem.F.slot_list_extend PySem.F.type_list_extend mt_extend (pv 2) (pa_cons (pe_lc (own := [("more", 5)]) (by rfl) sc_choices.nd (kpi_list K (pe_callH' c_choices (hr.mono (by first | decide | omega)) rfl (pa_cons (pe_slice (ksl_list K) (pv 0) (po_some (pe_op op_add (pv 3) pe_int)) po_none) (pa_cons (pe_op op_sub (pv 1) pe_int) pa_nil)))) (blkOk_by (N := ["names", "many", "told", "at", "name", "more"]) (sc := defScope s_choices) (own := [("more", 5)]) (by decide +kernel)) (fun _ _ _ _ _ => (pg_name (i := 5) sc_choices.nd rfl (Or.inl rfl))) (fun _ _ _ _ _ => pts_nil) (fun _ _ _ _ _ => (pe_tup (pa_cons (pv 4) (kpa_star K (pv 5) pa_nil))))) pa_nil))))))
      (pss_one (ps_ret (pv 2)))))), fun rs M P h => ?_⟩
  obtain ⟨ns, k, rfl, hl, hk, hk6, p⟩ := h
  walk_at "d"
  refine ifB (fun h => ?_) (fun h => ?_)
  · have h0 : k = 0 := by have := of_decide_eq_true h; omega
    subst h0
    walk_at "d"
    refine dE_lst ?_
    walk_at "d"
    exact p
  obtain ⟨k', rfl⟩ : ∃ k', k = k' + 1 := ⟨k - 1, by have := of_decide_eq_false h; omega⟩
  walk_at "d"
  refine dE_lstM ?_
  walk_at "d"
  intro a ha
  walk_at "e"
  refine dS_seq ?_
  refine dS_forE ?_
  walk_at "d"
  refine ⟨_, rfl, fun i δ M' => ∃ (x3 x4 x5 : Option SV), δ = [some (.d (.list (ns.map .str))), some (.d (.int ((k' + 1 : Nat) : Int))), some (.m a), x3, x4, x5] ∧ M' = mset M a (((List.range i).flatMap (lotsAt (lots k') ns)).map nm), ⟨_, _, _, rfl, rfl⟩, fun i x δ M' hx hI => ?_, fun δ M' hI => ?_⟩
  · obtain ⟨x3, x4, x5, rfl, rfl⟩ := hI
    obtain ⟨y, hy1, rfl⟩ := getElem?_map_some hx
    have hi : i < ns.length := (List.getElem?_eq_some_iff.mp hy1).1
    walk_at "d"
    refine dE_ext ?_
    walk_at "d"
    refine ⟨⟨_, mset_same⟩, ?_⟩
    refine dE_lcL (gw_name 5) ?_
    walk_at "d"
    refine dU_slL (.inl rfl) ?_
    rw [cut_from (by rw [List.length_map]; exact hi), ← List.map_drop]
    walk_at "d"
    refine ⟨ns.drop (i + 1), k', by rw [show (((k' + 1 : Nat) : Int) - 1) = (k' : Int) by omega], by rw [List.length_drop]; omega, by omega, by omega, ?_⟩
    walk_at "d"
    refine ⟨by rw [List.length_map]; exact Nat.le_trans (lots_len k' _ (by rw [List.length_drop]; omega)) (Nat.le_trans (Nat.pow_le_pow_right (by decide) (show k' ≤ 5 by omega)) (by decide)), fun j acc M2 => M2 = mset M a (((List.range i).flatMap (lotsAt (lots k') ns)).map nm) ∧ acc = (((lots k' (ns.drop (i + 1))).take j).map (y :: ·)).map nm, ⟨rfl, rfl⟩, fun j z acc M2 hz hJ => ?_, fun acc M2 hJ => .inl ?_⟩
    · obtain ⟨rfl, rfl⟩ := hJ
      obtain ⟨l, hl1, rfl⟩ := getElem?_map_some hz
      walk_at "d"
      refine ifT rfl ?_
      walk_at "d"
      refine dA_star ?_
      walk_at "d"
      refine ⟨_, .inr (.inl rfl), ?_⟩
      refine dA_nil ?_
      have hll := (lots_mem k' _ l (List.mem_of_getElem? hl1)).1
      refine ⟨(y :: l).map .str, ?_, ?_, ?_⟩
      · rw [List.append_nil]
        exact datAll_d (.str y :: l.map PyData.str)
      · rw [List.length_map, List.length_cons]; omega
      refine ⟨_, rfl, rfl, ?_⟩
      rw [List.take_succ, hl1, List.map_append, List.map_append]
      rfl
    · obtain ⟨rfl, rfl⟩ := hJ
      rw [List.length_map, List.take_length]
      have h1 := lots_part (k := k') (ns := ns) i hl (by omega) (by omega)
      have h2 := lots_len k' (ns.drop (i + 1)) (by rw [List.length_drop]; omega)
      have h3 : 6 ^ k' ≤ 6 ^ 5 := Nat.pow_le_pow_right (by decide) (by omega)
      have h4 : (6 : Nat) ^ 5 = 7776 := by decide
      refine ⟨_, _, .inl rfl, mset_same, by rw [List.length_map, List.length_map, List.length_map]; omega, ?_⟩
      refine ⟨_, _, _, rfl, ?_⟩
      rw [mset_mset, lots_next hy1, List.map_append]
  · obtain ⟨x3, x4, x5, rfl, rfl⟩ := hI
    rw [List.length_map]
    refine dS_ret (dE_varF rfl mset_same ?_)
    rw [mdel_mset ha]
    exact rtOf.of p
def S_dbl : SpD := fun rs M P => ∃ (ro : List Rope) (lot : List Str), rs = [.d (bd ro), .d (nm lot)] ∧ Bun ro ∧ lot.length ≤ 100 ∧ P (.d (bd (ro.map (dbl lot)))) M
def S_dbl1 : SpD := fun rs M P => ∃ (r : Rope), rs = [.d r.d] ∧ r.Fine ∧ P (.d (Rope.d ⟨r.n, r.a, r.b, 2 * r.c⟩)) M
abbrev s_doubled : Stmt := topS 48
theorem sc_doubled : FnScope ["rope", "name", "slack", "stiff", "strong"] ["rope"] (defScope s_doubled) := ⟨rfl, rfl, rfl, by decide +kernel, rfl, by decide +kernel, by decide +kernel⟩
theorem ok_doubled (F : Fun K "doubled" "doubled" s_doubled f fd) : FnOk P w K mg base CX0 1 f fd ["rope"] (spOf K S_dbl1) := by
  refine ok_of F sc_doubled (fun rs M P h => by obtain ⟨a, rfl, _⟩ := h; rfl) fun cdv A outer s H E hr => ⟨_, (pss_cons (ps_asg (pv 0) (kpg_tup K (n := 4) rfl (pgs_cons (pg_name (i := 1) sc_doubled.nd rfl (Or.inl rfl)) (pgs_cons (pg_name (i := 2) sc_doubled.nd rfl (Or.inl rfl)) (pgs_cons (pg_name (i := 3) sc_doubled.nd rfl (Or.inl rfl)) (pgs_cons (pg_name (i := 4) sc_doubled.nd rfl (Or.inl rfl)) pgs_nil))))))
      (pss_one (ps_ret (pe_tup (pa_cons (pv 1) (pa_cons (pv 2) (pa_cons (pv 3) (pa_cons (pe_op op_mulW pe_int (pv 4)) pa_nil)))))))), fun rs M P h => ?_⟩
  obtain ⟨r, rfl, hf, p⟩ := h
  walk_at "d"
  refine dR_Ii (Sz.mulOk (m := 2) (show (2 : Int).natAbs < 2 ^ 2 by decide) (fine_ok hf).cS (by decide) (by decide) (by decide)) ?_
  walk_at "d"
  exact p
abbrev s_with_doubled : Stmt := topS 47
theorem sc_with_doubled : FnScope ["bundle", "chosen", "rope"] ["bundle", "chosen"] (defScope s_with_doubled) := ⟨rfl, rfl, rfl, by decide +kernel, rfl, by decide +kernel, by decide +kernel⟩
theorem ok_with_doubled (T : Txt mg) (F : Fun K "with_doubled" "with_doubled" s_with_doubled f fd) (c_doubled : Has P w K mg base 1 "doubled" ["rope"] S_dbl1) : FnOk P w K mg base CX0 2 f fd ["bundle", "chosen"] (spOf K S_dbl) := by
  refine ok_of F sc_with_doubled (fun rs M P h => by obtain ⟨a, b, rfl, _⟩ := h; rfl) fun cdv A outer s H E hr => ⟨_, (pss_one (ps_ret (pe_callTy (kcall_tuple K) (by rfl) T.tuple (by decide +kernel) (pa_cons (pe_lc (own := [("rope", 2)]) (by rfl) sc_with_doubled.nd (kpi_tup K (pv 0)) (blkOk_by (N := ["bundle", "chosen", "rope"]) (sc := defScope s_with_doubled) (own := [("rope", 2)]) (by decide +kernel)) (fun _ _ _ _ _ => (pg_name (i := 2) sc_with_doubled.nd rfl (Or.inl rfl))) (fun _ _ _ _ _ => pts_nil) (fun _ _ _ _ _ => (pe_ifExp (pt_cmpR (kop_in K) (pe_ix (kix_tup K) (pv 2) pe_int (fun _ _ => rfl)) (pv 1) (by rfl)) (pe_callH' c_doubled (hr.mono (by first | decide | omega)) rfl (pa_cons (pv 2) pa_nil)) (pv 2)))) pa_nil)))), fun rs M P h => ?_⟩
  obtain ⟨ro, lot, rfl, hB, hlot, p⟩ := h
  walk_at "d"
  refine dE_lcTm (enc := Rope.d) (out := fun r => (dbl lot r).d) (xs := ro) ?_
  walk_at "d"
  refine ⟨rfl, rfl, by have := hB.len; omega, fun r hr => ?_, .inl ?_⟩
  · walk_at "d"
    refine dR_is (ns := lot) (.inr (.inl rfl)) ?_
    walk_at "d"
    refine ifB (fun h => ?_) (fun h => ?_)
    · walk_at "d"
      refine ⟨hB.fine r hr, ?_, rfl⟩
      unfold dbl
      rw [if_pos h]
    · walk_at "d"
      refine ⟨?_, rfl⟩
      unfold dbl
      rw [if_neg (by rw [h]; decide)]
  · walk_at "d"
    refine dC_tuple (.inl rfl) ?_
    have p' : P (.d (.tuple ((ro.map (dbl lot)).map Rope.d))) M := p
    rw [List.map_map] at p'
    exact rtOf.of p'
end
end K2

namespace K2
open PySem L2 Sd Ma
local macro_rules | `(tactic| walk_at "d1") => `(tactic| first
  | ((with_reducible refine' dE_var ?dv ?_); (case dv => rfl))
  | with_reducible refine' dE_int ?_
  | with_reducible refine' dE_str ?_
  | with_reducible refine' dE_bl ?_
  | with_reducible refine' dE_non ?_
  | ((with_reducible refine' dE_nt ?dv ?_); (case dv => assumption))
  | with_reducible refine' dE_ref ?_
  | with_reducible refine' dE_op ?_
  | with_reducible refine' dE_un ?_
  | with_reducible refine' dE_cmp ?_
  | with_reducible refine' dE_isN ?_
  | with_reducible refine' dE_notN ?_
  | with_reducible refine' dE_call ?_
  | with_reducible refine' dE_cb ?_
  | with_reducible refine' dE_kw ?_
  | with_reducible refine' dE_tup ?_
  | with_reducible refine' dE_if ?_
  | with_reducible refine' dE_and ?_
  | with_reducible refine' dE_or ?_
  | with_reducible refine' dE_not ?_
  | with_reducible refine' dE_sl ?_
  | with_reducible refine' dO_none ?_
  | with_reducible refine' dO_some ?_
  | with_reducible refine' dA_cons ?_
  | with_reducible refine' dA_nil ?_
  | with_reducible refine' dT_B ?_
  | with_reducible refine' dT_test ?_
  | with_reducible refine' dT_and ?_
  | with_reducible refine' dT_or ?_
  | with_reducible refine' dT_not ?_
  | with_reducible refine' dT_yes ?_
  | with_reducible refine' dR_I0i ?_
  | with_reducible refine' dU_neg ?_
  | ((with_reducible refine' dR_ixT ?dv ?_); (case dv => rfl))
  | with_reducible refine' dS_seq ?_
  | with_reducible refine' dS_next ?_
  | with_reducible refine' dS_ret ?_
  | with_reducible refine' dS_drop ?_
  | with_reducible refine' dS_if ?_
  | with_reducible refine' dS_asg ?_
  | with_reducible refine' dS_par ?_
  | with_reducible refine' dG_name ?_
  | ((with_reducible refine' dG_tup ?dv ?_); (case dv => rfl); (dsimp only [List.map]))
  | with_reducible refine' dGs_cons ?_
  | with_reducible refine' dGs_nil ?_
  | with_reducible refine' dC_abs ?_
  | with_reducible refine' dC_max2 ?_
  | with_reducible refine' dC_min2 ?_
  | with_reducible refine' rtOf.of ?_
  | with_reducible refine' ex_cmp ?_
  | with_reducible refine' ex_bool ?_
  | with_reducible refine' ex_int ?_
  | with_reducible refine' ex_list ?_
  | with_reducible refine' ex_tup ?_
  | with_reducible refine' ex_d ?_
  | with_reducible refine' ex_m ?_
  | with_reducible refine' ex_par ?_
  | with_reducible refine' ex_rg1 ?_
  | with_reducible refine' ex_rg2 ?_
  | ((with_reducible refine' ex_dat ?dv ?dw ?_); (case dv => rfl); (case dw => exact Nat.le_of_ble_eq_true rfl))
  | ((fail_if_success (with_reducible show ∃ _, _)); (fail_if_success (with_reducible show _ ∧ _)); refine ⟨_, _, rfl, ?_⟩)
  | ((fail_if_success (with_reducible show ∃ _, _)); (fail_if_success (with_reducible show _ ∧ _)); refine ⟨_, rfl, ?_⟩)
  | fail)
local macro_rules | `(tactic| walk_at "d") => `(tactic| repeat' walk_at "d1")
local macro_rules | `(tactic| walk_at "e1") => `(tactic| first
  | ((with_reducible refine' dE_var ?dv ?_); (case dv => rfl))
  | with_reducible refine' dE_int ?_
  | with_reducible refine' dE_str ?_
  | with_reducible refine' dE_bl ?_
  | with_reducible refine' dE_non ?_
  | ((with_reducible refine' dE_nt ?dv ?_); (case dv => assumption))
  | with_reducible refine' dE_ref ?_
  | with_reducible refine' dE_op ?_
  | with_reducible refine' dE_un ?_
  | with_reducible refine' dE_cmp ?_
  | with_reducible refine' dE_isN ?_
  | with_reducible refine' dE_notN ?_
  | with_reducible refine' dE_call ?_
  | with_reducible refine' dE_cb ?_
  | with_reducible refine' dE_kw ?_
  | with_reducible refine' dE_tup ?_
  | with_reducible refine' dE_if ?_
  | with_reducible refine' dE_and ?_
  | with_reducible refine' dE_or ?_
  | with_reducible refine' dE_not ?_
  | with_reducible refine' dE_sl ?_
  | with_reducible refine' dO_none ?_
  | with_reducible refine' dO_some ?_
  | with_reducible refine' dA_cons ?_
  | with_reducible refine' dA_nil ?_
  | with_reducible refine' dT_B ?_
  | with_reducible refine' dT_test ?_
  | with_reducible refine' dT_and ?_
  | with_reducible refine' dT_or ?_
  | with_reducible refine' dT_not ?_
  | with_reducible refine' dT_yes ?_
  | with_reducible refine' dR_I0i ?_
  | with_reducible refine' dU_neg ?_
  | ((with_reducible refine' dR_ixT ?dv ?_); (case dv => rfl))
  | with_reducible refine' dS_next ?_
  | with_reducible refine' dS_ret ?_
  | with_reducible refine' dS_drop ?_
  | with_reducible refine' dS_if ?_
  | with_reducible refine' dS_asg ?_
  | with_reducible refine' dS_par ?_
  | with_reducible refine' dG_name ?_
  | ((with_reducible refine' dG_tup ?dv ?_); (case dv => rfl); (dsimp only [List.map]))
  | with_reducible refine' dGs_cons ?_
  | with_reducible refine' dGs_nil ?_
  | with_reducible refine' dC_abs ?_
  | with_reducible refine' dC_max2 ?_
  | with_reducible refine' dC_min2 ?_
  | with_reducible refine' rtOf.of ?_
  | with_reducible refine' ex_cmp ?_
  | with_reducible refine' ex_bool ?_
  | with_reducible refine' ex_int ?_
  | with_reducible refine' ex_list ?_
  | with_reducible refine' ex_tup ?_
  | with_reducible refine' ex_d ?_
  | with_reducible refine' ex_m ?_
  | with_reducible refine' ex_par ?_
  | with_reducible refine' ex_rg1 ?_
  | with_reducible refine' ex_rg2 ?_
  | ((with_reducible refine' ex_dat ?dv ?dw ?_); (case dv => rfl); (case dw => exact Nat.le_of_ble_eq_true rfl))
  | ((fail_if_success (with_reducible show ∃ _, _)); (fail_if_success (with_reducible show _ ∧ _)); refine ⟨_, _, rfl, ?_⟩)
  | ((fail_if_success (with_reducible show ∃ _, _)); (fail_if_success (with_reducible show _ ∧ _)); refine ⟨_, rfl, ?_⟩)
  | fail)
local macro_rules | `(tactic| walk_at "e") => `(tactic| repeat' walk_at "e1")

def allLots (ns : List Str) (n : Nat) : List (List Str) := (List.range n).flatMap fun k => lots k ns
theorem all_next {ns : List Str} {i : Nat} : allLots ns (i + 1) = allLots ns i ++ lots i ns := by
  unfold allLots
  rw [List.range_succ, List.flatMap_append, List.flatMap_cons, List.flatMap_nil, List.append_nil]
theorem all_pre {ns : List Str} {i : Nat} : ∀ n, i ≤ n → ∃ r, allLots ns n = allLots ns i ++ r
  | 0, h => ⟨[], by rw [show i = 0 by omega, List.append_nil]⟩
  | n + 1, h => by
    by_cases e : i = n + 1
    · exact ⟨[], by rw [e, List.append_nil]⟩
    · obtain ⟨r, hr⟩ := all_pre (ns := ns) (i := i) n (by omega)
      exact ⟨r ++ lots n ns, by rw [all_next, hr, List.append_assoc]⟩
def helps (ro : List Rope) (L : Q) (lot : List Str) : Bool := bearsOf (ro.map (dbl lot)) [] L
def fewOf (ro : List Rope) (L : Q) : Option (List Str) := (allLots (ro.map Rope.n) (ro.length + 1)).find? (helps ro L)
abbrev optN : Option (List Str) → PyData
  | none => .none
  | some l => nm l
theorem few_hit {ro : List Rope} {L : Q} {i j : Nat} {l : List Str} (hi : i < ro.length + 1) (h1 : (allLots (ro.map Rope.n) i).find? (helps ro L) = none) (h2 : ((lots i (ro.map Rope.n)).take j).find? (helps ro L) = none) (hl : (lots i (ro.map Rope.n))[j]? = some l) (h : helps ro L l = true) : fewOf ro L = some l := by
  unfold fewOf
  obtain ⟨r, hr⟩ := all_pre (ns := ro.map Rope.n) (i := i + 1) (ro.length + 1) (by omega)
  rw [hr, all_next, List.find?_append, List.find?_append, h1]
  have hj : j < (lots i (ro.map Rope.n)).length := (List.getElem?_eq_some_iff.mp hl).1
  have e : lots i (ro.map Rope.n) = (lots i (ro.map Rope.n)).take j ++ l :: (lots i (ro.map Rope.n)).drop (j + 1) := by
    rw [← (List.getElem?_eq_some_iff.mp hl).2, ← List.drop_eq_getElem_cons hj, List.take_append_drop]
  rw [e, List.find?_append, h2, List.find?_cons, h]
  rfl
section
variable {P : Program} {w : World} {K : PySem.W.Frag} {mg : Str → Option Value} {base : Heap} {f : Addr} {fd : FuncData}
def S_few : SpD := fun rs M P => ∃ (ro : List Rope) (L : Q), rs = [.d (bd ro), .d (fr L)] ∧ Bun ro ∧ LOk L ∧ P (.d (optN (fewOf ro L))) M
abbrev s_fewest_doubled : Stmt := topS 43
theorem sc_fewest_doubled : FnScope ["bundle", "load", "names", "many", "chosen", "rope"] ["bundle", "load"] (defScope s_fewest_doubled) := ⟨rfl, rfl, rfl, by decide +kernel, rfl, by decide +kernel, by decide +kernel⟩
theorem ok_fewest_doubled (T : Txt mg) (F : Fun K "fewest_doubled" "fewest_doubled" s_fewest_doubled f fd) (c_choices : Has P w K mg base 7 "choices" ["names", "many"] (S_lots 7)) (c_bears : Has P w K mg base 8 "bears" ["bundle", "broken", "load"] S_bears) (c_with_doubled : Has P w K mg base 2 "with_doubled" ["bundle", "chosen"] S_dbl) : FnOk P w K mg base CX0 9 f fd ["bundle", "load"] (spOf K S_few) := by
  refine ok_of F sc_fewest_doubled (fun rs M P h => by obtain ⟨a, b, rfl, _⟩ := h; rfl) fun cdv A outer s H E hr => ⟨_, (pss_cons (ps_setLc (i := 2) (own := [("rope", 5)]) (by rfl) sc_fewest_doubled.nd rfl rfl (sw_true rfl rfl rfl (by decide +kernel)) (kpi_tup K (pv 0)) (blkOk_by (N := ["bundle", "load", "names", "many", "chosen", "rope"]) (sc := defScope s_fewest_doubled) (own := [("rope", 5)]) (by decide +kernel)) (fun _ _ _ _ _ => (pg_name (i := 5) sc_fewest_doubled.nd rfl (Or.inl rfl))) (fun _ _ _ _ _ => pts_nil) (fun _ _ _ _ _ => (pe_ix (kix_tup K) (pv 5) pe_int (fun _ _ => rfl))))
      (pss_cons (ps_for PassesOwn.never rfl (pi_range1 (by rfl) T.range (pa_cons (pe_op op_add (pe_callB (kcall_len K) (by rfl) T.len (by decide +kernel) (pa_cons (pv 2) pa_nil)) pe_int) pa_nil)) (pg_name (i := 3) sc_fewest_doubled.nd rfl (Or.inl rfl)) (pss_one (ps_for PassesOwn.never rfl (kpi_list K (pe_callH' c_choices (hr.mono (by first | decide | omega)) rfl (pa_cons (pv 2) (pa_cons (pv 3) pa_nil)))) (pg_name (i := 4) sc_fewest_doubled.nd rfl (Or.inl rfl)) (pss_one (ps_if (pt_val (pe_callH' c_bears (hr.mono (by first | decide | omega)) rfl (pa_cons (pe_callH' c_with_doubled (hr.mono (by first | decide | omega)) rfl (pa_cons (pv 0) (pa_cons (pv 4) pa_nil))) (pa_cons (pe_tup pa_nil) (pa_cons (pv 1) pa_nil))))) (pss_one (ps_ret (pv 4))) pss_nil)))))
      (pss_one (ps_ret pe_non)))), fun rs M P h => ?_⟩
  obtain ⟨ro, L, rfl, hB, hL, p⟩ := h
  have hl6 := hB.len
  walk_at "d"
  refine dE_lcTm (enc := Rope.d) (out := fun r => .str r.n) (xs := ro) ?_
  walk_at "d"
  refine ⟨rfl, rfl, by omega, fun r hr => ?_, .inl ?_⟩
  · walk_at "d"
    exact ⟨rfl, rfl⟩
  rw [show (ro.map fun r => PyData.str r.n) = (ro.map Rope.n).map .str by rw [List.map_map]; rfl]
  walk_at "d"
  refine dS_range1 ?_
  walk_at "d"
  refine dC_len (ds := (ro.map Rope.n).map .str) (.inl rfl) ?_
  rw [List.length_map, List.length_map]
  walk_at "d"
  refine ⟨by omega, fun i δ M' => ∃ (x3 x4 x5 : Option SV), δ = [some (.d (bd ro)), some (.d (fr L)), some (.d (.list ((ro.map Rope.n).map .str))), x3, x4, x5] ∧ M' = M ∧ (allLots (ro.map Rope.n) i).find? (helps ro L) = none, ⟨_, _, _, rfl, rfl, rfl⟩, fun i δ M' hi hI => ?_, fun δ M' hI => ?_⟩
  · obtain ⟨x3, x4, x5, rfl, rfl, h1⟩ := hI
    have hi' : i < ro.length + 1 := by omega
    walk_at "d"
    refine dS_forL ?_
    walk_at "d"
    refine ⟨by rw [List.length_map]; exact hl6, by omega, by omega, ?_⟩
    walk_at "d"
    refine ⟨fun j δ M2 => ∃ (x3 x4 x5 : Option SV), δ = [some (.d (bd ro)), some (.d (fr L)), some (.d (.list ((ro.map Rope.n).map .str))), x3, x4, x5] ∧ M2 = M' ∧ ((lots i (ro.map Rope.n)).take j).find? (helps ro L) = none, ⟨_, _, _, rfl, rfl, rfl⟩, fun j y δ M2 hy hJ => ?_, fun δ M2 hJ => ?_⟩
    · obtain ⟨x3, x4, x5, rfl, rfl, h2⟩ := hJ
      obtain ⟨l, hl1, rfl⟩ := getElem?_map_some hy
      have hll := (lots_mem i _ l (List.mem_of_getElem? hl1)).1
      walk_at "d"
      refine ⟨hB, by omega, ?_⟩
      walk_at "d"
      refine ⟨ro.map (dbl l), [], L, rfl, (dbl_bw hB l).ok, by decide, hL, ?_⟩
      walk_at "d"
      refine ifB (fun h => ?_) (fun h => ?_)
      · walk_at "d"
        rw [few_hit hi' h1 h2 hl1 h] at p
        exact p
      · walk_at "d"
        refine ⟨_, _, _, rfl, rfl, ?_⟩
        rw [List.take_succ, hl1, List.find?_append, h2]
        show (List.find? (helps ro L) [l]) = none
        rw [List.find?_cons, show helps ro L l = false from h]
        rfl
    · obtain ⟨x3, x4, x5, rfl, rfl, h2⟩ := hJ
      rw [List.length_map, List.take_length] at h2
      refine ⟨_, _, _, rfl, rfl, ?_⟩
      rw [all_next, List.find?_append, h1, h2]
      rfl
  · obtain ⟨x3, x4, x5, rfl, rfl, h1⟩ := hI
    rw [show ((ro.length : Int) + 1).toNat = ro.length + 1 by omega] at h1
    walk_at "d"
    unfold fewOf at p
    rw [h1] at p
    exact p
end
end K2

namespace K2
open PySem L2 Sd Ma
local macro_rules | `(tactic| walk_at "d1") => `(tactic| first
  | ((with_reducible refine' dE_var ?dv ?_); (case dv => rfl))
  | with_reducible refine' dE_int ?_
  | with_reducible refine' dE_str ?_
  | with_reducible refine' dE_bl ?_
  | with_reducible refine' dE_non ?_
  | ((with_reducible refine' dE_nt ?dv ?_); (case dv => assumption))
  | with_reducible refine' dE_ref ?_
  | with_reducible refine' dE_op ?_
  | with_reducible refine' dE_un ?_
  | with_reducible refine' dE_cmp ?_
  | with_reducible refine' dE_isN ?_
  | with_reducible refine' dE_notN ?_
  | with_reducible refine' dE_call ?_
  | with_reducible refine' dE_cb ?_
  | with_reducible refine' dE_kw ?_
  | with_reducible refine' dE_tup ?_
  | with_reducible refine' dE_if ?_
  | with_reducible refine' dE_and ?_
  | with_reducible refine' dE_or ?_
  | with_reducible refine' dE_not ?_
  | with_reducible refine' dE_sl ?_
  | with_reducible refine' dO_none ?_
  | with_reducible refine' dO_some ?_
  | with_reducible refine' dA_cons ?_
  | with_reducible refine' dA_nil ?_
  | with_reducible refine' dT_B ?_
  | with_reducible refine' dT_test ?_
  | with_reducible refine' dT_and ?_
  | with_reducible refine' dT_or ?_
  | with_reducible refine' dT_not ?_
  | with_reducible refine' dT_yes ?_
  | with_reducible refine' dR_I0i ?_
  | with_reducible refine' dU_neg ?_
  | ((with_reducible refine' dR_ixT ?dv ?_); (case dv => rfl))
  | with_reducible refine' dS_seq ?_
  | with_reducible refine' dS_next ?_
  | with_reducible refine' dS_ret ?_
  | with_reducible refine' dS_drop ?_
  | with_reducible refine' dS_if ?_
  | with_reducible refine' dS_asg ?_
  | with_reducible refine' dS_par ?_
  | with_reducible refine' dG_name ?_
  | ((with_reducible refine' dG_tup ?dv ?_); (case dv => rfl); (dsimp only [List.map]))
  | with_reducible refine' dGs_cons ?_
  | with_reducible refine' dGs_nil ?_
  | with_reducible refine' dC_abs ?_
  | with_reducible refine' dC_max2 ?_
  | with_reducible refine' dC_min2 ?_
  | with_reducible refine' rtOf.of ?_
  | with_reducible refine' ex_cmp ?_
  | with_reducible refine' ex_bool ?_
  | with_reducible refine' ex_int ?_
  | with_reducible refine' ex_list ?_
  | with_reducible refine' ex_tup ?_
  | with_reducible refine' ex_d ?_
  | with_reducible refine' ex_m ?_
  | with_reducible refine' ex_par ?_
  | with_reducible refine' ex_rg1 ?_
  | with_reducible refine' ex_rg2 ?_
  | ((with_reducible refine' ex_dat ?dv ?dw ?_); (case dv => rfl); (case dw => exact Nat.le_of_ble_eq_true rfl))
  | ((fail_if_success (with_reducible show ∃ _, _)); (fail_if_success (with_reducible show _ ∧ _)); refine ⟨_, _, rfl, ?_⟩)
  | ((fail_if_success (with_reducible show ∃ _, _)); (fail_if_success (with_reducible show _ ∧ _)); refine ⟨_, rfl, ?_⟩)
  | fail)
local macro_rules | `(tactic| walk_at "d") => `(tactic| repeat' walk_at "d1")
local macro_rules | `(tactic| walk_at "e1") => `(tactic| first
  | ((with_reducible refine' dE_var ?dv ?_); (case dv => rfl))
  | with_reducible refine' dE_int ?_
  | with_reducible refine' dE_str ?_
  | with_reducible refine' dE_bl ?_
  | with_reducible refine' dE_non ?_
  | ((with_reducible refine' dE_nt ?dv ?_); (case dv => assumption))
  | with_reducible refine' dE_ref ?_
  | with_reducible refine' dE_op ?_
  | with_reducible refine' dE_un ?_
  | with_reducible refine' dE_cmp ?_
  | with_reducible refine' dE_isN ?_
  | with_reducible refine' dE_notN ?_
  | with_reducible refine' dE_call ?_
  | with_reducible refine' dE_cb ?_
  | with_reducible refine' dE_kw ?_
  | with_reducible refine' dE_tup ?_
  | with_reducible refine' dE_if ?_
  | with_reducible refine' dE_and ?_
  | with_reducible refine' dE_or ?_
  | with_reducible refine' dE_not ?_
  | with_reducible refine' dE_sl ?_
  | with_reducible refine' dO_none ?_
  | with_reducible refine' dO_some ?_
  | with_reducible refine' dA_cons ?_
  | with_reducible refine' dA_nil ?_
  | with_reducible refine' dT_B ?_
  | with_reducible refine' dT_test ?_
  | with_reducible refine' dT_and ?_
  | with_reducible refine' dT_or ?_
  | with_reducible refine' dT_not ?_
  | with_reducible refine' dT_yes ?_
  | with_reducible refine' dR_I0i ?_
  | with_reducible refine' dU_neg ?_
  | ((with_reducible refine' dR_ixT ?dv ?_); (case dv => rfl))
  | with_reducible refine' dS_next ?_
  | with_reducible refine' dS_ret ?_
  | with_reducible refine' dS_drop ?_
  | with_reducible refine' dS_if ?_
  | with_reducible refine' dS_asg ?_
  | with_reducible refine' dS_par ?_
  | with_reducible refine' dG_name ?_
  | ((with_reducible refine' dG_tup ?dv ?_); (case dv => rfl); (dsimp only [List.map]))
  | with_reducible refine' dGs_cons ?_
  | with_reducible refine' dGs_nil ?_
  | with_reducible refine' dC_abs ?_
  | with_reducible refine' dC_max2 ?_
  | with_reducible refine' dC_min2 ?_
  | with_reducible refine' rtOf.of ?_
  | with_reducible refine' ex_cmp ?_
  | with_reducible refine' ex_bool ?_
  | with_reducible refine' ex_int ?_
  | with_reducible refine' ex_list ?_
  | with_reducible refine' ex_tup ?_
  | with_reducible refine' ex_d ?_
  | with_reducible refine' ex_m ?_
  | with_reducible refine' ex_par ?_
  | with_reducible refine' ex_rg1 ?_
  | with_reducible refine' ex_rg2 ?_
  | ((with_reducible refine' ex_dat ?dv ?dw ?_); (case dv => rfl); (case dw => exact Nat.le_of_ble_eq_true rfl))
  | ((fail_if_success (with_reducible show ∃ _, _)); (fail_if_success (with_reducible show _ ∧ _)); refine ⟨_, _, rfl, ?_⟩)
  | ((fail_if_success (with_reducible show ∃ _, _)); (fail_if_success (with_reducible show _ ∧ _)); refine ⟨_, rfl, ?_⟩)
  | fail)
local macro_rules | `(tactic| walk_at "e") => `(tactic| repeat' walk_at "e1")

section
variable {P : Program} {w : World} {K : PySem.W.Frag} {mg : Str → Option Value} {base : Heap} {f : Addr} {fd : FuncData}
def S_greatS : SpD := fun rs M P => ∃ (ro : List Rope), rs = [.d (bd ro)] ∧ Bun ro ∧ ∀ e : Q, Deep ro e → P (.d (.tuple [fr (topOf ro), fr e])) M
/-- so far: m the most, k where it was first -/
def Dp (ro : List Rope) (es : List Q) (m k : Q) : Prop := (∀ x ∈ es, leQ (capOf ro x) m) ∧ ((m = (0, 1) ∧ k = (0, 1)) ∨ (k ∈ es ∧ capOf ro k = m ∧ ∀ x ∈ es, ltQ x k → ltQ (capOf ro x) m))
theorem deep_of {ro : List Rope} {es : List Q} {k : Q} (hB : Bun ro) (hes : Ris es (ro.map endOf)) (h : Dp ro es (topOf ro) k) : Deep ro k := by
  rcases h.2 with ⟨h1, _⟩ | ⟨h1, h2, h3⟩
  · have := top_pos hB
    rw [h1] at this
    exact absurd this (by decide)
  · exact ⟨(hes.mem k).mp h1, h2, fun x hx hl => h3 x ((hes.mem x).mpr hx) hl⟩
theorem ok_greatestS {a_N : Addr} (N : Nt K mg a_N) (F0 : Fun K "greatest" "greatest" s_greatest f fd) (c_table : Has P w K mg base 5 "table" ["bundle"] S_table) (c_is_more : Has P w K mg base 1 "is_more" ["one", "other"] S_more) : FnOk P w K mg base CX0 6 f fd ["bundle"] (spOf K S_greatS) := by
  refine ok_of F0 sc_greatest (fun rs M P h => by obtain ⟨a, rfl, _⟩ := h; rfl) fun cdv A outer s H E hr => ⟨_, (pss_cons (ps_set (i := 1) sc_greatest.nd rfl (Or.inl rfl) (pe_glob (v := .ref a_N) rfl N.m rfl))
      (pss_cons (ps_set (i := 2) sc_greatest.nd rfl (Or.inl rfl) (pe_glob (v := .ref a_N) rfl N.m rfl))
      (pss_cons (ps_for PassesOwn.never rfl (kpi_tup K (pe_callH' c_table (hr.mono (by first | decide | omega)) rfl (pa_cons (pv 0) pa_nil))) (kpg_tup K (n := 2) rfl (pgs_cons (pg_name (i := 3) sc_greatest.nd rfl (Or.inl rfl)) (pgs_cons (pg_name (i := 4) sc_greatest.nd rfl (Or.inl rfl)) pgs_nil))) (pss_one (ps_if (pt_val (pe_callH' c_is_more (hr.mono (by first | decide | omega)) rfl (pa_cons (pv 4) (pa_cons (pv 1) pa_nil)))) (pss_cons (ps_set (i := 1) sc_greatest.nd rfl (Or.inl rfl) (pv 4))
      (pss_one (ps_set (i := 2) sc_greatest.nd rfl (Or.inl rfl) (pv 3)))) pss_nil)))
      (pss_one (ps_ret (pe_tup (pa_cons (pv 1) (pa_cons (pv 2) pa_nil)))))))), fun rs M P h => ?_⟩
  obtain ⟨ro, rfl, hB, p⟩ := h
  have hl : ro.length ≤ 8 := by have := hB.len; omega
  have hn := hB.nice
  walk_at "d"
  refine dS_forT ?_
  walk_at "d"
  refine ⟨hl, hB.fine, fun es hes => ?_⟩
  have hen : ∀ e ∈ es, En e := fun e he => by
    obtain ⟨r, hr1, rfl⟩ := List.mem_map.mp ((hes.mem e).mp he)
    exact end_en (hB.fine r hr1)
  walk_at "d"
  refine ⟨fun i δ M' => ∃ (m k : Q) (x1 x2 : Option SV), δ = [some (.d (bd ro)), some (.d (fr m)), some (.d (fr k)), x1, x2] ∧ M' = M ∧ Mk m ∧ (es.drop i).foldl (topStep ro) m = topOf ro ∧ Dp ro (es.take i) m k, ⟨(0, 1), (0, 1), _, _, rfl, rfl, mk01, top_eq hn hes, (fun x hx => by simp at hx), .inl ⟨rfl, rfl⟩⟩, fun i y δ M' hy hI => ?_, fun δ M' hI => ?_⟩
  · obtain ⟨m, k, x1, x2, rfl, rfl, hm, hg, hD⟩ := hI
    obtain ⟨e, he1, rfl⟩ := getElem?_map_some hy
    have he := hen e (List.mem_of_getElem? he1)
    have hc := cap_mk hl hB.fine he
    have hdr : es.drop i = e :: es.drop (i + 1) := by rw [List.drop_eq_getElem_cons (List.getElem?_eq_some_iff.mp he1).1, (List.getElem?_eq_some_iff.mp he1).2]
    have htk : es.take (i + 1) = es.take i ++ [e] := by rw [List.take_succ, he1]; rfl
    have hmk : ∀ x ∈ es.take i, Mk (capOf ro x) := fun x hx => cap_mk hl hB.fine (hen x (List.mem_of_mem_take hx))
    have hbef : ∀ x ∈ es.take i, ltQ x e := fun x hx => by
      obtain ⟨j, hj, hx'⟩ := mem_take.mp hx
      exact ris_lt hes hx' he1 hj
    rw [hdr, List.foldl_cons] at hg
    unfold topStep at hg
    walk_at "d"
    refine ⟨hc.fr3, hm.fr3, ?_⟩
    walk_at "d"
    refine ifB (fun h => ?_) (fun h => ?_)
    · walk_at "d"
      rw [if_pos h] at hg
      have hlt : ltQ m (capOf ro e) := gt_lt.mp h
      have hall : ∀ x ∈ es.take i, ltQ (capOf ro x) (capOf ro e) := fun x hx => by
        rw [lt_not]
        intro k'
        exact lt_not.mp hlt (leQ_trans hc.q0 (hmk x hx).q0 hm.q0 k' (hD.1 x hx))
      refine ⟨capOf ro e, e, _, _, rfl, rfl, hc, hg, fun x hx => ?_, .inr ⟨by rw [htk]; simp, rfl, fun x hx hl => ?_⟩⟩
      · rw [htk] at hx
        rcases List.mem_append.mp hx with hx | hx
        · exact Int.le_of_lt (hall x hx)
        · rw [List.mem_singleton.mp hx]; exact leQ_refl _
      · rw [htk] at hx
        rcases List.mem_append.mp hx with hx | hx
        · exact hall x hx
        · rw [List.mem_singleton.mp hx] at hl
          exact absurd hl (Int.lt_irrefl _)
    · walk_at "d"
      rw [if_neg (by rw [h]; decide)] at hg
      refine ⟨m, k, _, _, rfl, rfl, hm, hg, fun x hx => ?_, ?_⟩
      · rw [htk] at hx
        rcases List.mem_append.mp hx with hx | hx
        · exact hD.1 x hx
        · rw [List.mem_singleton.mp hx]; exact gt_le.mp h
      · rcases hD.2 with hh | ⟨h1, h2, h3⟩
        · exact .inl hh
        · refine .inr ⟨by rw [htk]; exact List.mem_append_left _ h1, h2, fun x hx hl => ?_⟩
          rw [htk] at hx
          rcases List.mem_append.mp hx with hx | hx
          · exact h3 x hx hl
          · rw [List.mem_singleton.mp hx] at hl
            have := hbef k h1
            unfold ltQ at hl this
            omega
  · obtain ⟨m, k, x1, x2, rfl, rfl, hm, hg, hD⟩ := hI
    rw [List.length_map] at hg hD
    rw [List.drop_length] at hg
    rw [List.take_length] at hD
    walk_at "d"
    rw [show m = topOf ro from hg] at hD ⊢
    exact p k (deep_of hB hes hD)
end
end K2

namespace K2
open PySem L2 Sd Ma
local macro_rules | `(tactic| walk_at "d1") => `(tactic| first
  | ((with_reducible refine' dE_var ?dv ?_); (case dv => rfl))
  | with_reducible refine' dE_int ?_
  | with_reducible refine' dE_str ?_
  | with_reducible refine' dE_bl ?_
  | with_reducible refine' dE_non ?_
  | ((with_reducible refine' dE_nt ?dv ?_); (case dv => assumption))
  | with_reducible refine' dE_ref ?_
  | with_reducible refine' dE_op ?_
  | with_reducible refine' dE_un ?_
  | with_reducible refine' dE_cmp ?_
  | with_reducible refine' dE_isN ?_
  | with_reducible refine' dE_notN ?_
  | with_reducible refine' dE_call ?_
  | with_reducible refine' dE_cb ?_
  | with_reducible refine' dE_kw ?_
  | with_reducible refine' dE_tup ?_
  | with_reducible refine' dE_if ?_
  | with_reducible refine' dE_and ?_
  | with_reducible refine' dE_or ?_
  | with_reducible refine' dE_not ?_
  | with_reducible refine' dE_sl ?_
  | with_reducible refine' dO_none ?_
  | with_reducible refine' dO_some ?_
  | with_reducible refine' dA_cons ?_
  | with_reducible refine' dA_nil ?_
  | with_reducible refine' dT_B ?_
  | with_reducible refine' dT_test ?_
  | with_reducible refine' dT_and ?_
  | with_reducible refine' dT_or ?_
  | with_reducible refine' dT_not ?_
  | with_reducible refine' dT_yes ?_
  | with_reducible refine' dR_I0i ?_
  | with_reducible refine' dU_neg ?_
  | ((with_reducible refine' dR_ixT ?dv ?_); (case dv => rfl))
  | with_reducible refine' dS_seq ?_
  | with_reducible refine' dS_next ?_
  | with_reducible refine' dS_ret ?_
  | with_reducible refine' dS_drop ?_
  | with_reducible refine' dS_if ?_
  | with_reducible refine' dS_asg ?_
  | with_reducible refine' dS_par ?_
  | with_reducible refine' dG_name ?_
  | ((with_reducible refine' dG_tup ?dv ?_); (case dv => rfl); (dsimp only [List.map]))
  | with_reducible refine' dGs_cons ?_
  | with_reducible refine' dGs_nil ?_
  | with_reducible refine' dC_abs ?_
  | with_reducible refine' dC_max2 ?_
  | with_reducible refine' dC_min2 ?_
  | with_reducible refine' rtOf.of ?_
  | with_reducible refine' ex_cmp ?_
  | with_reducible refine' ex_bool ?_
  | with_reducible refine' ex_int ?_
  | with_reducible refine' ex_list ?_
  | with_reducible refine' ex_tup ?_
  | with_reducible refine' ex_d ?_
  | with_reducible refine' ex_m ?_
  | with_reducible refine' ex_par ?_
  | with_reducible refine' ex_rg1 ?_
  | with_reducible refine' ex_rg2 ?_
  | ((with_reducible refine' ex_dat ?dv ?dw ?_); (case dv => rfl); (case dw => exact Nat.le_of_ble_eq_true rfl))
  | ((fail_if_success (with_reducible show ∃ _, _)); (fail_if_success (with_reducible show _ ∧ _)); refine ⟨_, _, rfl, ?_⟩)
  | ((fail_if_success (with_reducible show ∃ _, _)); (fail_if_success (with_reducible show _ ∧ _)); refine ⟨_, rfl, ?_⟩)
  | fail)
local macro_rules | `(tactic| walk_at "d") => `(tactic| repeat' walk_at "d1")
local macro_rules | `(tactic| walk_at "e1") => `(tactic| first
  | ((with_reducible refine' dE_var ?dv ?_); (case dv => rfl))
  | with_reducible refine' dE_int ?_
  | with_reducible refine' dE_str ?_
  | with_reducible refine' dE_bl ?_
  | with_reducible refine' dE_non ?_
  | ((with_reducible refine' dE_nt ?dv ?_); (case dv => assumption))
  | with_reducible refine' dE_ref ?_
  | with_reducible refine' dE_op ?_
  | with_reducible refine' dE_un ?_
  | with_reducible refine' dE_cmp ?_
  | with_reducible refine' dE_isN ?_
  | with_reducible refine' dE_notN ?_
  | with_reducible refine' dE_call ?_
  | with_reducible refine' dE_cb ?_
  | with_reducible refine' dE_kw ?_
  | with_reducible refine' dE_tup ?_
  | with_reducible refine' dE_if ?_
  | with_reducible refine' dE_and ?_
  | with_reducible refine' dE_or ?_
  | with_reducible refine' dE_not ?_
  | with_reducible refine' dE_sl ?_
  | with_reducible refine' dO_none ?_
  | with_reducible refine' dO_some ?_
  | with_reducible refine' dA_cons ?_
  | with_reducible refine' dA_nil ?_
  | with_reducible refine' dT_B ?_
  | with_reducible refine' dT_test ?_
  | with_reducible refine' dT_and ?_
  | with_reducible refine' dT_or ?_
  | with_reducible refine' dT_not ?_
  | with_reducible refine' dT_yes ?_
  | with_reducible refine' dR_I0i ?_
  | with_reducible refine' dU_neg ?_
  | ((with_reducible refine' dR_ixT ?dv ?_); (case dv => rfl))
  | with_reducible refine' dS_next ?_
  | with_reducible refine' dS_ret ?_
  | with_reducible refine' dS_drop ?_
  | with_reducible refine' dS_if ?_
  | with_reducible refine' dS_asg ?_
  | with_reducible refine' dS_par ?_
  | with_reducible refine' dG_name ?_
  | ((with_reducible refine' dG_tup ?dv ?_); (case dv => rfl); (dsimp only [List.map]))
  | with_reducible refine' dGs_cons ?_
  | with_reducible refine' dGs_nil ?_
  | with_reducible refine' dC_abs ?_
  | with_reducible refine' dC_max2 ?_
  | with_reducible refine' dC_min2 ?_
  | with_reducible refine' rtOf.of ?_
  | with_reducible refine' ex_cmp ?_
  | with_reducible refine' ex_bool ?_
  | with_reducible refine' ex_int ?_
  | with_reducible refine' ex_list ?_
  | with_reducible refine' ex_tup ?_
  | with_reducible refine' ex_d ?_
  | with_reducible refine' ex_m ?_
  | with_reducible refine' ex_par ?_
  | with_reducible refine' ex_rg1 ?_
  | with_reducible refine' ex_rg2 ?_
  | ((with_reducible refine' ex_dat ?dv ?dw ?_); (case dv => rfl); (case dw => exact Nat.le_of_ble_eq_true rfl))
  | ((fail_if_success (with_reducible show ∃ _, _)); (fail_if_success (with_reducible show _ ∧ _)); refine ⟨_, _, rfl, ?_⟩)
  | ((fail_if_success (with_reducible show ∃ _, _)); (fail_if_success (with_reducible show _ ∧ _)); refine ⟨_, rfl, ?_⟩)
  | fail)
local macro_rules | `(tactic| walk_at "e") => `(tactic| repeat' walk_at "e1")

/-- the module's numbers -/
structure Cst (mg : Str → Option Value) : Prop where
  c_MOST_LETTERS : ∃ t, mg "MOST_LETTERS" = some (.int 8 t)
  c_MOST_SLACK : ∃ t, mg "MOST_SLACK" = some (.int 1000 t)
  c_MOST_STIFF : ∃ t, mg "MOST_STIFF" = some (.int 100 t)
  c_MOST_STRONG : ∃ t, mg "MOST_STRONG" = some (.int 1000000 t)
  c_MOST_ROPES : ∃ t, mg "MOST_ROPES" = some (.int 6 t)
theorem pe_globI {X : Cx} {x : Str} {i : Int} {pos : Pos} (hg : Gl X x) (hm : ∃ t, X.mg x = some (.int i t)) (hd : (x == ("__debug__" : Str)) = false := by decide) : PE X (.Name x pos) (tC (.int i)) :=
  let ⟨t, h⟩ := hm
  pe_glob hg h ⟨t, rfl⟩ hd
def isI : PyData → Bool
  | .int _ => true
  | _ => false
theorem isI_eq (d : PyData) : (isNum d && !isBl d) = isI d := by cases d <;> rfl
section
variable {P : Program} {w : World} {K : PySem.W.Frag} {mg : Str → Option Value} {base : Heap} {f : Addr} {fd : FuncData}
def S_isI : SpD := fun rs M P => ∃ d : PyData, rs = [.d d] ∧ P (.d (.bool (isI d))) M
abbrev s_is_whole : Stmt := topS 3
theorem sc_is_whole : FnScope ["thing"] ["thing"] (defScope s_is_whole) := ⟨rfl, rfl, rfl, by decide +kernel, rfl, by decide +kernel, by decide +kernel⟩
theorem ok_is_whole (T : Txt mg) (F : Fun K "is_whole" "is_whole" s_is_whole f fd) : FnOk P w K mg base CX0 1 f fd ["thing"] (spOf K S_isI) := by
  refine ok_of F sc_is_whole (fun rs M P h => by obtain ⟨a, rfl, _⟩ := h; rfl) fun cdv A outer s H E hr => ⟨_, (pss_one (ps_ret (pe_and (pe_callB (kcall_isi K) (by rfl) T.isinstance (by decide +kernel) (pa_cons (pv 0) (pa_cons (pe_bltn (v := .ty "int") (by rfl) T.int (by decide +kernel) rfl) pa_nil))) (pe_one (pe_not (pe_callB (kcall_isi K) (by rfl) T.isinstance (by decide +kernel) (pa_cons (pv 0) (pa_cons (pe_bltn (v := .ty "bool") (by rfl) T.bool (by decide +kernel) rfl) pa_nil)))))))), fun rs M P h => ?_⟩
  obtain ⟨d, rfl, p⟩ := h
  rw [← isI_eq] at p
  walk_at "d"
  refine dE_ty ?_
  walk_at "d"
  refine dC_isi (kit_int d) ?_
  walk_at "d"
  refine ifB (fun h => ?_) (fun h => ?_)
  · rw [h, Bool.true_and] at p
    walk_at "d"
    refine dE_ty ?_
    walk_at "d"
    refine dC_isi (kit_bool d) ?_
    walk_at "d"
    exact p
  · rw [h, Bool.false_and] at p
    exact rtOf.of p
/-- a number of these bounds -/
def inB (lo hi : Int) : PyData → Bool
  | .int i => decide (lo ≤ i) && decide (i ≤ hi)
  | _ => false
theorem inB_not {lo hi : Int} {d : PyData} (h : isI d = false) : inB lo hi d = false := by cases d <;> first | rfl | cases h
def S_inB : SpD := fun rs M P => ∃ (d : PyData) (lo hi : Int), rs = [.d d, .d (.int lo), .d (.int hi)] ∧ P (.d (.bool (inB lo hi d))) M
abbrev s_is_within : Stmt := topS 19
theorem sc_is_within : FnScope ["thing", "least", "most"] ["thing", "least", "most"] (defScope s_is_within) := ⟨rfl, rfl, rfl, by decide +kernel, rfl, by decide +kernel, by decide +kernel⟩
theorem ok_is_within (F : Fun K "is_within" "is_within" s_is_within f fd) (c_is_whole : Has P w K mg base 1 "is_whole" ["thing"] S_isI) : FnOk P w K mg base CX0 2 f fd ["thing", "least", "most"] (spOf K S_inB) := by
  refine ok_of F sc_is_within (fun rs M P h => by obtain ⟨a, b, c, rfl, _⟩ := h; rfl) fun cdv A outer s H E hr => ⟨_, (pss_one (ps_ret (pe_and (pe_callH' c_is_whole (hr.mono (by first | decide | omega)) rfl (pa_cons (pv 0) pa_nil)) (pe_one (pe_chain op_le op_le (pv 1) (pv 0) (pv 2)))))), fun rs M P h => ?_⟩
  obtain ⟨d, lo, hi, rfl, p⟩ := h
  walk_at "d"
  refine ifB (fun h => ?_) (fun h => ?_)
  · cases d with
    | int i =>
      have p' : P (.d (.bool (decide (lo ≤ i) && decide (i ≤ hi)))) M := p
      refine dE_chain ?_
      walk_at "d"
      refine dR_I0b ?_
      walk_at "d"
      refine ifB (fun h1 => ?_) (fun h1 => ?_)
      · rw [h1, Bool.true_and] at p'
        walk_at "d"
        refine dR_I0b ?_
        exact rtOf.of p'
      · rw [h1, Bool.false_and] at p'
        exact rtOf.of p'
    | _ => cases h
  · rw [inB_not h] at p
    exact rtOf.of p
theorem one_lt {a b : Nat} : ([a] < [b]) ↔ a < b := by
  rw [List.cons_lt_cons_iff]
  constructor
  · rintro (h | ⟨_, h⟩)
    · exact h
    · exact absurd h (List.not_lt_nil [])
  · intro h; exact .inl h
theorem le_one (c : Nat) : (!decide ((⟨#[c]⟩ : Str).cps.toList < (Str.ofString "a").cps.toList)) = decide (97 ≤ c) := by
  show (!decide ([c] < [97])) = _
  rw [Bool.eq_iff_iff, Bool.not_eq_true', decide_eq_false_iff_not, one_lt, decide_eq_true_iff]
  omega
theorem one_le (c : Nat) : (!decide ((Str.ofString "z").cps.toList < (⟨#[c]⟩ : Str).cps.toList)) = decide (c ≤ 122) := by
  show (!decide ([122] < [c])) = _
  rw [Bool.eq_iff_iff, Bool.not_eq_true', decide_eq_false_iff_not, one_lt, decide_eq_true_iff]
  omega
/-- a name -/
def nameB : PyData → Bool
  | .str x => decide (1 ≤ x.length) && decide (x.length ≤ 8) && x.cps.toList.all fun c => decide (97 ≤ c) && decide (c ≤ 122)
  | _ => false
def S_name : SpD := fun rs M P => ∃ d : PyData, rs = [.d d] ∧ (∀ x, d = .str x → x.length ≤ 1000000) ∧ P (.d (.bool (nameB d))) M
abbrev s_is_name : Stmt := topS 4
theorem sc_is_name : FnScope ["thing", "letter"] ["thing"] (defScope s_is_name) := ⟨rfl, rfl, rfl, by decide +kernel, rfl, by decide +kernel, by decide +kernel⟩
theorem ok_is_name (C : Cst mg) (T : Txt mg) (F : Fun K "is_name" "is_name" s_is_name f fd) : FnOk P w K mg base CX0 1 f fd ["thing"] (spOf K S_name) := by
  refine ok_of F sc_is_name (fun rs M P h => by obtain ⟨a, rfl, _⟩ := h; rfl) fun cdv A outer s H E hr => ⟨_, (pss_cons (ps_if (PW.pt (pw_or (pt_not (pt_val (pe_callB (kcall_isi K) (by rfl) T.isinstance (by decide +kernel) (pa_cons (pv 0) (pa_cons (pe_bltn (v := .ty "str") (by rfl) T.str (by decide +kernel) rfl) pa_nil))))) (pw_or1 (pt_not (pt_chain op_le op_le pe_int (pe_callB call_len_str (by rfl) T.len (by decide +kernel) (pa_cons (pv 0) pa_nil)) (pe_globI rfl C.c_MOST_LETTERS)))))) (pss_one (ps_ret pe_bl)) pss_nil)
      (pss_one (ps_ret (pe_callB (kcr_all K) (by rfl) T.all (by decide +kernel) (pa_cons (pe_lc (own := [("letter", 1)]) (by rfl) sc_is_name.nd (pi_str (pv 0)) (blkOk_by (N := ["thing", "letter"]) (sc := defScope s_is_name) (own := [("letter", 1)]) (by decide +kernel)) (fun _ _ _ _ _ => (pg_name (i := 1) sc_is_name.nd rfl (Or.inl rfl))) (fun _ _ _ _ _ => pts_nil) (fun _ _ _ _ _ => (pe_chain op_le_str op_le_str pe_str (pv 1) pe_str))) pa_nil))))), fun rs M P h => ?_⟩
  obtain ⟨d, rfl, hz, p⟩ := h
  walk_at "d"
  refine dE_ty ?_
  walk_at "d"
  refine dC_isi (kit_str d) ?_
  walk_at "d"
  cases d with
  | str x =>
    refine ifF rfl ?_
    walk_at "d"
    refine dE_chain ?_
    walk_at "d"
    refine dC_lenX (hz x rfl) ?_
    walk_at "d"
    refine dR_I0b ?_
    walk_at "d"
    have p' : P (.d (.bool (decide (1 ≤ x.length) && decide (x.length ≤ 8) && x.cps.toList.all fun c => decide (97 ≤ c) && decide (c ≤ 122)))) M := p
    refine ifB (fun h => ?_) (fun h => ?_)
    · rw [show decide (1 ≤ x.length) = true from decide_eq_true (by have := of_decide_eq_true h; omega), Bool.true_and] at p'
      walk_at "d"
      refine dR_I0b ?_
      walk_at "d"
      refine ifB (fun h2 => ?_) (fun h2 => ?_)
      · have h3 : decide ((x.length : Int) ≤ 8) = false := by simpa using h2
        rw [show decide (x.length ≤ 8) = false from decide_eq_false (by have := of_decide_eq_false h3; omega), Bool.false_and] at p'
        walk_at "d"
        exact p'
      · have h3 : decide ((x.length : Int) ≤ 8) = true := by simpa using h2
        rw [show decide (x.length ≤ 8) = true from decide_eq_true (by have := of_decide_eq_true h3; omega), Bool.true_and] at p'
        walk_at "d"
        have hx8 : x.length ≤ 8 := by have := of_decide_eq_true h3; omega
        refine dE_lcS (gw_name 1) ?_
        walk_at "d"
        refine ⟨x, rfl, Nat.le_trans (show x.cps.size ≤ 8 from hx8) (by decide), fun i acc M' => M' = M ∧ acc = ((x.cps.toList.take i).map fun c => decide (97 ≤ c) && decide (c ≤ 122)).map .bool, ⟨rfl, rfl⟩, fun i c acc M' hc hI => ?_, fun acc M' hI => .inl ?_⟩
        · obtain ⟨rfl, rfl⟩ := hI
          have hnx : ((x.cps.toList.take (i + 1)).map fun c => decide (97 ≤ c) && decide (c ≤ 122)).map PyData.bool = ((x.cps.toList.take i).map fun c => decide (97 ≤ c) && decide (c ≤ 122)).map PyData.bool ++ [.bool (decide (97 ≤ c) && decide (c ≤ 122))] := by
            rw [List.take_succ, Array.getElem?_toList, hc, List.map_append, List.map_append]
            rfl
          walk_at "d"
          refine ifT rfl ?_
          refine dE_chain ?_
          walk_at "d"
          refine dR_ss ?_
          rw [le_one]
          walk_at "d"
          refine ifB (fun k => ?_) (fun k => ?_)
          · walk_at "d"
            refine dR_ss ?_
            rw [one_le]
            refine ⟨_, rfl, rfl, ?_⟩
            rw [hnx, k, Bool.true_and]
          · refine ⟨_, rfl, rfl, ?_⟩
            rw [hnx, k, Bool.false_and]
        · obtain ⟨rfl, rfl⟩ := hI
          rw [show x.cps.size = x.cps.toList.length from Array.length_toList.symm, List.take_length]
          walk_at "d"
          refine dC_all (.inl rfl) ?_
          rw [List.all_map]
          exact rtOf.of p'
    · rw [show decide (1 ≤ x.length) = false from decide_eq_false (by have := of_decide_eq_false h; omega), Bool.false_and, Bool.false_and] at p'
      walk_at "d"
      refine ifT rfl ?_
      walk_at "d"
      exact p'
  | _ =>
    refine ifT rfl ?_
    refine ifT rfl ?_
    walk_at "d"
    exact p
theorem alpha_mem (c : Nat) : decide (c ∈ (Str.ofString "abcdefghijklmnopqrstuvwxyz").cps.toList) = (decide (97 ≤ c) && decide (c ≤ 122)) := by
  rw [show (Str.ofString "abcdefghijklmnopqrstuvwxyz").cps.toList = [97, 98, 99, 100, 101, 102, 103, 104, 105, 106, 107, 108, 109, 110, 111, 112, 113, 114, 115, 116, 117, 118, 119, 120, 121, 122] by decide +kernel]
  rw [Bool.eq_iff_iff, decide_eq_true_iff, Bool.and_eq_true, decide_eq_true_iff, decide_eq_true_iff]
  simp only [List.mem_cons, List.not_mem_nil, or_false]
  omega
def S_lname : SpD := fun rs M P => ∃ d : PyData, rs = [.d d] ∧ (∀ x, d = .str x → x.length ≤ 1000000 ∧ ∀ c ∈ x.cps.toList, PyData.canLay0 (.str ⟨#[c]⟩) = true) ∧ P (.d (.bool (nameB d))) M
end
end K2

namespace K2
open PySem L2 Sd Ma
local macro_rules | `(tactic| walk_at "d1") => `(tactic| first
  | ((with_reducible refine' dE_var ?dv ?_); (case dv => rfl))
  | with_reducible refine' dE_int ?_
  | with_reducible refine' dE_str ?_
  | with_reducible refine' dE_bl ?_
  | with_reducible refine' dE_non ?_
  | ((with_reducible refine' dE_nt ?dv ?_); (case dv => assumption))
  | with_reducible refine' dE_ref ?_
  | with_reducible refine' dE_op ?_
  | with_reducible refine' dE_un ?_
  | with_reducible refine' dE_cmp ?_
  | with_reducible refine' dE_isN ?_
  | with_reducible refine' dE_notN ?_
  | with_reducible refine' dE_call ?_
  | with_reducible refine' dE_cb ?_
  | with_reducible refine' dE_kw ?_
  | with_reducible refine' dE_tup ?_
  | with_reducible refine' dE_if ?_
  | with_reducible refine' dE_and ?_
  | with_reducible refine' dE_or ?_
  | with_reducible refine' dE_not ?_
  | with_reducible refine' dE_sl ?_
  | with_reducible refine' dO_none ?_
  | with_reducible refine' dO_some ?_
  | with_reducible refine' dA_cons ?_
  | with_reducible refine' dA_nil ?_
  | with_reducible refine' dT_B ?_
  | with_reducible refine' dT_test ?_
  | with_reducible refine' dT_and ?_
  | with_reducible refine' dT_or ?_
  | with_reducible refine' dT_not ?_
  | with_reducible refine' dT_yes ?_
  | with_reducible refine' dR_I0i ?_
  | with_reducible refine' dU_neg ?_
  | ((with_reducible refine' dR_ixT ?dv ?_); (case dv => rfl))
  | with_reducible refine' dS_seq ?_
  | with_reducible refine' dS_next ?_
  | with_reducible refine' dS_ret ?_
  | with_reducible refine' dS_drop ?_
  | with_reducible refine' dS_if ?_
  | with_reducible refine' dS_asg ?_
  | with_reducible refine' dS_par ?_
  | with_reducible refine' dG_name ?_
  | ((with_reducible refine' dG_tup ?dv ?_); (case dv => rfl); (dsimp only [List.map]))
  | with_reducible refine' dGs_cons ?_
  | with_reducible refine' dGs_nil ?_
  | with_reducible refine' dC_abs ?_
  | with_reducible refine' dC_max2 ?_
  | with_reducible refine' dC_min2 ?_
  | with_reducible refine' rtOf.of ?_
  | with_reducible refine' ex_cmp ?_
  | with_reducible refine' ex_bool ?_
  | with_reducible refine' ex_int ?_
  | with_reducible refine' ex_list ?_
  | with_reducible refine' ex_tup ?_
  | with_reducible refine' ex_d ?_
  | with_reducible refine' ex_m ?_
  | with_reducible refine' ex_par ?_
  | with_reducible refine' ex_rg1 ?_
  | with_reducible refine' ex_rg2 ?_
  | ((with_reducible refine' ex_dat ?dv ?dw ?_); (case dv => rfl); (case dw => exact Nat.le_of_ble_eq_true rfl))
  | ((fail_if_success (with_reducible show ∃ _, _)); (fail_if_success (with_reducible show _ ∧ _)); refine ⟨_, _, rfl, ?_⟩)
  | ((fail_if_success (with_reducible show ∃ _, _)); (fail_if_success (with_reducible show _ ∧ _)); refine ⟨_, rfl, ?_⟩)
  | fail)
local macro_rules | `(tactic| walk_at "d") => `(tactic| repeat' walk_at "d1")
local macro_rules | `(tactic| walk_at "e1") => `(tactic| first
  | ((with_reducible refine' dE_var ?dv ?_); (case dv => rfl))
  | with_reducible refine' dE_int ?_
  | with_reducible refine' dE_str ?_
  | with_reducible refine' dE_bl ?_
  | with_reducible refine' dE_non ?_
  | ((with_reducible refine' dE_nt ?dv ?_); (case dv => assumption))
  | with_reducible refine' dE_ref ?_
  | with_reducible refine' dE_op ?_
  | with_reducible refine' dE_un ?_
  | with_reducible refine' dE_cmp ?_
  | with_reducible refine' dE_isN ?_
  | with_reducible refine' dE_notN ?_
  | with_reducible refine' dE_call ?_
  | with_reducible refine' dE_cb ?_
  | with_reducible refine' dE_kw ?_
  | with_reducible refine' dE_tup ?_
  | with_reducible refine' dE_if ?_
  | with_reducible refine' dE_and ?_
  | with_reducible refine' dE_or ?_
  | with_reducible refine' dE_not ?_
  | with_reducible refine' dE_sl ?_
  | with_reducible refine' dO_none ?_
  | with_reducible refine' dO_some ?_
  | with_reducible refine' dA_cons ?_
  | with_reducible refine' dA_nil ?_
  | with_reducible refine' dT_B ?_
  | with_reducible refine' dT_test ?_
  | with_reducible refine' dT_and ?_
  | with_reducible refine' dT_or ?_
  | with_reducible refine' dT_not ?_
  | with_reducible refine' dT_yes ?_
  | with_reducible refine' dR_I0i ?_
  | with_reducible refine' dU_neg ?_
  | ((with_reducible refine' dR_ixT ?dv ?_); (case dv => rfl))
  | with_reducible refine' dS_next ?_
  | with_reducible refine' dS_ret ?_
  | with_reducible refine' dS_drop ?_
  | with_reducible refine' dS_if ?_
  | with_reducible refine' dS_asg ?_
  | with_reducible refine' dS_par ?_
  | with_reducible refine' dG_name ?_
  | ((with_reducible refine' dG_tup ?dv ?_); (case dv => rfl); (dsimp only [List.map]))
  | with_reducible refine' dGs_cons ?_
  | with_reducible refine' dGs_nil ?_
  | with_reducible refine' dC_abs ?_
  | with_reducible refine' dC_max2 ?_
  | with_reducible refine' dC_min2 ?_
  | with_reducible refine' rtOf.of ?_
  | with_reducible refine' ex_cmp ?_
  | with_reducible refine' ex_bool ?_
  | with_reducible refine' ex_int ?_
  | with_reducible refine' ex_list ?_
  | with_reducible refine' ex_tup ?_
  | with_reducible refine' ex_d ?_
  | with_reducible refine' ex_m ?_
  | with_reducible refine' ex_par ?_
  | with_reducible refine' ex_rg1 ?_
  | with_reducible refine' ex_rg2 ?_
  | ((with_reducible refine' ex_dat ?dv ?dw ?_); (case dv => rfl); (case dw => exact Nat.le_of_ble_eq_true rfl))
  | ((fail_if_success (with_reducible show ∃ _, _)); (fail_if_success (with_reducible show _ ∧ _)); refine ⟨_, _, rfl, ?_⟩)
  | ((fail_if_success (with_reducible show ∃ _, _)); (fail_if_success (with_reducible show _ ∧ _)); refine ⟨_, rfl, ?_⟩)
  | fail)
local macro_rules | `(tactic| walk_at "e") => `(tactic| repeat' walk_at "e1")

/-- a fraction -/
def fracB : PyData → Bool
  | .tuple [.int t, .int b] => decide (0 ≤ t) && (decide (1 ≤ b) && decide (Int.gcd t b = 1))
  | _ => false
theorem frac_len : ∀ {ds : List PyData}, ds.length ≠ 2 → fracB (.tuple ds) = false
  | [], _ => rfl
  | [x], _ => by cases x <;> rfl
  | [_, _], h => absurd rfl h
  | x :: y :: _ :: _, _ => by cases x <;> first | rfl | (cases y <;> rfl)
theorem frac_two {x y : PyData} (h : isI x = false ∨ isI y = false) : fracB (.tuple [x, y]) = false := by
  unfold fracB
  split
  · rename_i e
    cases e
    rcases h with h | h <;> cases h
  · rfl
section
variable {P : Program} {w : World} {K : PySem.W.Frag} {mg : Str → Option Value} {base : Heap} {f : Addr} {fd : FuncData}
def S_frac : SpD := fun rs M P => ∃ d : PyData, rs = [.d d] ∧ (∀ ds, d = .tuple ds → ds.length ≤ 1000000) ∧ P (.d (.bool (fracB d))) M
end
end K2

namespace K2
open PySem L2 Sd Ma
local macro_rules | `(tactic| walk_at "d1") => `(tactic| first
  | ((with_reducible refine' dE_var ?dv ?_); (case dv => rfl))
  | with_reducible refine' dE_int ?_
  | with_reducible refine' dE_str ?_
  | with_reducible refine' dE_bl ?_
  | with_reducible refine' dE_non ?_
  | ((with_reducible refine' dE_nt ?dv ?_); (case dv => assumption))
  | with_reducible refine' dE_ref ?_
  | with_reducible refine' dE_op ?_
  | with_reducible refine' dE_un ?_
  | with_reducible refine' dE_cmp ?_
  | with_reducible refine' dE_isN ?_
  | with_reducible refine' dE_notN ?_
  | with_reducible refine' dE_call ?_
  | with_reducible refine' dE_cb ?_
  | with_reducible refine' dE_kw ?_
  | with_reducible refine' dE_tup ?_
  | with_reducible refine' dE_if ?_
  | with_reducible refine' dE_and ?_
  | with_reducible refine' dE_or ?_
  | with_reducible refine' dE_not ?_
  | with_reducible refine' dE_sl ?_
  | with_reducible refine' dO_none ?_
  | with_reducible refine' dO_some ?_
  | with_reducible refine' dA_cons ?_
  | with_reducible refine' dA_nil ?_
  | with_reducible refine' dT_B ?_
  | with_reducible refine' dT_test ?_
  | with_reducible refine' dT_and ?_
  | with_reducible refine' dT_or ?_
  | with_reducible refine' dT_not ?_
  | with_reducible refine' dT_yes ?_
  | with_reducible refine' dR_I0i ?_
  | with_reducible refine' dU_neg ?_
  | ((with_reducible refine' dR_ixT ?dv ?_); (case dv => rfl))
  | with_reducible refine' dS_seq ?_
  | with_reducible refine' dS_next ?_
  | with_reducible refine' dS_ret ?_
  | with_reducible refine' dS_drop ?_
  | with_reducible refine' dS_if ?_
  | with_reducible refine' dS_asg ?_
  | with_reducible refine' dS_par ?_
  | with_reducible refine' dG_name ?_
  | ((with_reducible refine' dG_tup ?dv ?_); (case dv => rfl); (dsimp only [List.map]))
  | with_reducible refine' dGs_cons ?_
  | with_reducible refine' dGs_nil ?_
  | with_reducible refine' dC_abs ?_
  | with_reducible refine' dC_max2 ?_
  | with_reducible refine' dC_min2 ?_
  | with_reducible refine' rtOf.of ?_
  | with_reducible refine' ex_cmp ?_
  | with_reducible refine' ex_bool ?_
  | with_reducible refine' ex_int ?_
  | with_reducible refine' ex_list ?_
  | with_reducible refine' ex_tup ?_
  | with_reducible refine' ex_d ?_
  | with_reducible refine' ex_m ?_
  | with_reducible refine' ex_par ?_
  | with_reducible refine' ex_rg1 ?_
  | with_reducible refine' ex_rg2 ?_
  | ((with_reducible refine' ex_dat ?dv ?dw ?_); (case dv => rfl); (case dw => exact Nat.le_of_ble_eq_true rfl))
  | ((fail_if_success (with_reducible show ∃ _, _)); (fail_if_success (with_reducible show _ ∧ _)); refine ⟨_, _, rfl, ?_⟩)
  | ((fail_if_success (with_reducible show ∃ _, _)); (fail_if_success (with_reducible show _ ∧ _)); refine ⟨_, rfl, ?_⟩)
  | fail)
local macro_rules | `(tactic| walk_at "d") => `(tactic| repeat' walk_at "d1")
local macro_rules | `(tactic| walk_at "e1") => `(tactic| first
  | ((with_reducible refine' dE_var ?dv ?_); (case dv => rfl))
  | with_reducible refine' dE_int ?_
  | with_reducible refine' dE_str ?_
  | with_reducible refine' dE_bl ?_
  | with_reducible refine' dE_non ?_
  | ((with_reducible refine' dE_nt ?dv ?_); (case dv => assumption))
  | with_reducible refine' dE_ref ?_
  | with_reducible refine' dE_op ?_
  | with_reducible refine' dE_un ?_
  | with_reducible refine' dE_cmp ?_
  | with_reducible refine' dE_isN ?_
  | with_reducible refine' dE_notN ?_
  | with_reducible refine' dE_call ?_
  | with_reducible refine' dE_cb ?_
  | with_reducible refine' dE_kw ?_
  | with_reducible refine' dE_tup ?_
  | with_reducible refine' dE_if ?_
  | with_reducible refine' dE_and ?_
  | with_reducible refine' dE_or ?_
  | with_reducible refine' dE_not ?_
  | with_reducible refine' dE_sl ?_
  | with_reducible refine' dO_none ?_
  | with_reducible refine' dO_some ?_
  | with_reducible refine' dA_cons ?_
  | with_reducible refine' dA_nil ?_
  | with_reducible refine' dT_B ?_
  | with_reducible refine' dT_test ?_
  | with_reducible refine' dT_and ?_
  | with_reducible refine' dT_or ?_
  | with_reducible refine' dT_not ?_
  | with_reducible refine' dT_yes ?_
  | with_reducible refine' dR_I0i ?_
  | with_reducible refine' dU_neg ?_
  | ((with_reducible refine' dR_ixT ?dv ?_); (case dv => rfl))
  | with_reducible refine' dS_next ?_
  | with_reducible refine' dS_ret ?_
  | with_reducible refine' dS_drop ?_
  | with_reducible refine' dS_if ?_
  | with_reducible refine' dS_asg ?_
  | with_reducible refine' dS_par ?_
  | with_reducible refine' dG_name ?_
  | ((with_reducible refine' dG_tup ?dv ?_); (case dv => rfl); (dsimp only [List.map]))
  | with_reducible refine' dGs_cons ?_
  | with_reducible refine' dGs_nil ?_
  | with_reducible refine' dC_abs ?_
  | with_reducible refine' dC_max2 ?_
  | with_reducible refine' dC_min2 ?_
  | with_reducible refine' rtOf.of ?_
  | with_reducible refine' ex_cmp ?_
  | with_reducible refine' ex_bool ?_
  | with_reducible refine' ex_int ?_
  | with_reducible refine' ex_list ?_
  | with_reducible refine' ex_tup ?_
  | with_reducible refine' ex_d ?_
  | with_reducible refine' ex_m ?_
  | with_reducible refine' ex_par ?_
  | with_reducible refine' ex_rg1 ?_
  | with_reducible refine' ex_rg2 ?_
  | ((with_reducible refine' ex_dat ?dv ?dw ?_); (case dv => rfl); (case dw => exact Nat.le_of_ble_eq_true rfl))
  | ((fail_if_success (with_reducible show ∃ _, _)); (fail_if_success (with_reducible show _ ∧ _)); refine ⟨_, _, rfl, ?_⟩)
  | ((fail_if_success (with_reducible show ∃ _, _)); (fail_if_success (with_reducible show _ ∧ _)); refine ⟨_, rfl, ?_⟩)
  | fail)
local macro_rules | `(tactic| walk_at "e") => `(tactic| repeat' walk_at "e1")

/-- data as the law makes it, n times spoilt: bounded -/
inductive Gn (n : Nat) : PyData → Prop
  | non : Gn n .none
  | bool (b : Bool) : Gn n (.bool b)
  | int (i : Int) : Sz (200 + n) i → Gn n (.int i)
  | str (x : Str) : x.length ≤ 2000 * 2 ^ n → (∀ c ∈ x.cps.toList, c < 128) → Gn n (.str x)
  | list (ds : List PyData) : ds.length ≤ 10 + n → (∀ d ∈ ds, Gn n d) → Gn n (.list ds)
  | tuple (ds : List PyData) : ds.length ≤ 10 + n → (∀ d ∈ ds, Gn n d) → Gn n (.tuple ds)
def Gd (d : PyData) : Prop := ∃ n, n ≤ 8 ∧ Gn n d ∧ d.depth ≤ 20
theorem depth_mem : ∀ {ds : List PyData} {d : PyData}, d ∈ ds → d.depth ≤ PyData.depthAll ds
  | e :: ds, d, h => by
    rw [PyData.depthAll]
    rcases List.mem_cons.mp h with rfl | h
    · omega
    · have := depth_mem h; omega
theorem ascii_lay {x : Str} (h : ∀ c ∈ x.cps.toList, c < 128) : PyData.canLay0 (.str x) = true := by
  rw [PyData.canLay0]
  show x.cps.all (fun c => decide (c < 0x110000)) = true
  rw [Array.all_eq_true_iff_forall_mem]
  intro c hc
  have := h c (Array.mem_toList_iff.mpr hc)
  exact decide_eq_true (by omega)
theorem Gd.str' {x : Str} (h : Gd (.str x)) : x.length ≤ 1000000 ∧ ∀ c ∈ x.cps.toList, PyData.canLay0 (.str ⟨#[c]⟩) = true := by
  obtain ⟨n, hn, h, _⟩ := h
  cases h with
  | str _ h1 h2 =>
    refine ⟨?_, fun c hc => ?_⟩
    · have : 2 ^ n ≤ 2 ^ 8 := Nat.pow_le_pow_right (by decide) hn
      omega
    · refine ascii_lay fun k hk => ?_
      obtain rfl : k = c := List.mem_singleton.mp hk
      exact h2 k hc
theorem Gd.tup' {ds : List PyData} (h : Gd (.tuple ds)) : ds.length ≤ 1000 ∧ ∀ d ∈ ds, Gd d := by
  obtain ⟨n, hn, h, hd⟩ := h
  rw [PyData.depth] at hd
  cases h with
  | tuple _ h1 h2 => exact ⟨by omega, fun d hm => ⟨n, hn, h2 d hm, by have := depth_mem hm; omega⟩⟩
theorem Gd.name {d : PyData} (h : Gd d) : ∀ x, d = .str x → x.length ≤ 1000000 := fun x e => by subst e; exact h.str'.1
theorem Gd.lname {d : PyData} (h : Gd d) : ∀ x, d = .str x → x.length ≤ 1000000 ∧ ∀ c ∈ x.cps.toList, PyData.canLay0 (.str ⟨#[c]⟩) = true := fun x e => by subst e; exact h.str'
theorem Gd.len {d : PyData} (h : Gd d) : ∀ ds, d = .tuple ds → ds.length ≤ 1000000 := fun ds e => by subst e; have := h.tup'.1; omega
def ropeB : PyData → Bool
  | .tuple [n, a, b, c] => nameB n && (inB 0 1000 a && (inB 1 100 b && inB 1 1000000 c))
  | _ => false
theorem rope_len : ∀ {ds : List PyData}, ds.length ≠ 4 → ropeB (.tuple ds) = false
  | [], _ => rfl
  | [_], _ => rfl
  | [_, _], _ => rfl
  | [_, _, _], _ => rfl
  | [_, _, _, _], h => absurd rfl h
  | _ :: _ :: _ :: _ :: _ :: _, _ => rfl
section
variable {P : Program} {w : World} {K : PySem.W.Frag} {mg : Str → Option Value} {base : Heap} {f : Addr} {fd : FuncData}
def S_isload : SpD := fun rs M P => ∃ d : PyData, rs = [.d d] ∧ Gd d ∧ P (.d (.bool (fracB d))) M
def S_isrope : SpD := fun rs M P => ∃ d : PyData, rs = [.d d] ∧ Gd d ∧ P (.d (.bool (ropeB d))) M
abbrev s_is_rope : Stmt := topS 18
theorem sc_is_rope : FnScope ["thing", "name", "slack", "stiff", "strong"] ["thing"] (defScope s_is_rope) := ⟨rfl, rfl, rfl, by decide +kernel, rfl, by decide +kernel, by decide +kernel⟩
theorem ok_is_rope (C : Cst mg) (T : Txt mg) (F : Fun K "is_rope" "is_rope" s_is_rope f fd) (c_is_name : Has P w K mg base 1 "is_name" ["thing"] S_name) (c_is_within : Has P w K mg base 2 "is_within" ["thing", "least", "most"] S_inB) : FnOk P w K mg base CX0 3 f fd ["thing"] (spOf K S_isrope) := by
  refine ok_of F sc_is_rope (fun rs M P h => by obtain ⟨a, rfl, _⟩ := h; rfl) fun cdv A outer s H E hr => ⟨_, (pss_cons (ps_if (PW.pt (pw_or (pt_not (pt_val (pe_callB (kcall_isi K) (by rfl) T.isinstance (by decide +kernel) (pa_cons (pv 0) (pa_cons (pe_bltn (v := .ty "tuple") (by rfl) T.tuple (by decide +kernel) rfl) pa_nil))))) (pw_or1 (pt_cmp (pc_neI (pe_callB (kcall_len K) (by rfl) T.len (by decide +kernel) (pa_cons (pv 0) pa_nil)) pe_int))))) (pss_one (ps_ret pe_bl)) pss_nil)
      (pss_cons (ps_asg (pv 0) (kpg_tup K (n := 4) rfl (pgs_cons (pg_name (i := 1) sc_is_rope.nd rfl (Or.inl rfl)) (pgs_cons (pg_name (i := 2) sc_is_rope.nd rfl (Or.inl rfl)) (pgs_cons (pg_name (i := 3) sc_is_rope.nd rfl (Or.inl rfl)) (pgs_cons (pg_name (i := 4) sc_is_rope.nd rfl (Or.inl rfl)) pgs_nil))))))
      (pss_cons (ps_if (PW.pt (pw_or (pt_not (pt_val (pe_callH' c_is_name (hr.mono (by first | decide | omega)) rfl (pa_cons (pv 1) pa_nil)))) (pw_or1 (pt_not (pt_val (pe_callH' c_is_within (hr.mono (by first | decide | omega)) rfl (pa_cons (pv 2) (pa_cons pe_int (pa_cons (pe_globI rfl C.c_MOST_SLACK) pa_nil))))))))) (pss_one (ps_ret pe_bl)) pss_nil)
      (pss_one (ps_ret (pe_and (pe_callH' c_is_within (hr.mono (by first | decide | omega)) rfl (pa_cons (pv 3) (pa_cons pe_int (pa_cons (pe_globI rfl C.c_MOST_STIFF) pa_nil)))) (pe_one (pe_callH' c_is_within (hr.mono (by first | decide | omega)) rfl (pa_cons (pv 4) (pa_cons pe_int (pa_cons (pe_globI rfl C.c_MOST_STRONG) pa_nil))))))))))), fun rs M P h => ?_⟩
  obtain ⟨d, rfl, hd, p⟩ := h
  walk_at "d"
  refine dE_ty ?_
  walk_at "d"
  refine dC_isi (kit_tup d) ?_
  walk_at "d"
  cases d with
  | tuple ds =>
    refine ifF rfl ?_
    walk_at "d"
    refine dC_len (ds := ds) (.inr (.inl rfl)) ?_
    walk_at "d"
    by_cases hl : ds.length = 4
    · match ds, hl with
      | [n, a, b, c], _ =>
        have p' : P (.d (.bool (nameB n && (inB 0 1000 a && (inB 1 100 b && inB 1 1000000 c))))) M := p
        have hn : Gd n := hd.tup'.2 n List.mem_cons_self
        refine ifF (show (!decide (((4 : Nat) : Int) = 4)) = false by decide) ?_
        walk_at "d"
        refine ⟨hn.name, ?_⟩
        walk_at "d"
        refine ifB (fun h1 => ?_) (fun h1 => ?_)
        · refine ifT rfl ?_
          walk_at "d"
          rw [show nameB n = false by simpa using h1, Bool.false_and] at p'
          exact p'
        · rw [show nameB n = true by simpa using h1, Bool.true_and] at p'
          walk_at "d"
          refine ⟨a, 0, 1000, rfl, ?_⟩
          walk_at "d"
          refine ifB (fun h2 => ?_) (fun h2 => ?_)
          · walk_at "d"
            rw [show inB 0 1000 a = false by simpa using h2, Bool.false_and] at p'
            exact p'
          · rw [show inB 0 1000 a = true by simpa using h2, Bool.true_and] at p'
            walk_at "d"
            refine ⟨b, 1, 100, rfl, ?_⟩
            walk_at "d"
            refine ifB (fun h3 => ?_) (fun h3 => ?_)
            · rw [h3, Bool.true_and] at p'
              walk_at "d"
              exact ⟨c, 1, 1000000, rfl, rtOf.of p'⟩
            · rw [h3, Bool.false_and] at p'
              exact rtOf.of p'
    · refine ifT (by rw [decide_eq_false (by omega)]; rfl) ?_
      walk_at "d"
      rw [rope_len hl] at p
      exact p
  | _ =>
    refine ifT rfl ?_
    refine ifT rfl ?_
    walk_at "d"
    exact p
end
end K2

namespace K2
open PySem L2 Sd Ma
local macro_rules | `(tactic| walk_at "d1") => `(tactic| first
  | ((with_reducible refine' dE_var ?dv ?_); (case dv => rfl))
  | with_reducible refine' dE_int ?_
  | with_reducible refine' dE_str ?_
  | with_reducible refine' dE_bl ?_
  | with_reducible refine' dE_non ?_
  | ((with_reducible refine' dE_nt ?dv ?_); (case dv => assumption))
  | with_reducible refine' dE_ref ?_
  | with_reducible refine' dE_op ?_
  | with_reducible refine' dE_un ?_
  | with_reducible refine' dE_cmp ?_
  | with_reducible refine' dE_isN ?_
  | with_reducible refine' dE_notN ?_
  | with_reducible refine' dE_call ?_
  | with_reducible refine' dE_cb ?_
  | with_reducible refine' dE_kw ?_
  | with_reducible refine' dE_tup ?_
  | with_reducible refine' dE_if ?_
  | with_reducible refine' dE_and ?_
  | with_reducible refine' dE_or ?_
  | with_reducible refine' dE_not ?_
  | with_reducible refine' dE_sl ?_
  | with_reducible refine' dO_none ?_
  | with_reducible refine' dO_some ?_
  | with_reducible refine' dA_cons ?_
  | with_reducible refine' dA_nil ?_
  | with_reducible refine' dT_B ?_
  | with_reducible refine' dT_test ?_
  | with_reducible refine' dT_and ?_
  | with_reducible refine' dT_or ?_
  | with_reducible refine' dT_not ?_
  | with_reducible refine' dT_yes ?_
  | with_reducible refine' dR_I0i ?_
  | with_reducible refine' dU_neg ?_
  | ((with_reducible refine' dR_ixT ?dv ?_); (case dv => rfl))
  | with_reducible refine' dS_seq ?_
  | with_reducible refine' dS_next ?_
  | with_reducible refine' dS_ret ?_
  | with_reducible refine' dS_drop ?_
  | with_reducible refine' dS_if ?_
  | with_reducible refine' dS_asg ?_
  | with_reducible refine' dS_par ?_
  | with_reducible refine' dG_name ?_
  | ((with_reducible refine' dG_tup ?dv ?_); (case dv => rfl); (dsimp only [List.map]))
  | with_reducible refine' dGs_cons ?_
  | with_reducible refine' dGs_nil ?_
  | with_reducible refine' dC_abs ?_
  | with_reducible refine' dC_max2 ?_
  | with_reducible refine' dC_min2 ?_
  | with_reducible refine' rtOf.of ?_
  | with_reducible refine' ex_cmp ?_
  | with_reducible refine' ex_bool ?_
  | with_reducible refine' ex_int ?_
  | with_reducible refine' ex_list ?_
  | with_reducible refine' ex_tup ?_
  | with_reducible refine' ex_d ?_
  | with_reducible refine' ex_m ?_
  | with_reducible refine' ex_par ?_
  | with_reducible refine' ex_rg1 ?_
  | with_reducible refine' ex_rg2 ?_
  | ((with_reducible refine' ex_dat ?dv ?dw ?_); (case dv => rfl); (case dw => exact Nat.le_of_ble_eq_true rfl))
  | ((fail_if_success (with_reducible show ∃ _, _)); (fail_if_success (with_reducible show _ ∧ _)); refine ⟨_, _, rfl, ?_⟩)
  | ((fail_if_success (with_reducible show ∃ _, _)); (fail_if_success (with_reducible show _ ∧ _)); refine ⟨_, rfl, ?_⟩)
  | fail)
local macro_rules | `(tactic| walk_at "d") => `(tactic| repeat' walk_at "d1")
local macro_rules | `(tactic| walk_at "e1") => `(tactic| first
  | ((with_reducible refine' dE_var ?dv ?_); (case dv => rfl))
  | with_reducible refine' dE_int ?_
  | with_reducible refine' dE_str ?_
  | with_reducible refine' dE_bl ?_
  | with_reducible refine' dE_non ?_
  | ((with_reducible refine' dE_nt ?dv ?_); (case dv => assumption))
  | with_reducible refine' dE_ref ?_
  | with_reducible refine' dE_op ?_
  | with_reducible refine' dE_un ?_
  | with_reducible refine' dE_cmp ?_
  | with_reducible refine' dE_isN ?_
  | with_reducible refine' dE_notN ?_
  | with_reducible refine' dE_call ?_
  | with_reducible refine' dE_cb ?_
  | with_reducible refine' dE_kw ?_
  | with_reducible refine' dE_tup ?_
  | with_reducible refine' dE_if ?_
  | with_reducible refine' dE_and ?_
  | with_reducible refine' dE_or ?_
  | with_reducible refine' dE_not ?_
  | with_reducible refine' dE_sl ?_
  | with_reducible refine' dO_none ?_
  | with_reducible refine' dO_some ?_
  | with_reducible refine' dA_cons ?_
  | with_reducible refine' dA_nil ?_
  | with_reducible refine' dT_B ?_
  | with_reducible refine' dT_test ?_
  | with_reducible refine' dT_and ?_
  | with_reducible refine' dT_or ?_
  | with_reducible refine' dT_not ?_
  | with_reducible refine' dT_yes ?_
  | with_reducible refine' dR_I0i ?_
  | with_reducible refine' dU_neg ?_
  | ((with_reducible refine' dR_ixT ?dv ?_); (case dv => rfl))
  | with_reducible refine' dS_next ?_
  | with_reducible refine' dS_ret ?_
  | with_reducible refine' dS_drop ?_
  | with_reducible refine' dS_if ?_
  | with_reducible refine' dS_asg ?_
  | with_reducible refine' dS_par ?_
  | with_reducible refine' dG_name ?_
  | ((with_reducible refine' dG_tup ?dv ?_); (case dv => rfl); (dsimp only [List.map]))
  | with_reducible refine' dGs_cons ?_
  | with_reducible refine' dGs_nil ?_
  | with_reducible refine' dC_abs ?_
  | with_reducible refine' dC_max2 ?_
  | with_reducible refine' dC_min2 ?_
  | with_reducible refine' rtOf.of ?_
  | with_reducible refine' ex_cmp ?_
  | with_reducible refine' ex_bool ?_
  | with_reducible refine' ex_int ?_
  | with_reducible refine' ex_list ?_
  | with_reducible refine' ex_tup ?_
  | with_reducible refine' ex_d ?_
  | with_reducible refine' ex_m ?_
  | with_reducible refine' ex_par ?_
  | with_reducible refine' ex_rg1 ?_
  | with_reducible refine' ex_rg2 ?_
  | ((with_reducible refine' ex_dat ?dv ?dw ?_); (case dv => rfl); (case dw => exact Nat.le_of_ble_eq_true rfl))
  | ((fail_if_success (with_reducible show ∃ _, _)); (fail_if_success (with_reducible show _ ∧ _)); refine ⟨_, _, rfl, ?_⟩)
  | ((fail_if_success (with_reducible show ∃ _, _)); (fail_if_success (with_reducible show _ ∧ _)); refine ⟨_, rfl, ?_⟩)
  | fail)
local macro_rules | `(tactic| walk_at "e") => `(tactic| repeat' walk_at "e1")

theorem lay_all : ∀ {ds : List PyData}, (∀ d ∈ ds, d.canLay0 = true) → PyData.canLayAll0 ds = true
  | [], _ => rfl
  | d :: ds, h => by rw [PyData.canLayAll0, h d List.mem_cons_self, lay_all fun d hd => h d (List.mem_cons_of_mem _ hd)]; rfl
theorem Gn.lay {n : Nat} {d : PyData} (h : Gn n d) : d.canLay0 = true := by
  induction h with
  | non => rfl
  | bool b => rfl
  | int i _ => rfl
  | str x _ h => exact ascii_lay h
  | list ds _ _ ih => rw [PyData.canLay0]; exact lay_all ih
  | tuple ds _ _ ih => rw [PyData.canLay0]; exact lay_all ih
theorem Gd.shp {d : PyData} (h : Gd d) : Shp 20 d := by
  obtain ⟨n, _, h1, h2⟩ := h
  exact ⟨h1.lay, h2⟩
theorem fr_eqv1 {x y : Q} : PyData.eqv (fr x) (fr y) = decide (x = y) := by
  show (PyData.eqv (.int x.1) (.int y.1) && (PyData.eqv (.int x.2) (.int y.2) && true)) = _
  rw [Bool.and_true, Bool.eq_iff_iff, Bool.and_eq_true, decide_eq_true_iff]
  show (decide (x.1 = y.1) = true ∧ decide (x.2 = y.2) = true) ↔ _
  rw [decide_eq_true_iff, decide_eq_true_iff, Prod.ext_iff]
theorem low_self {t b : Int} (ht : 0 ≤ t) (hb : 0 < b) : (low t b = (t, b)) ↔ Int.gcd t b = 1 := by
  have hr := low_red ht hb
  constructor
  · intro e
    rw [e] at hr
    exact hr.co
  · intro e
    unfold low
    rw [e]
    simp
section
variable {P : Program} {w : World} {K : PySem.W.Frag} {mg : Str → Option Value} {base : Heap} {f : Addr} {fd : FuncData}
end
end K2

namespace K2
open PySem L2 Sd Ma
local macro_rules | `(tactic| walk_at "d1") => `(tactic| first
  | ((with_reducible refine' dE_var ?dv ?_); (case dv => rfl))
  | with_reducible refine' dE_int ?_
  | with_reducible refine' dE_str ?_
  | with_reducible refine' dE_bl ?_
  | with_reducible refine' dE_non ?_
  | ((with_reducible refine' dE_nt ?dv ?_); (case dv => assumption))
  | with_reducible refine' dE_ref ?_
  | with_reducible refine' dE_op ?_
  | with_reducible refine' dE_un ?_
  | with_reducible refine' dE_cmp ?_
  | with_reducible refine' dE_isN ?_
  | with_reducible refine' dE_notN ?_
  | with_reducible refine' dE_call ?_
  | with_reducible refine' dE_cb ?_
  | with_reducible refine' dE_kw ?_
  | with_reducible refine' dE_tup ?_
  | with_reducible refine' dE_if ?_
  | with_reducible refine' dE_and ?_
  | with_reducible refine' dE_or ?_
  | with_reducible refine' dE_not ?_
  | with_reducible refine' dE_sl ?_
  | with_reducible refine' dO_none ?_
  | with_reducible refine' dO_some ?_
  | with_reducible refine' dA_cons ?_
  | with_reducible refine' dA_nil ?_
  | with_reducible refine' dT_B ?_
  | with_reducible refine' dT_test ?_
  | with_reducible refine' dT_and ?_
  | with_reducible refine' dT_or ?_
  | with_reducible refine' dT_not ?_
  | with_reducible refine' dT_yes ?_
  | with_reducible refine' dR_I0i ?_
  | with_reducible refine' dU_neg ?_
  | ((with_reducible refine' dR_ixT ?dv ?_); (case dv => rfl))
  | with_reducible refine' dS_seq ?_
  | with_reducible refine' dS_next ?_
  | with_reducible refine' dS_ret ?_
  | with_reducible refine' dS_drop ?_
  | with_reducible refine' dS_if ?_
  | with_reducible refine' dS_asg ?_
  | with_reducible refine' dS_par ?_
  | with_reducible refine' dG_name ?_
  | ((with_reducible refine' dG_tup ?dv ?_); (case dv => rfl); (dsimp only [List.map]))
  | with_reducible refine' dGs_cons ?_
  | with_reducible refine' dGs_nil ?_
  | with_reducible refine' dC_abs ?_
  | with_reducible refine' dC_max2 ?_
  | with_reducible refine' dC_min2 ?_
  | with_reducible refine' rtOf.of ?_
  | with_reducible refine' ex_cmp ?_
  | with_reducible refine' ex_bool ?_
  | with_reducible refine' ex_int ?_
  | with_reducible refine' ex_list ?_
  | with_reducible refine' ex_tup ?_
  | with_reducible refine' ex_d ?_
  | with_reducible refine' ex_m ?_
  | with_reducible refine' ex_par ?_
  | with_reducible refine' ex_rg1 ?_
  | with_reducible refine' ex_rg2 ?_
  | ((with_reducible refine' ex_dat ?dv ?dw ?_); (case dv => rfl); (case dw => exact Nat.le_of_ble_eq_true rfl))
  | ((fail_if_success (with_reducible show ∃ _, _)); (fail_if_success (with_reducible show _ ∧ _)); refine ⟨_, _, rfl, ?_⟩)
  | ((fail_if_success (with_reducible show ∃ _, _)); (fail_if_success (with_reducible show _ ∧ _)); refine ⟨_, rfl, ?_⟩)
  | fail)
local macro_rules | `(tactic| walk_at "d") => `(tactic| repeat' walk_at "d1")
local macro_rules | `(tactic| walk_at "e1") => `(tactic| first
  | ((with_reducible refine' dE_var ?dv ?_); (case dv => rfl))
  | with_reducible refine' dE_int ?_
  | with_reducible refine' dE_str ?_
  | with_reducible refine' dE_bl ?_
  | with_reducible refine' dE_non ?_
  | ((with_reducible refine' dE_nt ?dv ?_); (case dv => assumption))
  | with_reducible refine' dE_ref ?_
  | with_reducible refine' dE_op ?_
  | with_reducible refine' dE_un ?_
  | with_reducible refine' dE_cmp ?_
  | with_reducible refine' dE_isN ?_
  | with_reducible refine' dE_notN ?_
  | with_reducible refine' dE_call ?_
  | with_reducible refine' dE_cb ?_
  | with_reducible refine' dE_kw ?_
  | with_reducible refine' dE_tup ?_
  | with_reducible refine' dE_if ?_
  | with_reducible refine' dE_and ?_
  | with_reducible refine' dE_or ?_
  | with_reducible refine' dE_not ?_
  | with_reducible refine' dE_sl ?_
  | with_reducible refine' dO_none ?_
  | with_reducible refine' dO_some ?_
  | with_reducible refine' dA_cons ?_
  | with_reducible refine' dA_nil ?_
  | with_reducible refine' dT_B ?_
  | with_reducible refine' dT_test ?_
  | with_reducible refine' dT_and ?_
  | with_reducible refine' dT_or ?_
  | with_reducible refine' dT_not ?_
  | with_reducible refine' dT_yes ?_
  | with_reducible refine' dR_I0i ?_
  | with_reducible refine' dU_neg ?_
  | ((with_reducible refine' dR_ixT ?dv ?_); (case dv => rfl))
  | with_reducible refine' dS_next ?_
  | with_reducible refine' dS_ret ?_
  | with_reducible refine' dS_drop ?_
  | with_reducible refine' dS_if ?_
  | with_reducible refine' dS_asg ?_
  | with_reducible refine' dS_par ?_
  | with_reducible refine' dG_name ?_
  | ((with_reducible refine' dG_tup ?dv ?_); (case dv => rfl); (dsimp only [List.map]))
  | with_reducible refine' dGs_cons ?_
  | with_reducible refine' dGs_nil ?_
  | with_reducible refine' dC_abs ?_
  | with_reducible refine' dC_max2 ?_
  | with_reducible refine' dC_min2 ?_
  | with_reducible refine' rtOf.of ?_
  | with_reducible refine' ex_cmp ?_
  | with_reducible refine' ex_bool ?_
  | with_reducible refine' ex_int ?_
  | with_reducible refine' ex_list ?_
  | with_reducible refine' ex_tup ?_
  | with_reducible refine' ex_d ?_
  | with_reducible refine' ex_m ?_
  | with_reducible refine' ex_par ?_
  | with_reducible refine' ex_rg1 ?_
  | with_reducible refine' ex_rg2 ?_
  | ((with_reducible refine' ex_dat ?dv ?dw ?_); (case dv => rfl); (case dw => exact Nat.le_of_ble_eq_true rfl))
  | ((fail_if_success (with_reducible show ∃ _, _)); (fail_if_success (with_reducible show _ ∧ _)); refine ⟨_, _, rfl, ?_⟩)
  | ((fail_if_success (with_reducible show ∃ _, _)); (fail_if_success (with_reducible show _ ∧ _)); refine ⟨_, rfl, ?_⟩)
  | fail)
local macro_rules | `(tactic| walk_at "e") => `(tactic| repeat' walk_at "e1")

def ltS (x y : Str) : Bool := decide (x.cps.toList < y.cps.toList)
def leS (x y : Str) : Bool := PySem.W.dataLe false PyData.str x y
theorem leS_all : PySem.W.TotalLe leS := by
  have h := PySem.W.sortLe_total (α := Str) (PyProof.Rows.listOrd PyProof.Rows.itemOrd) false fun x => PySem.W.keyToks (.str x)
  exact ⟨h.trans, h.total⟩
theorem leS_iff (x y : Str) : leS x y = decide (x.cps.toList ≤ y.cps.toList) := congrFun (congrFun (PySem.W.dataLe_str (β := Str) id) x) y
theorem leS_anti {a b : Str} (h1 : leS a b = true) (h2 : leS b a = true) : a = b := by
  rw [leS_iff] at h1 h2
  exact PySem.W.str_of_cps (List.le_antisymm (of_decide_eq_true h1) (of_decide_eq_true h2))
theorem ltS_iff (x y : Str) : ltS x y = true ↔ leS x y = true ∧ x ≠ y := by
  unfold ltS
  rw [leS_iff, decide_eq_true_iff, decide_eq_true_iff]
  constructor
  · intro h
    refine ⟨List.le_of_lt h, fun e => ?_⟩
    subst e
    exact List.lt_irrefl _ h
  · rintro ⟨h1, h2⟩
    by_cases h : x.cps.toList < y.cps.toList
    · exact h
    · exact absurd (PySem.W.str_of_cps (List.le_antisymm h1 h)) h2
theorem sortX_sorted (ns : List Str) : (sortX ns).Pairwise fun a b => leS a b = true :=
  List.pairwise_mergeSort leS_all.trans (fun a b => by rcases leS_all.total a b with h | h <;> simp [h]) ns
/-- neighbours rise -/
def risB : List Str → Bool
  | [] => true
  | [_] => true
  | a :: b :: ns => ltS a b && risB (b :: ns)
theorem ris_pw : ∀ {ns : List Str}, risB ns = true ↔ ns.Pairwise fun a b => ltS a b = true
  | [] => ⟨fun _ => .nil, fun _ => rfl⟩
  | [a] => ⟨fun _ => List.pairwise_singleton _ _, fun _ => rfl⟩
  | a :: b :: ns => by
    rw [risB, Bool.and_eq_true, ris_pw (ns := b :: ns), List.pairwise_cons (l := b :: ns)]
    constructor
    · rintro ⟨h1, h2⟩
      refine ⟨fun c hc => ?_, h2⟩
      rcases List.mem_cons.mp hc with rfl | hc
      · exact h1
      · have h3 := (List.pairwise_cons.mp h2).1 c hc
        rw [ltS, decide_eq_true_iff] at h1 h3 ⊢
        exact List.lt_trans h1 h3
    · rintro ⟨h1, h2⟩
      exact ⟨h1 b List.mem_cons_self, h2⟩
theorem ris_sort {ns ys : List Str} (nd : ys.Nodup) (hm : ∀ x, x ∈ ys ↔ x ∈ ns) : ns = sortX ys ↔ risB ns = true := by
  rw [ris_pw]
  have hp : (sortX ys).Perm ys := List.mergeSort_perm ys _
  constructor
  · intro e
    have h1 := sortX_sorted ys
    have h2 : (sortX ys).Nodup := hp.nodup_iff.mpr nd
    rw [← e] at h1 h2
    have := h1.and h2
    exact this.imp fun h => (ltS_iff _ _).mpr h
  · intro h
    have h1 : ns.Pairwise fun a b => leS a b = true := h.imp fun h => ((ltS_iff _ _).mp h).1
    have h2 : ns.Nodup := h.imp fun h => ((ltS_iff _ _).mp h).2
    exact List.Perm.eq_of_pairwise (fun x y _ _ h1 h2 => leS_anti h1 h2) h1 (sortX_sorted ys) (((List.perm_ext_iff_of_nodup nd h2).mpr hm).symm.trans hp.symm)
theorem strs_eqv : ∀ xs ys : List Str, PyData.eqv (.list (xs.map .str)) (.list (ys.map .str)) = decide (xs = ys)
  | [], [] => rfl
  | [], _ :: _ => rfl
  | _ :: _, [] => rfl
  | x :: xs, y :: ys => by
    have ih := strs_eqv xs ys
    show ((x == y) && PyData.eqvAll (xs.map .str) (ys.map .str)) = _
    rw [show PyData.eqvAll (xs.map .str) (ys.map .str) = decide (xs = ys) from ih, Bool.eq_iff_iff, Bool.and_eq_true, beq_iff_eq, decide_eq_true_iff, decide_eq_true_iff, List.cons.injEq]
def nmOf : PyData → Str
  | .tuple (.str x :: _) => x
  | _ => ""
def bunB : PyData → Bool
  | .tuple ds => decide (1 ≤ ds.length) && (decide (ds.length ≤ 6) && (ds.all ropeB && risB (ds.map nmOf)))
  | _ => false
theorem rope_is {d : PyData} (h : ropeB d = true) : ∃ x a b c, d = .tuple [.str x, a, b, c] ∧ nmOf d = x := by
  unfold ropeB at h
  split at h
  · rename_i n a b c
    have hn := (Bool.and_eq_true _ _ ▸ h : nameB n = true ∧ _).1
    cases n with
    | str x => exact ⟨x, a, b, c, rfl, rfl⟩
    | _ => cases hn
  · cases h
theorem ris_zip : ∀ ns : List Str, risB ns = ((List.zip ns (ns.drop 1)).map fun p => ltS p.1 p.2).all id
  | [] => rfl
  | [_] => rfl
  | a :: b :: ns => by
    have := ris_zip (b :: ns)
    rw [risB, this]
    rfl
theorem eqv_bad : ∀ ds : List PyData, PyData.eqv (.list (ds.filter fun d => !ropeB d)) (.list []) = ds.all ropeB
  | [] => rfl
  | d :: ds => by
    rw [List.filter_cons, List.all_cons]
    cases k : ropeB d with
    | true => simpa using eqv_bad ds
    | false => rfl
section
variable {P : Program} {w : World} {K : PySem.W.Frag} {mg : Str → Option Value} {base : Heap} {f : Addr} {fd : FuncData}
def S_isbun : SpD := fun rs M P => ∃ d : PyData, rs = [.d d] ∧ Gd d ∧ P (.d (.bool (bunB d))) M
abbrev s_is_bundle : Stmt := topS 15
theorem sc_is_bundle : FnScope ["thing", "names", "part", "rope", "name", "behind"] ["thing"] (defScope s_is_bundle) := ⟨rfl, rfl, rfl, by decide +kernel, rfl, by decide +kernel, by decide +kernel⟩
theorem ok_is_bundle (C : Cst mg) (T : Txt mg) (F : Fun K "is_bundle" "is_bundle" s_is_bundle f fd) (c_is_rope : Has P w K mg base 3 "is_rope" ["thing"] S_isrope) : FnOk P w K mg base CX0 4 f fd ["thing"] (spOf K S_isbun) := by
  refine ok_of F sc_is_bundle (fun rs M P h => by obtain ⟨a, rfl, _⟩ := h; rfl) fun cdv A outer s H E hr => ⟨_, (pss_cons (ps_if (PW.pt (pw_or (pt_not (pt_val (pe_callB (kcall_isi K) (by rfl) T.isinstance (by decide +kernel) (pa_cons (pv 0) (pa_cons (pe_bltn (v := .ty "tuple") (by rfl) T.tuple (by decide +kernel) rfl) pa_nil))))) (pw_or1 (pt_not (pt_chain op_le op_le pe_int (pe_callB (kcall_len K) (by rfl) T.len (by decide +kernel) (pa_cons (pv 0) pa_nil)) (pe_globI rfl C.c_MOST_ROPES)))))) (pss_one (ps_ret pe_bl)) pss_nil)
      (pss_cons (ps_if (pt_not (pt_val (pe_callB (kcr_all K) (by rfl) T.all (by decide +kernel) (pa_cons (pe_lc (own := [("part", 2)]) (by rfl) sc_is_bundle.nd (kpi_tup K (pv 0)) (blkOk_by (N := ["thing", "names", "part", "rope", "name", "behind"]) (sc := defScope s_is_bundle) (own := [("part", 2)]) (by decide +kernel)) (fun _ _ _ _ _ => (pg_name (i := 2) sc_is_bundle.nd rfl (Or.inl rfl))) (fun _ _ _ _ _ => pts_nil) (fun _ _ _ _ _ => (pe_callH' c_is_rope (hr.mono (by first | decide | omega)) rfl (pa_cons (pv 2) pa_nil)))) pa_nil)))) (pss_one (ps_ret pe_bl)) pss_nil)
      (pss_cons (ps_setLc (i := 1) (own := [("rope", 3)]) (by rfl) sc_is_bundle.nd rfl rfl (sw_true rfl rfl rfl (by decide +kernel)) (kpi_tup K (pv 0)) (blkOk_by (N := ["thing", "names", "part", "rope", "name", "behind"]) (sc := defScope s_is_bundle) (own := [("rope", 3)]) (by decide +kernel)) (fun _ _ _ _ _ => (pg_name (i := 3) sc_is_bundle.nd rfl (Or.inl rfl))) (fun _ _ _ _ _ => pts_nil) (fun _ _ _ _ _ => (pe_ix (kix_tup K) (pv 3) pe_int (fun _ _ => rfl))))
      (pss_one (ps_ret (pe_callB (kcr_all K) (by rfl) T.all (by decide +kernel) (pa_cons (pe_lc (own := [("name", 4), ("behind", 5)]) (by rfl) sc_is_bundle.nd (kpi_zip K (by rfl) T.zip (pa_cons (pv 1) (pa_cons (pe_slice (ksl_list K) (pv 1) (po_some pe_int) po_none) pa_nil))) (blkOk_by (N := ["thing", "names", "part", "rope", "name", "behind"]) (sc := defScope s_is_bundle) (own := [("name", 4), ("behind", 5)]) (by decide +kernel)) (fun _ _ _ _ _ => (kpg_tup K (n := 2) rfl (pgs_cons (pg_name (i := 4) sc_is_bundle.nd rfl (Or.inl rfl)) (pgs_cons (pg_name (i := 5) sc_is_bundle.nd rfl (Or.inl rfl)) pgs_nil)))) (fun _ _ _ _ _ => pts_nil) (fun _ _ _ _ _ => (pe_cmpR op_lt_str (pv 4) (pv 5) (by rfl)))) pa_nil))))))), fun rs M P h => ?_⟩
  obtain ⟨d, rfl, hd, p⟩ := h
  walk_at "d"
  refine dE_ty ?_
  walk_at "d"
  refine dC_isi (kit_tup d) ?_
  walk_at "d"
  cases d with
  | tuple ds =>
    have p' : P (.d (.bool (decide (1 ≤ ds.length) && (decide (ds.length ≤ 6) && (ds.all ropeB && risB (ds.map nmOf)))))) M := p
    refine ifF rfl ?_
    walk_at "d"
    refine dE_chain ?_
    walk_at "d"
    refine dC_len (ds := ds) (.inr (.inl rfl)) ?_
    walk_at "d"
    refine dR_I0b ?_
    walk_at "d"
    refine ifB (fun h => ?_) (fun h => ?_)
    · rw [show decide (1 ≤ ds.length) = true from decide_eq_true (by have := of_decide_eq_true h; omega), Bool.true_and] at p'
      walk_at "d"
      refine dR_I0b ?_
      walk_at "d"
      refine ifB (fun h2 => ?_) (fun h2 => ?_)
      · have h3 : decide ((ds.length : Int) ≤ 6) = false := by simpa using h2
        rw [show decide (ds.length ≤ 6) = false from decide_eq_false (by have := of_decide_eq_false h3; omega), Bool.false_and] at p'
        walk_at "d"
        exact p'
      · have h3 : decide ((ds.length : Int) ≤ 6) = true := by simpa using h2
        have hl6 : ds.length ≤ 6 := by have := of_decide_eq_true h3; omega
        rw [show decide (ds.length ≤ 6) = true from decide_eq_true hl6, Bool.true_and] at p'
        walk_at "d"
        refine dE_lcTm (enc := id) (out := fun d => .bool (ropeB d)) (xs := ds) ?_
        walk_at "d"
        refine ⟨by rw [List.map_id], rfl, by omega, fun x hx => ?_, .inl ?_⟩
        · walk_at "d"
          exact ⟨hd.tup'.2 x hx, rfl, rfl⟩
        walk_at "d"
        refine dC_all (bs := ds.map ropeB) (.inl (by rw [List.map_map]; rfl)) ?_
        walk_at "d"
        rw [show (ds.map ropeB).all id = ds.all ropeB by rw [List.all_map]; rfl]
        refine ifB (fun h4 => ?_) (fun h4 => ?_)
        · rw [show ds.all ropeB = false by simpa using h4, Bool.false_and] at p'
          walk_at "d"
          exact p'
        have hall : ds.all ropeB = true := by simpa using h4
        rw [hall, Bool.true_and] at p'
        rw [List.all_eq_true] at hall
        walk_at "d"
        refine dE_lcTm (enc := id) (out := fun d => .str (nmOf d)) (xs := ds) ?_
        walk_at "d"
        refine ⟨by rw [List.map_id], rfl, by omega, fun x hx => ?_, .inl ?_⟩
        · obtain ⟨y, a, b, c, rfl, e⟩ := rope_is (hall x hx)
          walk_at "d"
          refine dR_ixT (ds := [.str y, a, b, c]) rfl ?_
          exact ⟨rfl, rfl⟩
        rw [show (ds.map fun d => PyData.str (nmOf d)) = (ds.map nmOf).map .str by rw [List.map_map]; rfl]
        have hn6 : (ds.map nmOf).length ≤ 6 := by rw [List.length_map]; exact hl6
        generalize ds.map nmOf = ns at p' hn6
        walk_at "d"
        refine dE_lcZ (gw_name2 2 4 5 (by decide)) ?_
        walk_at "d"
        refine dU_slL (.inl rfl) ?_
        walk_at "d"
        refine ⟨ns.map .str, (ns.drop 1).map .str, ?_, by rw [List.length_map]; omega, fun i acc M' => M' = M ∧ acc = (((List.zip ns (ns.drop 1)).take i).map fun p => ltS p.1 p.2).map .bool, ⟨rfl, rfl⟩, fun i x y acc M' hx hy hI => ?_, fun acc M' hI => .inl ?_⟩
        · unfold cutD
          rw [show (1 : Int) = ((1 : Nat) : Int) from rfl, HT.sIx_nat, HT.sIx_none]
          cases ns with
          | nil => rfl
          | cons z ns =>
            rw [Nat.min_eq_left (by rw [List.length_map, List.length_cons]; omega), List.take_of_length_le (by rw [List.length_drop]; omega), List.map_drop]
        · obtain ⟨rfl, rfl⟩ := hI
          obtain ⟨a, ha, rfl⟩ := getElem?_map_some hx
          obtain ⟨b, hb, rfl⟩ := getElem?_map_some hy
          walk_at "d"
          refine ifT rfl ?_
          walk_at "d"
          refine dR_ss ?_
          refine ⟨_, rfl, rfl, ?_⟩
          have hz : (List.zip ns (ns.drop 1))[i]? = some (a, b) := by rw [List.getElem?_zip_eq_some]; exact ⟨ha, hb⟩
          rw [List.take_succ, hz, List.map_append, List.map_append]
          rfl
        · obtain ⟨rfl, rfl⟩ := hI
          rw [List.take_of_length_le (by rw [List.length_zip, List.length_map, List.length_map]; exact Nat.le_refl _)]
          walk_at "d"
          refine dC_all (.inl rfl) ?_
          rw [← ris_zip]
          exact rtOf.of p'
    · rw [show decide (1 ≤ ds.length) = false from decide_eq_false (by have := of_decide_eq_false h; omega), Bool.false_and] at p'
      walk_at "d"
      refine ifT rfl ?_
      walk_at "d"
      exact p'
  | _ =>
    refine ifT rfl ?_
    refine ifT rfl ?_
    walk_at "d"
    exact p
end
end K2

namespace K2
open PySem L2 Sd Ma
/-! ### so many times as great -/
def tmQ (k : Int) (q : Q) : Q := low (q.1 * k) q.2
theorem tmQ_red {k : Int} (hk : 0 < k) {q : Q} (h : Red q) : Red (tmQ k q) := low_red (Int.mul_nonneg h.p0 (Int.le_of_lt hk)) h.q0
theorem tmQ_eq {k : Int} {q : Q} (h : Red q) : q.1 * k * (tmQ k q).2 = (tmQ k q).1 * q.2 := low_eq h.q0
theorem tmQ_le {k : Int} (hk : 0 < k) {x y : Q} (hx : Red x) (hy : Red y) : leQ (tmQ k x) (tmQ k y) ↔ leQ x y := by
  have h1 := low_leq (q := tmQ k y) (Int.mul_nonneg hx.p0 (Int.le_of_lt hk)) hx.q0 (tmQ_red hk hy).q0
  have h2 := le_low (q := (x.1 * k, x.2)) (x := y) (Int.mul_nonneg hy.p0 (Int.le_of_lt hk)) hy.q0 hx.q0
  have h2' : x.1 * k * (tmQ k y).2 ≤ (tmQ k y).1 * x.2 ↔ x.1 * k * y.2 ≤ y.1 * k * x.2 := h2
  rw [show leQ (tmQ k x) (tmQ k y) ↔ x.1 * k * (tmQ k y).2 ≤ (tmQ k y).1 * x.2 from h1, h2']
  have e1 : x.1 * k * y.2 = x.1 * y.2 * k := by grind
  have e2 : y.1 * k * x.2 = y.1 * x.2 * k := by grind
  rw [e1, e2]
  exact ⟨fun h => Int.le_of_mul_le_mul_right h hk, fun h => Int.mul_le_mul_of_nonneg_right h (Int.le_of_lt hk)⟩
theorem tmQ_gt {k : Int} (hk : 0 < k) {x y : Q} (hx : Red x) (hy : Red y) : gtQ (tmQ k x) (tmQ k y) = gtQ x y := by
  have h := tmQ_le hk hx hy
  rw [← gt_le, ← gt_le] at h
  cases h1 : gtQ (tmQ k x) (tmQ k y) <;> cases h2 : gtQ x y <;> simp_all
theorem tmQ_lt {k : Int} (hk : 0 < k) {x y : Q} (hx : Red x) (hy : Red y) : ltQ (tmQ k x) (tmQ k y) ↔ ltQ x y := by
  rw [lt_not, lt_not, tmQ_le hk hy hx]
theorem tmQ_inj {k : Int} (hk : 0 < k) {x y : Q} (hx : Red x) (hy : Red y) (h : tmQ k x = tmQ k y) : x = y :=
  leQ_anti hx hy ((tmQ_le hk hx hy).mp (by rw [h]; exact leQ_refl _)) ((tmQ_le hk hy hx).mp (by rw [h]; exact leQ_refl _))
theorem tmQ_zero {k : Int} : tmQ k (0, 1) = (0, 1) := by
  unfold tmQ
  rw [Int.zero_mul]
  exact low_zero (by decide)
theorem tmQ_nought {k : Int} (hk : 0 < k) {q : Q} (h : Red q) : (tmQ k q).1 = 0 ↔ q.1 = 0 := by
  have e := tmQ_eq (k := k) h
  have hr := (tmQ_red hk h).q0
  constructor
  · intro h0
    rw [h0, Int.zero_mul] at e
    rcases Int.mul_eq_zero.mp e with h1 | h1
    · rcases Int.mul_eq_zero.mp h1 with h2 | h2
      · exact h2
      · omega
    · omega
  · intro h0
    rw [h0, Int.zero_mul, Int.zero_mul] at e
    rcases Int.mul_eq_zero.mp e.symm with h1 | h1
    · exact h1
    · have := h.q0; omega
theorem max_sc {u v p q : Int} (hp : 0 < p) (hq : 0 < q) (h : u * p = q * v) : max 0 u * p = q * max 0 v := by
  rcases Int.lt_or_le 0 u with h1 | h1
  · have hv : 0 < v := by
      rcases Int.lt_or_le 0 v with k | k
      · exact k
      · exfalso
        have a1 := Int.mul_pos h1 hp
        have a2 := Int.mul_nonneg (Int.le_of_lt hq) (show 0 ≤ -v by omega)
        rw [Int.mul_neg] at a2
        omega
    rw [show max 0 u = u by omega, show max 0 v = v by omega]
    exact h
  · have hv : v ≤ 0 := by
      rcases Int.lt_or_le 0 v with k | k
      · exfalso
        have a1 := Int.mul_pos hq k
        have a2 := Int.mul_nonneg (show 0 ≤ -u by omega) (Int.le_of_lt hp)
        rw [Int.neg_mul] at a2
        omega
      · exact k
    rw [show max 0 u = 0 by omega, show max 0 v = 0 by omega, Int.zero_mul, Int.mul_zero]
/-- a rope so many times as slack, as stiff, its name with a sign behind -/
def chg (s t : Int) (z : Str) (r : Rope) : Rope := ⟨r.n ++ z, r.a * s, r.b * t, r.c * s * t⟩
abbrev chgs (s t : Int) (z : Str) (ro : List Rope) : List Rope := ro.map (chg s t z)
theorem app_inj {x y z : Str} (h : x ++ z = y ++ z) : x = y := by
  have h' : (x ++ z).cps = (y ++ z).cps := by rw [h]
  have h2 : (x.cps ++ z.cps).toList = (y.cps ++ z.cps).toList := congrArg Array.toList h'
  rw [Array.toList_append, Array.toList_append] at h2
  exact PySem.W.str_of_cps (List.append_cancel_right h2)
section
variable {s t : Int} {z : Str} (hs : 0 < s) (ht : 0 < t)
include hs ht
theorem f1_chg {r : Rope} {x : Q} (hx : Red x) : f1 (tmQ s x) (pr (chg s t z r)) * x.2 = s * t * (tmQ s x).2 * f1 x (pr r) := by
  have e := tmQ_eq (k := s) hx
  have hy := (tmQ_red hs hx).q0
  generalize tmQ s x = y at *
  have key : max 0 (y.1 - r.a * s * y.2) * x.2 = s * y.2 * max 0 (x.1 - r.a * x.2) := max_sc hx.q0 (Int.mul_pos hs hy) (by grind)
  show r.b * t * max 0 (y.1 - r.a * s * y.2) * x.2 = s * t * y.2 * (r.b * max 0 (x.1 - r.a * x.2))
  rw [Int.mul_assoc (r.b * t), key]
  generalize max 0 (x.1 - r.a * x.2) = m
  grind
theorem F_chg {x : Q} (hx : Red x) : ∀ ro : List Rope, F (tmQ s x) ((chgs s t z ro).map pr) * x.2 = s * t * (tmQ s x).2 * F x (ro.map pr)
  | [] => by rw [show (chgs s t z []).map pr = [] from rfl, List.map_nil, F_nil, F_nil]; omega
  | r :: ro => by
    have h1 := f1_chg (z := z) hs ht (r := r) hx
    have h2 := F_chg hx ro
    rw [show (chgs s t z (r :: ro)).map pr = pr (chg s t z r) :: (chgs s t z ro).map pr from rfl, List.map_cons, F_cons, F_cons, Int.add_mul, Int.mul_add, h1, h2]
theorem nice_chg {ro : List Rope} (h : Nice ro) : Nice (chgs s t z ro) := by
  refine ⟨fun r hr => ?_, fun r hr => ?_, fun r hr => ?_, ?_⟩
  · obtain ⟨u, hu, rfl⟩ := List.mem_map.mp hr
    exact Int.mul_nonneg (h.a u hu) (Int.le_of_lt hs)
  · obtain ⟨u, hu, rfl⟩ := List.mem_map.mp hr
    exact Int.mul_pos (h.b u hu) ht
  · obtain ⟨u, hu, rfl⟩ := List.mem_map.mp hr
    exact Int.mul_pos (Int.mul_pos (h.c u hu) hs) ht
  · rw [List.map_map, show (Rope.n ∘ chg s t z) = (fun x : Str => x ++ z) ∘ Rope.n from rfl, ← List.map_map]
    exact (List.pairwise_map.mpr (List.Pairwise.imp (fun {a b} hab e => hab (app_inj e)) h.nd))
theorem sum_chg {x : Q} {ro : List Rope} (hx : Red x) (hp : PosB (ro.map pr)) : sumOf (chgs s t z ro) (tmQ s x) = tmQ (s * t) (sumOf ro x) := by
  have hF := F_chg (z := z) hs ht hx ro
  have hh : 0 < s * t := Int.mul_pos hs ht
  have hy := tmQ_red hs hx
  have n0 := F_nn (q := x) hp
  have hz := low_red n0 hx.q0
  have ez := low_eq (t := F x (ro.map pr)) hx.q0
  have ew := tmQ_eq (k := s * t) hz
  have hw := tmQ_red hh hz
  have n1 : 0 ≤ F (tmQ s x) ((chgs s t z ro).map pr) := by
    rcases Int.lt_or_le (F (tmQ s x) ((chgs s t z ro).map pr)) 0 with k | k
    · exfalso
      have a1 := Int.mul_pos (show 0 < -F (tmQ s x) ((chgs s t z ro).map pr) by omega) hx.q0
      have a2 := Int.mul_nonneg (Int.mul_nonneg (Int.le_of_lt hh) (Int.le_of_lt hy.q0)) n0
      rw [Int.neg_mul] at a1
      omega
    · exact k
  unfold sumOf
  refine low_unique n1 hy.q0 hw ?_
  generalize tmQ (s * t) (low (F x (ro.map pr)) x.2) = w at *
  generalize low (F x (ro.map pr)) x.2 = v at *
  generalize F (tmQ s x) ((chgs s t z ro).map pr) = G at *
  generalize F x (ro.map pr) = E at *
  generalize tmQ s x = y at *
  refine Int.eq_of_mul_eq_mul_right (Int.ne_of_gt (Int.mul_pos hx.q0 hz.q0)) ?_
  calc G * w.2 * (x.2 * v.2) = G * x.2 * w.2 * v.2 := by grind
    _ = s * t * y.2 * E * w.2 * v.2 := by rw [hF]
    _ = s * t * y.2 * w.2 * (E * v.2) := by grind
    _ = s * t * y.2 * w.2 * (v.1 * x.2) := by rw [ez]
    _ = v.1 * (s * t) * w.2 * y.2 * x.2 := by grind
    _ = w.1 * v.2 * y.2 * x.2 := by rw [ew]
    _ = w.1 * y.2 * (x.2 * v.2) := by grind
theorem pull_chg {r : Rope} {x : Q} (hb : 0 < r.b) (hx : Red x) : pullOf (chg s t z r) (tmQ s x) = tmQ (s * t) (pullOf r x) := by
  have h := sum_chg (z := z) hs ht (ro := [r]) hx (fun p hp => by rw [List.mem_singleton.mp hp]; exact hb)
  have e : ∀ (u : Rope) (q : Q), sumOf [u] q = low (f1 q (pr u)) q.2 := fun u q => by
    unfold sumOf
    rw [List.map_cons, List.map_nil, F_cons, F_nil, Int.add_zero]
  rw [show chgs s t z [r] = [chg s t z r] from rfl, e, e] at h
  rw [pull_low (Int.mul_pos hb ht) (tmQ_red hs hx).q0, pull_low hb hx.q0]
  exact h
theorem end_chg {r : Rope} (ha : 0 ≤ r.a) (hb : 0 < r.b) (hc : 0 < r.c) : endOf (chg s t z r) = tmQ s (endOf r) := by
  have n0 : 0 ≤ r.a * r.b + r.c := by have := Int.mul_nonneg ha (Int.le_of_lt hb); omega
  have hz := low_red n0 hb
  have ez := low_eq (t := r.a * r.b + r.c) hb
  have ew := tmQ_eq (k := s) hz
  have hw := tmQ_red hs hz
  show low (r.a * s * (r.b * t) + r.c * s * t) (r.b * t) = tmQ s (low (r.a * r.b + r.c) r.b)
  have e1 : r.a * s * (r.b * t) + r.c * s * t = (r.a * r.b + r.c) * (s * t) := by grind
  rw [e1]
  refine low_unique (Int.mul_nonneg n0 (Int.le_of_lt (Int.mul_pos hs ht))) (Int.mul_pos hb ht) hw ?_
  generalize tmQ s (low (r.a * r.b + r.c) r.b) = w at *
  generalize low (r.a * r.b + r.c) r.b = v at *
  refine Int.eq_of_mul_eq_mul_right (Int.ne_of_gt hz.q0) ?_
  calc (r.a * r.b + r.c) * (s * t) * w.2 * v.2 = (r.a * r.b + r.c) * v.2 * (s * t * w.2) := by grind
    _ = v.1 * r.b * (s * t * w.2) := by rw [ez]
    _ = v.1 * s * w.2 * (t * r.b) := by grind
    _ = w.1 * v.2 * (t * r.b) := by rw [ew]
    _ = w.1 * (r.b * t) * v.2 := by grind
theorem tm_chg {r : Rope} {x : Q} (ha : 0 ≤ r.a) (hb : 0 < r.b) (hc : 0 < r.c) (hx : Red x) : tooMuch (tmQ s x) (chg s t z r) = tooMuch x r := by
  have h1 := tm_end (r := chg s t z r) (Int.mul_nonneg ha (Int.le_of_lt hs)) (Int.mul_pos hb ht) (Int.mul_pos (Int.mul_pos hc hs) ht) (tmQ_red hs hx).q0
  have h2 := tm_end ha hb hc hx.q0
  rw [end_chg hs ht ha hb hc, tmQ_le hs hx (end_red ha hb hc), ← h2] at h1
  cases k1 : tooMuch (tmQ s x) (chg s t z r) <;> cases k2 : tooMuch x r <;> simp_all
theorem sunk_chg {ro : List Rope} {q : Q} (hn : Nice ro) (hq : Red q) : sunkOf (chgs s t z ro) (tmQ (s * t) q).1 (tmQ (s * t) q).2 = (sunkOf ro q.1 q.2).map (tmQ s) := by
  have hh : 0 < s * t := Int.mul_pos hs ht
  have hq' := tmQ_red hh hq
  by_cases h0 : q.1 = 0
  · have h1 := (tmQ_nought hh hq).mpr h0
    unfold sunkOf
    rw [if_pos h0, if_pos h1, Option.map_some, tmQ_zero]
  · have h1 : ¬ (tmQ (s * t) q).1 = 0 := fun e => h0 ((tmQ_nought hh hq).mp e)
    cases ro with
    | nil => rw [show chgs s t z [] = [] from rfl, sunk_none, sunk_none, if_neg h0, if_neg h1]; rfl
    | cons r rs =>
      have hn' := nice_chg (z := z) hs ht hn
      obtain ⟨x, e1, S1⟩ := sunk_sol (t := q.1) (b := q.2) (List.cons_ne_nil r rs) hn.pos (by have := hq.p0; omega) hq.q0
      obtain ⟨y, e2, S2⟩ := sunk_sol (t := (tmQ (s * t) q).1) (b := (tmQ (s * t) q).2) (show chgs s t z (r :: rs) ≠ [] from List.cons_ne_nil _ _) hn'.pos (by have := hq'.p0; omega) hq'.q0
      rw [e1, e2, Option.map_some]
      refine congrArg some (sol_unique hn'.pos.pb (by have := hq'.p0; omega) hq'.q0 S2 ⟨tmQ_red hs S1.toRed, ?_⟩)
      have hF := F_chg (z := z) hs ht S1.toRed (r :: rs)
      have eq := S1.eq
      have ek := tmQ_eq (k := s * t) hq
      have x0 := S1.q0
      generalize F (tmQ s x) ((chgs s t z (r :: rs)).map pr) = G at *
      generalize F x ((r :: rs).map pr) = E at *
      generalize tmQ s x = u at *
      generalize tmQ (s * t) q = p at *
      refine Int.eq_of_mul_eq_mul_right (Int.ne_of_gt (Int.mul_pos x0 hq.q0)) ?_
      calc G * p.2 * (x.2 * q.2) = G * x.2 * p.2 * q.2 := by grind
        _ = s * t * u.2 * E * p.2 * q.2 := by rw [hF]
        _ = s * t * u.2 * p.2 * (E * q.2) := by grind
        _ = s * t * u.2 * p.2 * (q.1 * x.2) := by rw [eq]
        _ = q.1 * (s * t) * p.2 * u.2 * x.2 := by grind
        _ = p.1 * q.2 * u.2 * x.2 := by rw [ek]
        _ = p.1 * u.2 * (x.2 * q.2) := by grind
end
/-! ### names -/
abbrev sgn (z : Str) (ns : List Str) : List Str := ns.map (· ++ z)
theorem has_sgn {z x : Str} : ∀ ns : List Str, (sgn z ns).contains (x ++ z) = ns.contains x
  | [] => rfl
  | n :: ns => by
    rw [show sgn z (n :: ns) = (n ++ z) :: sgn z ns from rfl, List.contains_cons, List.contains_cons, has_sgn ns]
    congr 1
    rw [Bool.eq_iff_iff, beq_iff_eq, beq_iff_eq]
    exact ⟨app_inj, fun h => by rw [h]⟩
theorem names_chg {s t : Int} {z : Str} (ro : List Rope) : (chgs s t z ro).map Rope.n = sgn z (ro.map Rope.n) := by
  rw [List.map_map, show sgn z (ro.map Rope.n) = ro.map ((fun x : Str => x ++ z) ∘ Rope.n) from List.map_map]
  rfl
theorem left_chg {s t : Int} {z : Str} {ro : List Rope} {ns : List Str} : leftOf (chgs s t z ro) (sgn z ns) = chgs s t z (leftOf ro ns) := by
  unfold leftOf
  rw [List.filter_map]
  congr 1
  refine List.filter_congr fun r _ => ?_
  show (!(sgn z ns).contains (r.n ++ z)) = !ns.contains r.n
  rw [has_sgn]
section
variable {s t : Int} {z : Str} (hs : 0 < s) (ht : 0 < t)
include hs ht
theorem gw_chg {ro : List Rope} {q : Q} (hn : Nice ro) (hq : Red q) : gwOf (chgs s t z ro) (tmQ (s * t) q) = sgn z (gwOf ro q) := by
  unfold gwOf
  rw [sunk_chg hs ht hn hq]
  cases e : sunkOf ro q.1 q.2 with
  | none => rfl
  | some x =>
    have hx := sunk_red hn.pos hq e
    show ((chgs s t z ro).filter (tooMuch (tmQ s x))).map Rope.n = sgn z ((ro.filter (tooMuch x)).map Rope.n)
    rw [List.filter_map, names_chg]
    congr 2
    refine List.filter_congr fun r hr => ?_
    exact tm_chg hs ht (hn.a r hr) (hn.b r hr) (hn.c r hr) hx
theorem waves_chg {q : Q} (hq : Red q) : ∀ (n : Nat) (ro : List Rope), ro.length ≤ n → Nice ro → wavesOf (chgs s t z ro) (tmQ (s * t) q) = (wavesOf ro q).map (sgn z)
  | 0, ro, h, _ => by
    have : ro = [] := List.length_eq_zero_iff.mp (by omega)
    subst this
    rw [show chgs s t z [] = [] from rfl, waves_end gw_nil, waves_end gw_nil]; rfl
  | n + 1, ro, h, hn => by
    have hg := gw_chg (z := z) hs ht hn hq
    by_cases h0 : gwOf ro q = []
    · rw [waves_end h0, waves_end (by rw [hg, h0]; rfl)]; rfl
    · rw [waves_step h0, waves_step (by rw [hg]; exact fun e => h0 (List.map_eq_nil_iff.mp e)), hg, left_chg, waves_chg hq n _ (by have := left_short h0 gw_sub; omega) (hn.sub (left_sub _ _))]
      rfl
theorem lasts_chg {ro : List Rope} {x : Q} (hn : Nice ro) (hx : Red x) : lasts (chgs s t z ro) (tmQ s x) = chgs s t z (lasts ro x) := by
  unfold lasts
  rw [List.filter_map]
  congr 1
  refine List.filter_congr fun r hr => ?_
  show (!gtQ (tmQ s x) (endOf (chg s t z r))) = !gtQ x (endOf r)
  rw [end_chg hs ht (hn.a r hr) (hn.b r hr) (hn.c r hr), tmQ_gt hs hx (end_red (hn.a r hr) (hn.b r hr) (hn.c r hr))]
theorem cap_chg {ro : List Rope} {x : Q} (hn : Nice ro) (hx : Red x) : capOf (chgs s t z ro) (tmQ s x) = tmQ (s * t) (capOf ro x) := by
  unfold capOf
  rw [lasts_chg hs ht hn hx]
  exact sum_chg hs ht hx (hn.sub (lasts_sub ro x)).pos.pb
omit ht in
theorem best_tm : ∀ (l : List Q) (m : Q), Red m → (∀ x ∈ l, Red x) → (l.map (tmQ s)).foldl (fun m x => if gtQ x m = true then x else m) (tmQ s m) = tmQ s (l.foldl (fun m x => if gtQ x m = true then x else m) m)
  | [], m, _, _ => rfl
  | x :: l, m, hm, h => by
    have hx := h x List.mem_cons_self
    rw [List.map_cons, List.foldl_cons, List.foldl_cons, tmQ_gt hs hx hm]
    by_cases hg : gtQ x m = true
    · rw [if_pos hg, if_pos hg]
      exact best_tm l x hx fun y hy => h y (List.mem_cons_of_mem _ hy)
    · rw [if_neg hg, if_neg hg]
      exact best_tm l m hm fun y hy => h y (List.mem_cons_of_mem _ hy)
omit ht in
theorem best_chg {l : List Q} (h : ∀ x ∈ l, Red x) : best (l.map (tmQ s)) = tmQ s (best l) := by
  have := best_tm hs l (0, 1) red01 h
  rw [tmQ_zero] at this
  exact this
theorem top_chg {ro : List Rope} (hn : Nice ro) : topOf (chgs s t z ro) = tmQ (s * t) (topOf ro) := by
  unfold topOf
  rw [← best_chg (Int.mul_pos hs ht) (top_reds hn), List.map_map, List.map_map]
  congr 1
  refine List.map_congr_left fun r hr => ?_
  show capOf (chgs s t z ro) (endOf (chg s t z r)) = tmQ (s * t) (capOf ro (endOf r))
  rw [end_chg hs ht (hn.a r hr) (hn.b r hr) (hn.c r hr), cap_chg hs ht hn (end_red (hn.a r hr) (hn.b r hr) (hn.c r hr))]
theorem till_chg {ro : List Rope} {r : Rope} (hn : Nice ro) (ha : 0 ≤ r.a) (hb : 0 < r.b) (hc : 0 < r.c) : tillOf (chgs s t z ro) (chg s t z r) = tmQ (s * t) (tillOf ro r) := by
  unfold tillOf
  rw [← best_chg (Int.mul_pos hs ht) (till_reds hn), List.map_map, List.filter_map, List.map_map]
  have e : ro.filter ((fun u => !gtQ (endOf u) (endOf (chg s t z r))) ∘ chg s t z) = ro.filter fun u => !gtQ (endOf u) (endOf r) := List.filter_congr fun u hu => by
    show (!gtQ (endOf (chg s t z u)) (endOf (chg s t z r))) = _
    rw [end_chg hs ht (hn.a u hu) (hn.b u hu) (hn.c u hu), end_chg hs ht ha hb hc, tmQ_gt hs (end_red (hn.a u hu) (hn.b u hu) (hn.c u hu)) (end_red ha hb hc)]
  rw [e]
  congr 1
  refine List.map_congr_left fun u hu => ?_
  have hu := (List.mem_filter.mp hu).1
  show capOf (chgs s t z ro) (endOf (chg s t z u)) = tmQ (s * t) (capOf ro (endOf u))
  rw [end_chg hs ht (hn.a u hu) (hn.b u hu) (hn.c u hu), cap_chg hs ht hn (end_red (hn.a u hu) (hn.b u hu) (hn.c u hu))]
end
/-! ### rising -/
theorem ris_one {a b l : List Q} (ha : Ris a l) (hb : Ris b l) : a = b := by
  refine List.Perm.eq_of_pairwise (le := ltQ) (fun x y _ _ h1 h2 => ?_) ha.pw hb.pw ((List.perm_ext_iff_of_nodup (ris_nodup ha) (ris_nodup hb)).mpr fun x => (ha.mem x).trans (hb.mem x).symm)
  exfalso
  have h1 : x.1 * y.2 < y.1 * x.2 := h1
  have h2 : y.1 * x.2 < x.1 * y.2 := h2
  omega
theorem ris_tm {k : Int} (hk : 0 < k) {es l l' : List Q} (h : Ris es l) (hr : ∀ x ∈ l, Red x) (e : l' = l.map (tmQ k)) : Ris (es.map (tmQ k)) l' := by
  subst e
  refine ⟨?_, fun q => ?_⟩
  · rw [List.pairwise_map]
    exact List.Pairwise.imp_of_mem (fun {a b} ha hb hab => (tmQ_lt hk (hr a ((h.mem a).mp ha)) (hr b ((h.mem b).mp hb))).mpr hab) h.pw
  · rw [List.mem_map, List.mem_map]
    exact ⟨fun ⟨x, h1, h2⟩ => ⟨x, (h.mem x).mp h1, h2⟩, fun ⟨x, h1, h2⟩ => ⟨x, (h.mem x).mpr h1, h2⟩⟩
section
variable {s t : Int} {z : Str} (hs : 0 < s) (ht : 0 < t)
include hs ht
theorem ends_chg {ro : List Rope} (hn : Nice ro) : (chgs s t z ro).map endOf = (ro.map endOf).map (tmQ s) := by
  rw [List.map_map, List.map_map]
  exact List.map_congr_left fun r hr => end_chg hs ht (hn.a r hr) (hn.b r hr) (hn.c r hr)
theorem tills_chg {ro : List Rope} (hn : Nice ro) : (chgs s t z ro).map (tillOf (chgs s t z ro)) = (ro.map (tillOf ro)).map (tmQ (s * t)) := by
  rw [List.map_map, List.map_map]
  exact List.map_congr_left fun r hr => till_chg hs ht hn (hn.a r hr) (hn.b r hr) (hn.c r hr)
omit hs ht in
theorem ends_red {ro : List Rope} (hn : Nice ro) : ∀ x ∈ ro.map endOf, Red x := fun x hx => by
  obtain ⟨r, hr, rfl⟩ := List.mem_map.mp hx
  exact end_red (hn.a r hr) (hn.b r hr) (hn.c r hr)
omit hs ht in
theorem deep_one {ro : List Rope} {d e : Q} (hn : Nice ro) (hd : Deep ro d) (he : Deep ro e) : d = e := by
  have rd := ends_red hn d hd.mem
  have re := ends_red hn e he.mem
  refine leQ_anti rd re ?_ ?_
  · rcases Classical.em (leQ d e) with h | h
    · exact h
    · have := hd.first e he.mem (lt_not.mpr h)
      rw [he.cap] at this
      exact absurd this (Int.lt_irrefl _)
  · rcases Classical.em (leQ e d) with h | h
    · exact h
    · have := he.first d hd.mem (lt_not.mpr h)
      rw [hd.cap] at this
      exact absurd this (Int.lt_irrefl _)
theorem deep_chg {ro : List Rope} {d : Q} (hn : Nice ro) (h : Deep ro d) : Deep (chgs s t z ro) (tmQ s d) := by
  have hh : 0 < s * t := Int.mul_pos hs ht
  have rd := ends_red hn d h.mem
  refine ⟨by rw [ends_chg hs ht hn]; exact List.mem_map_of_mem h.mem, by rw [cap_chg hs ht hn rd, top_chg hs ht hn, h.cap], fun x hx hl => ?_⟩
  rw [ends_chg hs ht hn] at hx
  obtain ⟨y, hy, rfl⟩ := List.mem_map.mp hx
  have ry := ends_red hn y hy
  rw [cap_chg hs ht hn ry, top_chg hs ht hn, tmQ_lt hh (cap_red hn ry) (show Red (topOf ro) from best_red (top_reds hn))]
  exact h.first y hy ((tmQ_lt hs ry rd).mp hl)
theorem brk_chg {ro : List Rope} {q : Q} (hn : Nice ro) (hq : Red q) : brkAt (chgs s t z ro) (tmQ (s * t) q) = sgn z (brkAt ro q) := by
  unfold brkAt brkAt'
  rw [List.filter_map, names_chg]
  congr 2
  refine List.filter_congr fun r hr => ?_
  show decide (tillOf (chgs s t z ro) (chg s t z r) = tmQ (s * t) q) = decide (tillOf ro r = q)
  rw [till_chg hs ht hn (hn.a r hr) (hn.b r hr) (hn.c r hr)]
  exact decide_eq_decide.mpr ⟨fun e => tmQ_inj (Int.mul_pos hs ht) (till_red hn) hq e, fun e => by rw [e]⟩
theorem guard_chg {ro : List Rope} {r u : Rope} (hn : Nice ro) (hu : u ∈ ro) : guardOf (chgs s t z ro) (chg s t z r) (chg s t z u) = guardOf ro r u := by
  have hh : 0 < s * t := Int.mul_pos hs ht
  have hl := hn.sub (left_sub ro [r.n])
  unfold guardOf
  have e1 : leftOf (chgs s t z ro) [(chg s t z r).n] = chgs s t z (leftOf ro [r.n]) := left_chg (ns := [r.n])
  rw [e1, till_chg hs ht hn (hn.a u hu) (hn.b u hu) (hn.c u hu), till_chg hs ht hl (hn.a u hu) (hn.b u hu) (hn.c u hu), tmQ_gt hh (till_red hn) (till_red hl)]
  congr 2
  show (r.n ++ z == u.n ++ z) = (r.n == u.n)
  rw [Bool.eq_iff_iff, beq_iff_eq, beq_iff_eq]
  exact ⟨app_inj, fun h => by rw [h]⟩
end
/-- the pairs of which one guards the other -/
def gprs (ro : List Rope) : List (List Str) := ro.flatMap fun r => (ro.filter (guardOf ro r)).map fun u => [r.n, u.n]
theorem gprs_dat (ro : List Rope) : (ro.flatMap fun r => (ro.filter (guardOf ro r)).map fun u => PyData.tuple [.str r.n, .str u.n]) = (gprs ro).map nm := by
  unfold gprs
  rw [List.map_flatMap]
  congr 1
  funext r
  rw [List.map_map]
  rfl
theorem gprs_len {ro : List Rope} (h : ro.length ≤ 6) : (gprs ro).length ≤ 36 := by
  have key : ∀ l : List Rope, (l.flatMap fun r => (ro.filter (guardOf ro r)).map fun u => [r.n, u.n]).length ≤ l.length * 6 := fun l => by
    induction l with
    | nil => exact Nat.le_refl _
    | cons r l ih =>
      rw [List.flatMap_cons, List.length_append, List.length_map, List.length_cons, Nat.succ_mul]
      have := List.length_filter_le (guardOf ro r) ro
      omega
  have := key ro
  unfold gprs
  omega
theorem flatMap_congr' {α β : Type} {f g : α → List β} : ∀ {l : List α}, (∀ x ∈ l, f x = g x) → l.flatMap f = l.flatMap g
  | [], _ => rfl
  | x :: l, h => by rw [List.flatMap_cons, List.flatMap_cons, h x List.mem_cons_self, flatMap_congr' fun y hy => h y (List.mem_cons_of_mem _ hy)]
theorem gprs_chg {s t : Int} {z : Str} (hs : 0 < s) (ht : 0 < t) {ro : List Rope} (hn : Nice ro) : gprs (chgs s t z ro) = (gprs ro).map (sgn z) := by
  unfold gprs
  rw [List.map_flatMap, List.flatMap_map]
  refine flatMap_congr' fun r hr => ?_
  rw [List.filter_map, List.map_map, List.map_map]
  have e : ro.filter (guardOf (chgs s t z ro) (chg s t z r) ∘ chg s t z) = ro.filter (guardOf ro r) := List.filter_congr fun u hu => guard_chg hs ht hn hu
  rw [e]
  rfl
/-! ### the fewest -/
theorem lots_sgn {z : Str} : ∀ (k : Nat) (ns : List Str), lots k (sgn z ns) = (lots k ns).map (sgn z)
  | 0, ns => rfl
  | k + 1, ns => by
    show (List.range (sgn z ns).length).flatMap (lotsAt (lots k) (sgn z ns)) = ((List.range ns.length).flatMap (lotsAt (lots k) ns)).map (sgn z)
    rw [List.length_map, List.map_flatMap]
    congr 1
    funext i
    unfold lotsAt
    rw [List.getElem?_map]
    cases h : ns[i]? with
    | none => rfl
    | some x =>
      show (lots k ((sgn z ns).drop (i + 1))).map ((x ++ z) :: ·) = ((lots k (ns.drop (i + 1))).map (x :: ·)).map (sgn z)
      rw [show (sgn z ns).drop (i + 1) = sgn z (ns.drop (i + 1)) from (List.map_drop ..).symm, lots_sgn k, List.map_map, List.map_map]
      rfl
theorem dbl_chg {s t : Int} {z : Str} {lot : List Str} {r : Rope} : dbl (sgn z lot) (chg s t z r) = chg s t z (dbl lot r) := by
  unfold dbl
  rw [show (chg s t z r).n = r.n ++ z from rfl, has_sgn]
  split
  · show (⟨_, _, _, 2 * (r.c * s * t)⟩ : Rope) = ⟨_, _, _, 2 * r.c * s * t⟩
    rw [show 2 * (r.c * s * t) = 2 * r.c * s * t by grind]
    rfl
  · rfl
theorem nice_dbl {ro : List Rope} (hn : Nice ro) (lot : List Str) : Nice (ro.map (dbl lot)) := by
  have hd : ∀ r : Rope, (dbl lot r).n = r.n ∧ (dbl lot r).a = r.a ∧ (dbl lot r).b = r.b ∧ ((dbl lot r).c = r.c ∨ (dbl lot r).c = 2 * r.c) := fun r => by
    unfold dbl
    split
    · exact ⟨rfl, rfl, rfl, .inr rfl⟩
    · exact ⟨rfl, rfl, rfl, .inl rfl⟩
  refine ⟨fun r hr => ?_, fun r hr => ?_, fun r hr => ?_, ?_⟩
  · obtain ⟨u, hu, rfl⟩ := List.mem_map.mp hr
    rw [(hd u).2.1]; exact hn.a u hu
  · obtain ⟨u, hu, rfl⟩ := List.mem_map.mp hr
    rw [(hd u).2.2.1]; exact hn.b u hu
  · obtain ⟨u, hu, rfl⟩ := List.mem_map.mp hr
    have := hn.c u hu
    rcases (hd u).2.2.2 with h | h <;> omega
  · rw [List.map_map, show (Rope.n ∘ dbl lot) = Rope.n from funext fun r => (hd r).1]
    exact hn.nd
section
variable {s t : Int} {z : Str} (hs : 0 < s) (ht : 0 < t)
include hs ht
theorem bears_chg {ro : List Rope} {q : Q} (hn : Nice ro) (hq : Red q) : bearsOf (chgs s t z ro) [] (tmQ (s * t) q) = bearsOf ro [] q := by
  have hh : 0 < s * t := Int.mul_pos hs ht
  have len : ∀ (l : List Rope) (p : Q), (brOf l [] p).length = (wavesOf l p).flatten.length := fun l p => by
    unfold brOf sortN
    rw [List.length_mergeSort, List.nil_append, left_nil]
  unfold bearsOf
  rw [len, len, List.length_map, waves_chg hs ht hq _ ro (Nat.le_refl _) hn]
  have e : ((wavesOf ro q).map (sgn z)).flatten.length = (wavesOf ro q).flatten.length := by
    rw [← List.map_flatten, List.length_map]
  rw [e]
  by_cases h0 : q.1 = 0
  · rw [if_pos h0, if_pos ((tmQ_nought hh hq).mpr h0)]
  · rw [if_neg h0, if_neg fun k => h0 ((tmQ_nought hh hq).mp k)]
theorem few_chg {ro : List Rope} {q : Q} (hn : Nice ro) (hq : Red q) : fewOf (chgs s t z ro) (tmQ (s * t) q) = (fewOf ro q).map (sgn z) := by
  unfold fewOf
  rw [names_chg, List.length_map]
  have e1 : allLots (sgn z (ro.map Rope.n)) (ro.length + 1) = (allLots (ro.map Rope.n) (ro.length + 1)).map (sgn z) := by
    unfold allLots
    rw [List.map_flatMap]
    congr 1
    funext k
    exact lots_sgn k _
  rw [e1, List.find?_map]
  congr 2
  funext lot
  show bearsOf ((chgs s t z ro).map (dbl (sgn z lot))) [] (tmQ (s * t) q) = bearsOf (ro.map (dbl lot)) [] q
  have e2 : (chgs s t z ro).map (dbl (sgn z lot)) = chgs s t z (ro.map (dbl lot)) := by
    rw [List.map_map, show chgs s t z (ro.map (dbl lot)) = ro.map (chg s t z ∘ dbl lot) from List.map_map]
    exact List.map_congr_left fun r _ => dbl_chg
  rw [e2]
  exact bears_chg hs ht (nice_dbl hn lot) hq
end
end K2

namespace K2
open PySem L2 Sd Ma
local macro_rules | `(tactic| walk_at "d1") => `(tactic| first
  | ((with_reducible refine' dE_var ?dv ?_); (case dv => rfl))
  | with_reducible refine' dE_int ?_
  | with_reducible refine' dE_str ?_
  | with_reducible refine' dE_bl ?_
  | with_reducible refine' dE_non ?_
  | ((with_reducible refine' dE_nt ?dv ?_); (case dv => assumption))
  | with_reducible refine' dE_ref ?_
  | with_reducible refine' dE_op ?_
  | with_reducible refine' dE_un ?_
  | with_reducible refine' dE_cmp ?_
  | with_reducible refine' dE_isN ?_
  | with_reducible refine' dE_notN ?_
  | with_reducible refine' dE_call ?_
  | with_reducible refine' dE_cb ?_
  | with_reducible refine' dE_kw ?_
  | with_reducible refine' dE_tup ?_
  | with_reducible refine' dE_if ?_
  | with_reducible refine' dE_and ?_
  | with_reducible refine' dE_or ?_
  | with_reducible refine' dE_not ?_
  | with_reducible refine' dE_sl ?_
  | with_reducible refine' dO_none ?_
  | with_reducible refine' dO_some ?_
  | with_reducible refine' dA_cons ?_
  | with_reducible refine' dA_nil ?_
  | with_reducible refine' dT_B ?_
  | with_reducible refine' dT_test ?_
  | with_reducible refine' dT_and ?_
  | with_reducible refine' dT_or ?_
  | with_reducible refine' dT_not ?_
  | with_reducible refine' dT_yes ?_
  | with_reducible refine' dR_I0i ?_
  | with_reducible refine' dU_neg ?_
  | ((with_reducible refine' dR_ixT ?dv ?_); (case dv => rfl))
  | with_reducible refine' dS_seq ?_
  | with_reducible refine' dS_next ?_
  | with_reducible refine' dS_ret ?_
  | with_reducible refine' dS_drop ?_
  | with_reducible refine' dS_if ?_
  | with_reducible refine' dS_asg ?_
  | with_reducible refine' dS_par ?_
  | with_reducible refine' dG_name ?_
  | ((with_reducible refine' dG_tup ?dv ?_); (case dv => rfl); (dsimp only [List.map]))
  | with_reducible refine' dGs_cons ?_
  | with_reducible refine' dGs_nil ?_
  | with_reducible refine' dC_abs ?_
  | with_reducible refine' dC_max2 ?_
  | with_reducible refine' dC_min2 ?_
  | with_reducible refine' rtOf.of ?_
  | with_reducible refine' ex_cmp ?_
  | with_reducible refine' ex_bool ?_
  | with_reducible refine' ex_int ?_
  | with_reducible refine' ex_list ?_
  | with_reducible refine' ex_tup ?_
  | with_reducible refine' ex_d ?_
  | with_reducible refine' ex_m ?_
  | with_reducible refine' ex_par ?_
  | with_reducible refine' ex_rg1 ?_
  | with_reducible refine' ex_rg2 ?_
  | ((with_reducible refine' ex_dat ?dv ?dw ?_); (case dv => rfl); (case dw => exact Nat.le_of_ble_eq_true rfl))
  | ((fail_if_success (with_reducible show ∃ _, _)); (fail_if_success (with_reducible show _ ∧ _)); refine ⟨_, _, rfl, ?_⟩)
  | ((fail_if_success (with_reducible show ∃ _, _)); (fail_if_success (with_reducible show _ ∧ _)); refine ⟨_, rfl, ?_⟩)
  | fail)
local macro_rules | `(tactic| walk_at "d") => `(tactic| repeat' walk_at "d1")
local macro_rules | `(tactic| walk_at "e1") => `(tactic| first
  | ((with_reducible refine' dE_var ?dv ?_); (case dv => rfl))
  | with_reducible refine' dE_int ?_
  | with_reducible refine' dE_str ?_
  | with_reducible refine' dE_bl ?_
  | with_reducible refine' dE_non ?_
  | ((with_reducible refine' dE_nt ?dv ?_); (case dv => assumption))
  | with_reducible refine' dE_ref ?_
  | with_reducible refine' dE_op ?_
  | with_reducible refine' dE_un ?_
  | with_reducible refine' dE_cmp ?_
  | with_reducible refine' dE_isN ?_
  | with_reducible refine' dE_notN ?_
  | with_reducible refine' dE_call ?_
  | with_reducible refine' dE_cb ?_
  | with_reducible refine' dE_kw ?_
  | with_reducible refine' dE_tup ?_
  | with_reducible refine' dE_if ?_
  | with_reducible refine' dE_and ?_
  | with_reducible refine' dE_or ?_
  | with_reducible refine' dE_not ?_
  | with_reducible refine' dE_sl ?_
  | with_reducible refine' dO_none ?_
  | with_reducible refine' dO_some ?_
  | with_reducible refine' dA_cons ?_
  | with_reducible refine' dA_nil ?_
  | with_reducible refine' dT_B ?_
  | with_reducible refine' dT_test ?_
  | with_reducible refine' dT_and ?_
  | with_reducible refine' dT_or ?_
  | with_reducible refine' dT_not ?_
  | with_reducible refine' dT_yes ?_
  | with_reducible refine' dR_I0i ?_
  | with_reducible refine' dU_neg ?_
  | ((with_reducible refine' dR_ixT ?dv ?_); (case dv => rfl))
  | with_reducible refine' dS_next ?_
  | with_reducible refine' dS_ret ?_
  | with_reducible refine' dS_drop ?_
  | with_reducible refine' dS_if ?_
  | with_reducible refine' dS_asg ?_
  | with_reducible refine' dS_par ?_
  | with_reducible refine' dG_name ?_
  | ((with_reducible refine' dG_tup ?dv ?_); (case dv => rfl); (dsimp only [List.map]))
  | with_reducible refine' dGs_cons ?_
  | with_reducible refine' dGs_nil ?_
  | with_reducible refine' dC_abs ?_
  | with_reducible refine' dC_max2 ?_
  | with_reducible refine' dC_min2 ?_
  | with_reducible refine' rtOf.of ?_
  | with_reducible refine' ex_cmp ?_
  | with_reducible refine' ex_bool ?_
  | with_reducible refine' ex_int ?_
  | with_reducible refine' ex_list ?_
  | with_reducible refine' ex_tup ?_
  | with_reducible refine' ex_d ?_
  | with_reducible refine' ex_m ?_
  | with_reducible refine' ex_par ?_
  | with_reducible refine' ex_rg1 ?_
  | with_reducible refine' ex_rg2 ?_
  | ((with_reducible refine' ex_dat ?dv ?dw ?_); (case dv => rfl); (case dw => exact Nat.le_of_ble_eq_true rfl))
  | ((fail_if_success (with_reducible show ∃ _, _)); (fail_if_success (with_reducible show _ ∧ _)); refine ⟨_, _, rfl, ?_⟩)
  | ((fail_if_success (with_reducible show ∃ _, _)); (fail_if_success (with_reducible show _ ∧ _)); refine ⟨_, rfl, ?_⟩)
  | fail)
local macro_rules | `(tactic| walk_at "e") => `(tactic| repeat' walk_at "e1")

theorem sz10 {k : Int} (h0 : 0 < k) (h1 : k < 1000) : Sz 10 k := sz_lt (by omega) (by omega)
theorem tmQ_fr {n : Nat} {k : Int} {q : Q} (h0 : 0 < k) (h1 : k < 1000) (h : Fr n q) : Fr (n + 10) (tmQ k q) := by
  have hr := tmQ_red h0 h.toRed
  have n0 : 0 ≤ q.1 * k := Int.mul_nonneg h.p0 (by omega)
  have hl := low_le n0 h.q0
  exact ⟨hr, (h.s1.mul (sz10 h0 h1)).le hr.p0 hl.1, Sz.up (h.s2.le (Int.le_of_lt hr.q0) hl.2) (by omega)⟩
theorem Mk.tm {q : Q} {k : Int} (h : Mk q) (h0 : 0 < k) (h1 : k < 100) : LOk (tmQ k q) := by
  have hr := tmQ_red h0 h.toRed
  have n0 : 0 ≤ q.1 * k := Int.mul_nonneg h.p0 (by omega)
  have hl := low_le n0 h.q0
  have h2 : q.1 * k ≤ 10000000000 * 100 := Int.mul_le_mul h.t (by omega) (by omega) (by decide)
  refine ⟨hr, Sz.up (m := 60) (sz_lt hr.p0 ?_) (by decide), Sz.up (m := 60) (sz_lt (Int.le_of_lt hr.q0) ?_) (by decide)⟩
  · show (low (q.1 * k) q.2).1 < 2 ^ 60
    omega
  · show (low (q.1 * k) q.2).2 < 2 ^ 60
    have := h.u
    omega
section
variable {P : Program} {w : World} {K : PySem.W.Frag} {mg : Str → Option Value} {base : Heap} {f : Addr} {fd : FuncData}
def S_times : SpD := fun rs M P => ∃ (o : Option Q) (k : Int), rs = [.d (opt o), .d (.int k)] ∧ 0 < k ∧ k < 1000 ∧ (∀ q, o = some q → Fr 3000 q) ∧ P (.d (opt (o.map (tmQ k)))) M
def S_timesQ : SpD := fun rs M P => ∃ (q : Q) (k : Int), rs = [.d (fr q), .d (.int k)] ∧ 0 < k ∧ k < 1000 ∧ Fr 3000 q ∧ P (.d (fr (tmQ k q))) M
theorem times_imp : ∀ rs M P, S_timesQ rs M P → S_times rs M P := fun rs M P ⟨q, k, h1, h2, h3, h4, h5⟩ => ⟨some q, k, h1, h2, h3, fun x e => by cases e; exact h4, h5⟩
abbrev s_law_times : Stmt := topS 62
theorem sc_law_times : FnScope ["part", "by"] ["part", "by"] (defScope s_law_times) := ⟨rfl, rfl, rfl, by decide +kernel, rfl, by decide +kernel, by decide +kernel⟩
theorem ok_law_times (F : Fun K "_law_times" "_law_times" s_law_times f fd) (c_law_lowest : Has P w K mg base 1 "_law_lowest" ["top", "bottom"] S_lowest) : FnOk P w K mg base CX0 2 f fd ["part", "by"] (spOf K S_times) := by
  refine ok_of F sc_law_times (fun rs M P h => by obtain ⟨a, b, rfl, _⟩ := h; rfl) fun cdv A outer s H E hr => ⟨_, (pss_one (ps_ret (pe_ifExp (pt_cmp (pc_isN (pv 0))) pe_non (pe_callH' c_law_lowest (hr.mono (by first | decide | omega)) rfl (pa_cons (pe_op op_mulW (pe_ix (kix_tup K) (pv 0) pe_int (fun _ _ => rfl)) (pv 1)) (pa_cons (pe_ix (kix_tup K) (pv 0) pe_int (fun _ _ => rfl)) pa_nil)))))), fun rs M P h => ?_⟩
  obtain ⟨o, k, rfl, h0, h1, hq, p⟩ := h
  cases o with
  | none =>
    walk_at "d"
    refine ifT rfl ?_
    walk_at "d"
    exact p
  | some q =>
    have hf := hq q rfl
    walk_at "d"
    refine ifF rfl ?_
    walk_at "d"
    refine dR_Ii (hf.s1.mulOk (sz10 h0 h1) (by decide) (by decide) (by decide)) ?_
    walk_at "d"
    exact ⟨Int.mul_nonneg hf.p0 (by omega), hf.q0, hf.s2.up (by decide), rtOf.of p⟩
def S_changed : SpD := fun rs M P => ∃ (ro : List Rope) (s t : Int) (z : Str), rs = [.d (bd ro), .d (.int s), .d (.int t), .d (.str z)] ∧ Bun ro ∧ 0 < s ∧ s < 10 ∧ 0 < t ∧ t < 10 ∧ z.length ≤ 10 ∧ P (.d (bd (chgs s t z ro))) M
abbrev s_law_changed : Stmt := topS 63
theorem sc_law_changed : FnScope ["bundle", "slacker", "stiffer", "sign", "found", "name", "slack", "stiff", "strong"] ["bundle", "slacker", "stiffer", "sign"] (defScope s_law_changed) := ⟨rfl, rfl, rfl, by decide +kernel, rfl, by decide +kernel, by decide +kernel⟩
theorem ok_law_changed (T : Txt mg) (F : Fun K "_law_changed" "_law_changed" s_law_changed f fd) : FnOk P w K mg base CX0 1 f fd ["bundle", "slacker", "stiffer", "sign"] (spOf K S_changed) := by
  refine ok_of F sc_law_changed (fun rs M P h => by obtain ⟨a, b, c, d, rfl, _⟩ := h; rfl) fun cdv A outer s H E hr => ⟨_, (pss_cons (ps_set (i := 4) sc_law_changed.nd rfl (Or.inl rfl) (pe_lst pa_nil))
      (pss_cons (ps_for PassesOwn.never rfl (kpi_tup K (pv 0)) (kpg_tup K (n := 4) rfl (pgs_cons (pg_name (i := 5) sc_law_changed.nd rfl (Or.inl rfl)) (pgs_cons (pg_name (i := 6) sc_law_changed.nd rfl (Or.inl rfl)) (pgs_cons (pg_name (i := 7) sc_law_changed.nd rfl (Or.inl rfl)) (pgs_cons (pg_name (i := 8) sc_law_changed.nd rfl (Or.inl rfl)) pgs_nil))))) (pss_one (ps_expr (kpe_bm K (pe_bm PySem.F.plainAttrs_list PySem.F.slot_list_append PySem.F.type_list_append mt_append (pv 4) (pa_cons (pe_tup (pa_cons (pe_op op_add_str (pv 5) (pv 3)) (pa_cons (pe_op op_mulW (pv 6) (pv 1)) (pa_cons (pe_op op_mulW (pv 7) (pv 2)) (pa_cons (pe_op op_mulW (pe_op op_mulW (pv 8) (pv 1)) (pv 2)) pa_nil))))) pa_nil))))))
      (pss_one (ps_ret (pe_callTy (kcall_tuple K) (by rfl) T.tuple (by decide +kernel) (pa_cons (pv 4) pa_nil)))))), fun rs M P h => ?_⟩
  obtain ⟨ro, s, t, z, rfl, hB, s0, s1, t0, t1, hz, p⟩ := h
  have hl6 := hB.len
  walk_at "d"
  refine dE_lstM ?_
  walk_at "d"
  intro a ha
  walk_at "e"
  refine dS_seq ?_
  refine dS_forT ?_
  walk_at "d"
  refine ⟨fun i δ M' => ∃ (x3 x4 x5 x6 : Option SV), δ = [some (.d (bd ro)), some (.d (.int s)), some (.d (.int t)), some (.d (.str z)), some (.m a), x3, x4, x5, x6] ∧ M' = mset M a ((ro.take i).map fun r => (chg s t z r).d), ⟨_, _, _, _, rfl, rfl⟩, fun i x δ M' hx hI => ?_, fun δ M' hI => ?_⟩
  · obtain ⟨x3, x4, x5, x6, rfl, rfl⟩ := hI
    obtain ⟨r, hr1, rfl⟩ := getElem?_map_some hx
    have hr := List.mem_of_getElem? hr1
    have hi : i < ro.length := (List.getElem?_eq_some_iff.mp hr1).1
    have ho := fine_ok (hB.fine r hr)
    have zs : Sz 10 s := sz10 s0 (by omega)
    have zt : Sz 10 t := sz10 t0 (by omega)
    walk_at "d"
    refine dE_app ?_
    walk_at "d"
    refine ⟨⟨_, mset_same⟩, ?_⟩
    walk_at "d"
    refine dR_addS (by have := (hB.asc r hr).1; omega) ?_
    walk_at "d"
    refine dR_Ii (ho.aS.mulOk zs (by decide) (by decide) (by decide)) ?_
    walk_at "d"
    refine dR_Ii (ho.bS.mulOk zt (by decide) (by decide) (by decide)) ?_
    walk_at "d"
    refine dR_Ii (ho.cS.mulOk zs (by decide) (by decide) (by decide)) ?_
    walk_at "d"
    refine dR_Ii ((ho.cS.mul zs).mulOk zt (by decide) (by decide) (by decide)) ?_
    walk_at "d"
    refine ⟨_, _, rfl, mset_same, by rw [List.length_map, List.length_take]; omega, ?_⟩
    refine ⟨_, _, _, _, rfl, ?_⟩
    rw [mset_mset, List.take_succ, hr1, List.map_append]
    rfl
  · obtain ⟨x3, x4, x5, x6, rfl, rfl⟩ := hI
    rw [List.length_map, List.take_length]
    walk_at "d"
    refine dC_tuple (.inr ⟨a, rfl, mset_same⟩) ?_
    have p' : P (.d (.tuple ((ro.map (chg s t z)).map Rope.d))) M := p
    rw [List.map_map] at p'
    exact ⟨M, p', msub_set MSub.refl ha⟩
def S_named : SpD := fun rs M P => ∃ (ns : List Str) (z : Str), rs = [.d (nm ns), .d (.str z)] ∧ ns.length ≤ 100 ∧ (∀ x ∈ ns, x.length ≤ 1000) ∧ z.length ≤ 10 ∧ P (.d (nm (sgn z ns))) M
abbrev s_law_named : Stmt := topS 64
theorem sc_law_named : FnScope ["names", "sign", "name"] ["names", "sign"] (defScope s_law_named) := ⟨rfl, rfl, rfl, by decide +kernel, rfl, by decide +kernel, by decide +kernel⟩
theorem ok_law_named (T : Txt mg) (F : Fun K "_law_named" "_law_named" s_law_named f fd) : FnOk P w K mg base CX0 1 f fd ["names", "sign"] (spOf K S_named) := by
  refine ok_of F sc_law_named (fun rs M P h => by obtain ⟨a, b, rfl, _⟩ := h; rfl) fun cdv A outer s H E hr => ⟨_, (pss_one (ps_ret (pe_callTy (kcall_tuple K) (by rfl) T.tuple (by decide +kernel) (pa_cons (pe_lc (own := [("name", 2)]) (by rfl) sc_law_named.nd (kpi_tup K (pv 0)) (blkOk_by (N := ["names", "sign", "name"]) (sc := defScope s_law_named) (own := [("name", 2)]) (by decide +kernel)) (fun _ _ _ _ _ => (pg_name (i := 2) sc_law_named.nd rfl (Or.inl rfl))) (fun _ _ _ _ _ => pts_nil) (fun _ _ _ _ _ => (pe_op op_add_str (pv 2) (pv 1)))) pa_nil)))), fun rs M P h => ?_⟩
  obtain ⟨ns, z, rfl, hl, hx, hz, p⟩ := h
  walk_at "d"
  refine dE_lcTm (enc := PyData.str) (out := fun x => .str (x ++ z)) (xs := ns) ?_
  walk_at "d"
  refine ⟨rfl, rfl, by omega, fun x hm => ?_, .inl ?_⟩
  · walk_at "d"
    refine dR_addS (by have := hx x hm; omega) ?_
    exact ⟨rfl, rfl⟩
  · walk_at "d"
    refine dC_tuple (.inl rfl) ?_
    have p' : P (.d (.tuple ((ns.map (· ++ z)).map PyData.str))) M := p
    rw [List.map_map] at p'
    exact rtOf.of p'
end
end K2

namespace K2
open PySem L2 Sd Ma
local macro_rules | `(tactic| walk_at "d1") => `(tactic| first
  | ((with_reducible refine' dE_var ?dv ?_); (case dv => rfl))
  | with_reducible refine' dE_int ?_
  | with_reducible refine' dE_str ?_
  | with_reducible refine' dE_bl ?_
  | with_reducible refine' dE_non ?_
  | ((with_reducible refine' dE_nt ?dv ?_); (case dv => assumption))
  | with_reducible refine' dE_ref ?_
  | with_reducible refine' dE_op ?_
  | with_reducible refine' dE_un ?_
  | with_reducible refine' dE_cmp ?_
  | with_reducible refine' dE_isN ?_
  | with_reducible refine' dE_notN ?_
  | with_reducible refine' dE_call ?_
  | with_reducible refine' dE_cb ?_
  | with_reducible refine' dE_kw ?_
  | with_reducible refine' dE_tup ?_
  | with_reducible refine' dE_if ?_
  | with_reducible refine' dE_and ?_
  | with_reducible refine' dE_or ?_
  | with_reducible refine' dE_not ?_
  | with_reducible refine' dE_sl ?_
  | with_reducible refine' dO_none ?_
  | with_reducible refine' dO_some ?_
  | with_reducible refine' dA_cons ?_
  | with_reducible refine' dA_nil ?_
  | with_reducible refine' dT_B ?_
  | with_reducible refine' dT_test ?_
  | with_reducible refine' dT_and ?_
  | with_reducible refine' dT_or ?_
  | with_reducible refine' dT_not ?_
  | with_reducible refine' dT_yes ?_
  | with_reducible refine' dR_I0i ?_
  | with_reducible refine' dU_neg ?_
  | ((with_reducible refine' dR_ixT ?dv ?_); (case dv => rfl))
  | with_reducible refine' dS_seq ?_
  | with_reducible refine' dS_next ?_
  | with_reducible refine' dS_ret ?_
  | with_reducible refine' dS_drop ?_
  | with_reducible refine' dS_if ?_
  | with_reducible refine' dS_asg ?_
  | with_reducible refine' dS_par ?_
  | with_reducible refine' dG_name ?_
  | ((with_reducible refine' dG_tup ?dv ?_); (case dv => rfl); (dsimp only [List.map]))
  | with_reducible refine' dGs_cons ?_
  | with_reducible refine' dGs_nil ?_
  | with_reducible refine' dC_abs ?_
  | with_reducible refine' dC_max2 ?_
  | with_reducible refine' dC_min2 ?_
  | with_reducible refine' rtOf.of ?_
  | with_reducible refine' ex_cmp ?_
  | with_reducible refine' ex_bool ?_
  | with_reducible refine' ex_int ?_
  | with_reducible refine' ex_list ?_
  | with_reducible refine' ex_tup ?_
  | with_reducible refine' ex_d ?_
  | with_reducible refine' ex_m ?_
  | with_reducible refine' ex_par ?_
  | with_reducible refine' ex_rg1 ?_
  | with_reducible refine' ex_rg2 ?_
  | ((with_reducible refine' ex_dat ?dv ?dw ?_); (case dv => rfl); (case dw => exact Nat.le_of_ble_eq_true rfl))
  | ((fail_if_success (with_reducible show ∃ _, _)); (fail_if_success (with_reducible show _ ∧ _)); refine ⟨_, _, rfl, ?_⟩)
  | ((fail_if_success (with_reducible show ∃ _, _)); (fail_if_success (with_reducible show _ ∧ _)); refine ⟨_, rfl, ?_⟩)
  | fail)
local macro_rules | `(tactic| walk_at "d") => `(tactic| repeat' walk_at "d1")
local macro_rules | `(tactic| walk_at "e1") => `(tactic| first
  | ((with_reducible refine' dE_var ?dv ?_); (case dv => rfl))
  | with_reducible refine' dE_int ?_
  | with_reducible refine' dE_str ?_
  | with_reducible refine' dE_bl ?_
  | with_reducible refine' dE_non ?_
  | ((with_reducible refine' dE_nt ?dv ?_); (case dv => assumption))
  | with_reducible refine' dE_ref ?_
  | with_reducible refine' dE_op ?_
  | with_reducible refine' dE_un ?_
  | with_reducible refine' dE_cmp ?_
  | with_reducible refine' dE_isN ?_
  | with_reducible refine' dE_notN ?_
  | with_reducible refine' dE_call ?_
  | with_reducible refine' dE_cb ?_
  | with_reducible refine' dE_kw ?_
  | with_reducible refine' dE_tup ?_
  | with_reducible refine' dE_if ?_
  | with_reducible refine' dE_and ?_
  | with_reducible refine' dE_or ?_
  | with_reducible refine' dE_not ?_
  | with_reducible refine' dE_sl ?_
  | with_reducible refine' dO_none ?_
  | with_reducible refine' dO_some ?_
  | with_reducible refine' dA_cons ?_
  | with_reducible refine' dA_nil ?_
  | with_reducible refine' dT_B ?_
  | with_reducible refine' dT_test ?_
  | with_reducible refine' dT_and ?_
  | with_reducible refine' dT_or ?_
  | with_reducible refine' dT_not ?_
  | with_reducible refine' dT_yes ?_
  | with_reducible refine' dR_I0i ?_
  | with_reducible refine' dU_neg ?_
  | ((with_reducible refine' dR_ixT ?dv ?_); (case dv => rfl))
  | with_reducible refine' dS_next ?_
  | with_reducible refine' dS_ret ?_
  | with_reducible refine' dS_drop ?_
  | with_reducible refine' dS_if ?_
  | with_reducible refine' dS_asg ?_
  | with_reducible refine' dS_par ?_
  | with_reducible refine' dG_name ?_
  | ((with_reducible refine' dG_tup ?dv ?_); (case dv => rfl); (dsimp only [List.map]))
  | with_reducible refine' dGs_cons ?_
  | with_reducible refine' dGs_nil ?_
  | with_reducible refine' dC_abs ?_
  | with_reducible refine' dC_max2 ?_
  | with_reducible refine' dC_min2 ?_
  | with_reducible refine' rtOf.of ?_
  | with_reducible refine' ex_cmp ?_
  | with_reducible refine' ex_bool ?_
  | with_reducible refine' ex_int ?_
  | with_reducible refine' ex_list ?_
  | with_reducible refine' ex_tup ?_
  | with_reducible refine' ex_d ?_
  | with_reducible refine' ex_m ?_
  | with_reducible refine' ex_par ?_
  | with_reducible refine' ex_rg1 ?_
  | with_reducible refine' ex_rg2 ?_
  | ((with_reducible refine' ex_dat ?dv ?dw ?_); (case dv => rfl); (case dw => exact Nat.le_of_ble_eq_true rfl))
  | ((fail_if_success (with_reducible show ∃ _, _)); (fail_if_success (with_reducible show _ ∧ _)); refine ⟨_, _, rfl, ?_⟩)
  | ((fail_if_success (with_reducible show ∃ _, _)); (fail_if_success (with_reducible show _ ∧ _)); refine ⟨_, rfl, ?_⟩)
  | fail)
local macro_rules | `(tactic| walk_at "e") => `(tactic| repeat' walk_at "e1")

section
variable {K : PySem.W.Frag} {δ : DSt} {M : Mem} {P : SV → Mem → Prop} {tl te : TE}
theorem lc_turn2 {α : Type} {e1 e2 out : α → PyData} {xs : List α} {i j : Nat} (hij : i ≠ j)
    (he : ∀ x ∈ xs, dE K te (((wipeD δ [i, j]).set i (some (.d (e1 x)))).set j (some (.d (e2 x)))) M fun y M2 => y = .d (out x) ∧ M2 = M) :
    ∀ (k : Nat) (d : PyData) (acc : List PyData) (M' : Mem), (xs.map fun x => PyData.tuple [e1 x, e2 x])[k]? = some d → (M' = M ∧ acc = (xs.take k).map out) →
      dG K (gTup K 2 (gCons (gName i) (gCons (gName j) gNil))) (.d d) (wipeD δ [i, j]) M' fun δ2 M2 => dT K tYes δ2 M2 fun b M3 => if b = true then dE K te δ2 M3 fun y M4 => ∃ d, y = .d d ∧ (M4 = M ∧ acc ++ [d] = (xs.take (k + 1)).map out) else (M3 = M ∧ acc = (xs.take (k + 1)).map out) := by
  intro k d acc M' hx hI
  obtain ⟨rfl, rfl⟩ := hI
  obtain ⟨x, hx1, rfl⟩ := map_at hx
  have hm := List.mem_of_getElem? hx1
  refine dG_tup rfl (dGs_cons (dG_name (dGs_cons (dG_name (dGs_nil (dT_yes ?_))))))
  refine ifT rfl ((he x hm).mono fun y M4 hy => ?_)
  obtain ⟨rfl, rfl⟩ := hy
  refine ⟨_, rfl, rfl, ?_⟩
  rw [List.take_succ, hx1, List.map_append]
  rfl
theorem dE_lcL2 {α : Type} {e1 e2 out : α → PyData} {i j : Nat} (hij : i ≠ j) (h : dE K tl δ M fun r M1 => ∃ xs : List α, r = .d (.list (xs.map fun x => .tuple [e1 x, e2 x])) ∧ M1 = M ∧ xs.length ≤ 40000 ∧
    (∀ x ∈ xs, dE K te (((wipeD δ [i, j]).set i (some (.d (e1 x)))).set j (some (.d (e2 x)))) M fun y M2 => y = .d (out x) ∧ M2 = M) ∧ Res P (xs.map out) M) : dE K (tLc (iList K tl) (gTup K 2 (gCons (gName i) (gCons (gName j) gNil))) tYes te [i, j]) δ M P := by
  refine dE_lcL (gw_name2 2 i j hij) (h.mono fun r M1 hh => ?_)
  obtain ⟨xs, rfl, rfl, hl, he, hr⟩ := hh
  refine ⟨_, rfl, by rw [List.length_map]; exact hl, fun k acc M' => M' = M1 ∧ acc = (xs.take k).map out, ⟨rfl, rfl⟩, fun k d acc M' => lc_turn2 hij he k d acc M', fun acc M' hI => ?_⟩
  obtain ⟨rfl, rfl⟩ := hI
  rw [List.length_map, List.take_length]
  exact hr
theorem dE_lcT2 {α : Type} {e1 e2 out : α → PyData} {i j : Nat} (hij : i ≠ j) (h : dE K tl δ M fun r M1 => ∃ xs : List α, r = .d (.tuple (xs.map fun x => .tuple [e1 x, e2 x])) ∧ M1 = M ∧ xs.length ≤ 40000 ∧
    (∀ x ∈ xs, dE K te (((wipeD δ [i, j]).set i (some (.d (e1 x)))).set j (some (.d (e2 x)))) M fun y M2 => y = .d (out x) ∧ M2 = M) ∧ Res P (xs.map out) M) : dE K (tLc (iTup K tl) (gTup K 2 (gCons (gName i) (gCons (gName j) gNil))) tYes te [i, j]) δ M P := by
  refine dE_lcT (gw_name2 2 i j hij) (h.mono fun r M1 hh => ?_)
  obtain ⟨xs, rfl, rfl, hl, he, hr⟩ := hh
  refine ⟨_, rfl, by rw [List.length_map]; exact hl, fun k acc M' => M' = M1 ∧ acc = (xs.take k).map out, ⟨rfl, rfl⟩, fun k d acc M' => lc_turn2 hij he k d acc M', fun acc M' hI => ?_⟩
  obtain ⟨rfl, rfl⟩ := hI
  rw [List.length_map, List.take_length]
  exact hr
theorem dE_lcM2 {α : Type} {e1 e2 out : α → PyData} {i j : Nat} (hij : i ≠ j) (h : dE K tl δ M fun r M1 => ∃ (xs : List α) (a : Addr), r = .m a ∧ M1 a = some (xs.map fun x => .tuple [e1 x, e2 x]) ∧ xs.length ≤ 40000 ∧
    (∀ x ∈ xs, dE K te (((wipeD δ [i, j]).set i (some (.d (e1 x)))).set j (some (.d (e2 x)))) (mdel M1 a) fun y M2 => y = .d (out x) ∧ M2 = mdel M1 a) ∧ P (.d (.list (xs.map out))) (mset (mdel M1 a) a (xs.map fun x => .tuple [e1 x, e2 x]))) : dE K (tLc (iList K tl) (gTup K 2 (gCons (gName i) (gCons (gName j) gNil))) tYes te [i, j]) δ M P := by
  refine dE_lcM (gw_name2 2 i j hij) (h.mono fun r M1 hh => ?_)
  obtain ⟨xs, a, rfl, hm, hl, he, hr⟩ := hh
  refine ⟨a, _, rfl, hm, by rw [List.length_map]; exact hl, fun k acc M' => M' = mdel M1 a ∧ acc = (xs.take k).map out, ⟨rfl, rfl⟩, fun k d acc M' => lc_turn2 hij he k d acc M', fun acc M' hI => ?_⟩
  obtain ⟨rfl, rfl⟩ := hI
  rw [List.length_map, List.take_length]
  exact hr
end
/-! ### shapes -/
theorem Shp.nms {ns : List Str} (h : ∀ x ∈ ns, PyData.canLay0 (.str x) = true) : Shp 1 (nm ns) := Shp.tup fun d hd => by
  obtain ⟨x, hx, rfl⟩ := List.mem_map.mp hd
  exact .str (h x hx)
theorem Shp.upq {n m : Nat} {d : PyData} (h : Shp n d) (k : n ≤ m) : Shp m d := ⟨h.1, Nat.le_trans h.2 k⟩
theorem shp_pair {n : Nat} {a b : PyData} (ha : Shp n a) (hb : Shp n b) : Shp (n + 1) (.tuple [a, b]) := Shp.tup fun d hd => by
  simp only [List.mem_cons, List.not_mem_nil, or_false] at hd
  rcases hd with rfl | rfl
  · exact ha
  · exact hb
theorem names_lay {ro : List Rope} (hB : Bun ro) : ∀ x ∈ ro.map Rope.n, PyData.canLay0 (.str x) = true := fun x hx => by
  obtain ⟨r, hr, rfl⟩ := List.mem_map.mp hx
  exact bun_lay hB r hr
theorem names_short {ro : List Rope} (hB : Bun ro) : ∀ x ∈ ro.map Rope.n, x.length ≤ 1000 := fun x hx => by
  obtain ⟨r, hr, rfl⟩ := List.mem_map.mp hx
  have := (hB.asc r hr).1
  omega
theorem waves_in {ro : List Rope} {q : Q} : ∀ (n : Nat) (lo : List Rope), lo.length ≤ n → lo.Sublist ro → ∀ l ∈ wavesOf lo q, l.length ≤ ro.length ∧ ∀ x ∈ l, x ∈ ro.map Rope.n
  | 0, lo, h, hs, l, hl => by
    have : lo = [] := List.length_eq_zero_iff.mp (by omega)
    subst this
    rw [waves_end gw_nil] at hl; cases hl
  | n + 1, lo, h, hs, l, hl => by
    by_cases h0 : gwOf lo q = []
    · rw [waves_end h0] at hl; cases hl
    · rw [waves_step h0] at hl
      rcases List.mem_cons.mp hl with rfl | hl
      · have h1 := (gw_sub (lo := lo) (q := q)).trans (hs.map Rope.n)
        have := h1.length_le
        rw [List.length_map] at this
        exact ⟨this, fun x hx => h1.subset hx⟩
      · exact waves_in n _ (by have := left_short h0 gw_sub; omega) ((left_sub _ _).trans hs) l hl
theorem waves_count {q : Q} : ∀ (n : Nat) (lo : List Rope), lo.length ≤ n → (wavesOf lo q).length ≤ n
  | 0, lo, h => by
    have : lo = [] := List.length_eq_zero_iff.mp (by omega)
    subst this
    rw [waves_end gw_nil]; exact Nat.le_refl _
  | n + 1, lo, h => by
    by_cases h0 : gwOf lo q = []
    · rw [waves_end h0]; exact Nat.zero_le _
    · rw [waves_step h0, List.length_cons]
      have := waves_count (q := q) n (leftOf lo (gwOf lo q)) (by have := left_short h0 (gw_sub (lo := lo) (q := q)); omega)
      omega
theorem few_in {ro : List Rope} {q : Q} {l : List Str} (h : fewOf ro q = some l) : l.length ≤ ro.length ∧ ∀ x ∈ l, x ∈ ro.map Rope.n := by
  obtain ⟨k, hk1, hk⟩ := List.mem_flatMap.mp (List.mem_of_find?_eq_some h)
  have := lots_mem k _ l hk
  have := List.mem_range.mp hk1
  exact ⟨by omega, (lots_mem k _ l hk).2⟩
theorem gprs_in {ro : List Rope} {l : List Str} (h : l ∈ gprs ro) : l.length ≤ 2 ∧ ∀ x ∈ l, x ∈ ro.map Rope.n := by
  obtain ⟨r, hr, h⟩ := List.mem_flatMap.mp h
  obtain ⟨u, hu, rfl⟩ := List.mem_map.mp h
  refine ⟨Nat.le_refl _, fun x hx => ?_⟩
  simp only [List.mem_cons, List.not_mem_nil, or_false] at hx
  rcases hx with rfl | rfl
  · exact List.mem_map_of_mem hr
  · exact List.mem_map_of_mem (List.mem_filter.mp hu).1
section
variable {P : Program} {w : World} {K : PySem.W.Frag} {mg : Str → Option Value} {base : Heap} {f : Addr} {fd : FuncData}
def S_goes : SpD := fun rs M P => ∃ (ro : List Rope) (s t : Int) (z : Str) (q : Q), rs = [.d (bd ro), .d (bd (chgs s t z ro)), .d (.tuple [.int s, .int (s * t)]), .d (.str z), .d (fr q)] ∧ Bun ro ∧ Bun (chgs s t z ro) ∧ 0 < s ∧ s < 10 ∧ 0 < t ∧ t < 10 ∧ z.length ≤ 10 ∧ Mk q ∧ P (.d (.bool true)) M
abbrev s_law_goes : Stmt := topS 65
theorem sc_law_goes : FnScope ["bundle", "other", "scale", "sign", "load", "far", "hard", "wide", "most", "sunk", "told", "name", "part", "wave", "one", "names", "pair"] ["bundle", "other", "scale", "sign", "load"] (defScope s_law_goes) := ⟨rfl, rfl, rfl, by decide +kernel, rfl, by decide +kernel, by decide +kernel⟩
theorem ok_law_goes (T : Txt mg) (F0 : Fun K "_law_goes" "_law_goes" s_law_goes f fd) (c_law_times : Has P w K mg base 2 "_law_times" ["part", "by"] S_times) (c_law_timesQ : Has P w K mg base 2 "_law_times" ["part", "by"] S_timesQ) (c_law_named : Has P w K mg base 1 "_law_named" ["names", "sign"] S_named) (c_sinking : Has P w K mg base 5 "sinking" ["bundle", "broken", "load"] S_sinking) (c_pullsF : Has P w K mg base 5 "pulls" ["bundle", "broken", "load"] S_pullsF) (c_waves : Has P w K mg base 6 "waves" ["bundle", "broken", "load"] S_waves) (c_table : Has P w K mg base 5 "table" ["bundle"] S_table)
    (c_greatest : Has P w K mg base 6 "greatest" ["bundle"] S_greatS) (c_steps : Has P w K mg base 7 "steps" ["bundle"] S_steps) (c_fewest_doubled : Has P w K mg base 9 "fewest_doubled" ["bundle", "load"] S_few) (c_guards : Has P w K mg base 9 "guards" ["bundle"] S_guards) : FnOk P w K mg base CX0 10 f fd ["bundle", "other", "scale", "sign", "load"] (spOf K S_goes) := by
  refine ok_of F0 sc_law_goes (fun rs M P h => by obtain ⟨a, b, c, d, e, rfl, _⟩ := h; rfl) fun cdv A outer s H E hr => ⟨_, (pss_cons (ps_asg (pv 2) (kpg_tup K (n := 2) rfl (pgs_cons (pg_name (i := 5) sc_law_goes.nd rfl (Or.inr rfl)) (pgs_cons (pg_name (i := 6) sc_law_goes.nd rfl (Or.inr rfl)) pgs_nil))))
      (pss_cons (ps_set (i := 7) sc_law_goes.nd rfl (Or.inl rfl) (pe_callH' c_law_timesQ (hr.mono (by first | decide | omega)) rfl (pa_cons (pv 4) (pa_cons (pv 6) pa_nil))))
      (pss_cons (ps_if (pt_cmpR (kop_neD K hr.units) (pe_callH' c_sinking (hr.mono (by first | decide | omega)) rfl (pa_cons (pv 1) (pa_cons (pe_tup pa_nil) (pa_cons (pv 7) pa_nil)))) (pe_callH' c_law_times (hr.mono (by first | decide | omega)) rfl (pa_cons (pe_callH' c_sinking (hr.mono (by first | decide | omega)) rfl (pa_cons (pv 0) (pa_cons (pe_tup pa_nil) (pa_cons (pv 4) pa_nil)))) (pa_cons (pv 5) pa_nil))) (nomark _)) (pss_one (ps_ret pe_bl)) pss_nil)
      (pss_cons (ps_if (pt_cmpR (kop_neD K hr.units) (pe_callH' c_pullsF (hr.mono (by first | decide | omega)) rfl (pa_cons (pv 1) (pa_cons (pe_tup pa_nil) (pa_cons (pv 7) pa_nil)))) (pe_lc (own := [("name", 11), ("part", 12)]) (by rfl) sc_law_goes.nd (kpi_list K (pe_callH' c_pullsF (hr.mono (by first | decide | omega)) rfl (pa_cons (pv 0) (pa_cons (pe_tup pa_nil) (pa_cons (pv 4) pa_nil))))) (blkOk_by (N := ["bundle", "other", "scale", "sign", "load", "far", "hard", "wide", "most", "sunk", "told", "name", "part", "wave", "one", "names", "pair"]) (sc := defScope s_law_goes) (own := [("name", 11), ("part", 12)]) (by decide +kernel)) (fun _ _ _ _ _ => (kpg_tup K (n := 2) rfl (pgs_cons (pg_name (i := 11) sc_law_goes.nd rfl (Or.inl rfl)) (pgs_cons (pg_name (i := 12) sc_law_goes.nd rfl (Or.inl rfl)) pgs_nil)))) (fun _ _ _ _ _ => pts_nil) (fun _ _ _ _ _ => (pe_tup (pa_cons (pe_op op_add_str (pv 11) (pv 3)) (pa_cons (pe_callH' c_law_timesQ (hr.mono (by first | decide | omega)) rfl (pa_cons (pv 12) (pa_cons (pv 6) pa_nil))) pa_nil))))) (nomark _)) (pss_one (ps_ret pe_bl)) pss_nil)
      (pss_cons (ps_if (pt_cmpR (kop_neD K hr.units) (pe_callH' c_waves (hr.mono (by first | decide | omega)) rfl (pa_cons (pv 1) (pa_cons (pe_tup pa_nil) (pa_cons (pv 7) pa_nil)))) (pe_lc (own := [("wave", 13)]) (by rfl) sc_law_goes.nd (kpi_list K (pe_callH' c_waves (hr.mono (by first | decide | omega)) rfl (pa_cons (pv 0) (pa_cons (pe_tup pa_nil) (pa_cons (pv 4) pa_nil))))) (blkOk_by (N := ["bundle", "other", "scale", "sign", "load", "far", "hard", "wide", "most", "sunk", "told", "name", "part", "wave", "one", "names", "pair"]) (sc := defScope s_law_goes) (own := [("wave", 13)]) (by decide +kernel)) (fun _ _ _ _ _ => (pg_name (i := 13) sc_law_goes.nd rfl (Or.inl rfl))) (fun _ _ _ _ _ => pts_nil) (fun _ _ _ _ _ => (pe_callH' c_law_named (hr.mono (by first | decide | omega)) rfl (pa_cons (pv 13) (pa_cons (pv 3) pa_nil))))) (nomark _)) (pss_one (ps_ret pe_bl)) pss_nil)
      (pss_cons (ps_if (pt_cmpR (kop_neD K hr.units) (pe_callH' c_table (hr.mono (by first | decide | omega)) rfl (pa_cons (pv 1) pa_nil)) (pe_callTy (kcall_tuple K) (by rfl) T.tuple (by decide +kernel) (pa_cons (pe_lc (own := [("one", 14), ("part", 12)]) (by rfl) sc_law_goes.nd (kpi_tup K (pe_callH' c_table (hr.mono (by first | decide | omega)) rfl (pa_cons (pv 0) pa_nil))) (blkOk_by (N := ["bundle", "other", "scale", "sign", "load", "far", "hard", "wide", "most", "sunk", "told", "name", "part", "wave", "one", "names", "pair"]) (sc := defScope s_law_goes) (own := [("one", 14), ("part", 12)]) (by decide +kernel)) (fun _ _ _ _ _ => (kpg_tup K (n := 2) rfl (pgs_cons (pg_name (i := 14) sc_law_goes.nd rfl (Or.inl rfl)) (pgs_cons (pg_name (i := 12) sc_law_goes.nd rfl (Or.inl rfl)) pgs_nil)))) (fun _ _ _ _ _ => pts_nil) (fun _ _ _ _ _ => (pe_tup (pa_cons (pe_callH' c_law_timesQ (hr.mono (by first | decide | omega)) rfl (pa_cons (pv 14) (pa_cons (pv 5) pa_nil))) (pa_cons (pe_callH' c_law_timesQ (hr.mono (by first | decide | omega)) rfl (pa_cons (pv 12) (pa_cons (pv 6) pa_nil))) pa_nil))))) pa_nil)) (nomark _)) (pss_one (ps_ret pe_bl)) pss_nil)
      (pss_cons (ps_asg (pe_callH' c_greatest (hr.mono (by first | decide | omega)) rfl (pa_cons (pv 0) pa_nil)) (kpg_tup K (n := 2) rfl (pgs_cons (pg_name (i := 8) sc_law_goes.nd rfl (Or.inl rfl)) (pgs_cons (pg_name (i := 9) sc_law_goes.nd rfl (Or.inl rfl)) pgs_nil))))
      (pss_cons (ps_if (pt_cmpR (kop_neD K hr.units) (pe_callH' c_greatest (hr.mono (by first | decide | omega)) rfl (pa_cons (pv 1) pa_nil)) (pe_tup (pa_cons (pe_callH' c_law_timesQ (hr.mono (by first | decide | omega)) rfl (pa_cons (pv 8) (pa_cons (pv 6) pa_nil))) (pa_cons (pe_callH' c_law_timesQ (hr.mono (by first | decide | omega)) rfl (pa_cons (pv 9) (pa_cons (pv 5) pa_nil))) pa_nil))) (nomark _)) (pss_one (ps_ret pe_bl)) pss_nil)
      (pss_cons (ps_if (pt_cmpR (kop_neD K hr.units) (pe_callH' c_steps (hr.mono (by first | decide | omega)) rfl (pa_cons (pv 1) pa_nil)) (pe_lc (own := [("part", 12), ("names", 15)]) (by rfl) sc_law_goes.nd (kpi_list K (pe_callH' c_steps (hr.mono (by first | decide | omega)) rfl (pa_cons (pv 0) pa_nil))) (blkOk_by (N := ["bundle", "other", "scale", "sign", "load", "far", "hard", "wide", "most", "sunk", "told", "name", "part", "wave", "one", "names", "pair"]) (sc := defScope s_law_goes) (own := [("part", 12), ("names", 15)]) (by decide +kernel)) (fun _ _ _ _ _ => (kpg_tup K (n := 2) rfl (pgs_cons (pg_name (i := 12) sc_law_goes.nd rfl (Or.inl rfl)) (pgs_cons (pg_name (i := 15) sc_law_goes.nd rfl (Or.inl rfl)) pgs_nil)))) (fun _ _ _ _ _ => pts_nil) (fun _ _ _ _ _ => (pe_tup (pa_cons (pe_callH' c_law_timesQ (hr.mono (by first | decide | omega)) rfl (pa_cons (pv 12) (pa_cons (pv 6) pa_nil))) (pa_cons (pe_callH' c_law_named (hr.mono (by first | decide | omega)) rfl (pa_cons (pv 15) (pa_cons (pv 3) pa_nil))) pa_nil))))) (nomark _)) (pss_one (ps_ret pe_bl)) pss_nil)
      (pss_cons (ps_set (i := 10) sc_law_goes.nd rfl (Or.inl rfl) (pe_callH' c_fewest_doubled (hr.mono (by first | decide | omega)) rfl (pa_cons (pv 0) (pa_cons (pv 4) pa_nil))))
      (pss_cons (ps_if (pt_cmpR (kop_neD K hr.units) (pe_callH' c_fewest_doubled (hr.mono (by first | decide | omega)) rfl (pa_cons (pv 1) (pa_cons (pv 7) pa_nil))) (pe_ifExp (pt_cmp (pc_isN (pv 10))) pe_non (pe_callH' c_law_named (hr.mono (by first | decide | omega)) rfl (pa_cons (pv 10) (pa_cons (pv 3) pa_nil)))) (nomark _)) (pss_one (ps_ret pe_bl)) pss_nil)
      (pss_one (ps_ret (pe_cmpR (kop_eqD K hr.units) (pe_callH' c_guards (hr.mono (by first | decide | omega)) rfl (pa_cons (pv 1) pa_nil)) (pe_lc (own := [("pair", 16)]) (by rfl) sc_law_goes.nd (kpi_list K (pe_callH' c_guards (hr.mono (by first | decide | omega)) rfl (pa_cons (pv 0) pa_nil))) (blkOk_by (N := ["bundle", "other", "scale", "sign", "load", "far", "hard", "wide", "most", "sunk", "told", "name", "part", "wave", "one", "names", "pair"]) (sc := defScope s_law_goes) (own := [("pair", 16)]) (by decide +kernel)) (fun _ _ _ _ _ => (pg_name (i := 16) sc_law_goes.nd rfl (Or.inl rfl))) (fun _ _ _ _ _ => pts_nil) (fun _ _ _ _ _ => (pe_callH' c_law_named (hr.mono (by first | decide | omega)) rfl (pa_cons (pv 16) (pa_cons (pv 3) pa_nil))))) (nomark _))))))))))))))), fun rs M P h => ?_⟩
  obtain ⟨ro, s, t, z, q, rfl, hB, hB', s0, s1, t0, t1, hz, hq, p⟩ := h
  have hn := hB.nice
  have hl6 := hB.len
  have hl6' := hB'.len
  have h0 : 0 < s * t := Int.mul_pos s0 t0
  have h1 : s * t < 100 := by
    have : s * t ≤ 9 * 9 := Int.mul_le_mul (by omega) (by omega) (by omega) (by omega)
    omega
  have hq3 : Fr 3000 q := hq.fr3
  have hL := hq.ok
  have hL' := hq.tm h0 h1
  have lay' := names_lay hB'
  have lay := names_lay hB
  have shn := names_short hB
  walk_at "d"
  refine ⟨h0, by omega, hq3, ?_⟩
  walk_at "d"
  refine ⟨chgs s t z ro, [], tmQ (s * t) q, rfl, hB'.ok, hL', ?_⟩
  rw [left_nil, sunk_chg s0 t0 hn hq.toRed]
  walk_at "d"
  refine ⟨ro, [], q, rfl, hB.ok, hL, ?_⟩
  rw [left_nil]
  have hsk : ∀ x, sunkOf ro q.1 q.2 = some x → QOk x := fun x hx => sunk_ok hB.ok.len hB.ok.ok hL.p0 hL.q0 hL.s1 hL.s2 hx
  walk_at "d"
  refine ⟨s0, by omega, fun x hx => ⟨(hsk x hx).toRed, (hsk x hx).s1.up (by decide), (hsk x hx).s2.up (by decide)⟩, ?_⟩
  walk_at "d"
  refine dR_ne_same .of .of Shp.opt.shaped ?_
  walk_at "d"
  refine ifF rfl ?_
  walk_at "d"
  -- pulls
  refine ⟨chgs s t z ro, [], tmQ (s * t) q, rfl, hB'.ok, hL', ?_⟩
  rw [left_nil, sunk_chg s0 t0 hn hq.toRed]
  refine dE_lcL2 (e1 := fun r : Rope => .str r.n) (e2 := fun r : Rope => fr (pullOf r ((sunkOf ro q.1 q.2).getD (0, 1)))) (out := fun r : Rope => .tuple [.str (r.n ++ z), fr (tmQ (s * t) (pullOf r ((sunkOf ro q.1 q.2).getD (0, 1))))]) (by decide) ?_
  walk_at "d"
  refine ⟨ro, [], q, rfl, hB.ok, hL, ?_⟩
  rw [left_nil]
  have hsq : QOk ((sunkOf ro q.1 q.2).getD (0, 1)) := by
    cases e : sunkOf ro q.1 q.2 with
    | none => exact ⟨red01, Nat.pow_pos (by decide), Nat.lt_of_lt_of_le (by decide) (Nat.pow_le_pow_right (by decide) (show 1 ≤ 600 by decide))⟩
    | some x => exact hsk x e
  refine ⟨ro, rfl, rfl, by omega, fun r hr => ?_, .inl ?_⟩
  · walk_at "d"
    refine dR_addS (by have := (hB.asc r hr).1; omega) ?_
    walk_at "d"
    refine ⟨h0, by omega, pull_sz (fine_ok (hB.fine r hr)) hsq, ?_⟩
    walk_at "d"
    exact ⟨rfl, rfl⟩
  have epull : (chgs s t z ro).map (pullD ((sunkOf ro q.1 q.2).map (tmQ s))) = ro.map fun r : Rope => PyData.tuple [.str (r.n ++ z), fr (tmQ (s * t) (pullOf r ((sunkOf ro q.1 q.2).getD (0, 1))))] := by
    rw [List.map_map]
    refine List.map_congr_left fun r hr => ?_
    show PyData.tuple [.str (r.n ++ z), fr (pullOf (chg s t z r) (((sunkOf ro q.1 q.2).map (tmQ s)).getD (0, 1)))] = _
    have e : ((sunkOf ro q.1 q.2).map (tmQ s)).getD (0, 1) = tmQ s ((sunkOf ro q.1 q.2).getD (0, 1)) := by
      cases sunkOf ro q.1 q.2 with
      | none => exact tmQ_zero.symm
      | some x => rfl
    rw [e, pull_chg s0 t0 (hn.b r hr) hsq.toRed]
  rw [epull]
  refine dR_ne_same .of .of (Shp.shaped (n := 3) (Shp.list fun d hd => ?_)) ?_
  · rw [← epull] at hd
    obtain ⟨r, hr, rfl⟩ := List.mem_map.mp hd
    exact Shp.pull (lay' _ (List.mem_map_of_mem hr))
  walk_at "d"
  refine ifF rfl ?_
  walk_at "d"
  -- waves
  refine ⟨chgs s t z ro, [], tmQ (s * t) q, rfl, hB'.ok, hL', ?_⟩
  rw [left_nil, waves_chg s0 t0 hq.toRed _ ro (Nat.le_refl _) hn]
  refine dE_lcLm (enc := nm) (out := fun l => nm (sgn z l)) (xs := wavesOf ro q) ?_
  walk_at "d"
  refine ⟨ro, [], q, rfl, hB.ok, hL, ?_⟩
  rw [left_nil]
  refine ⟨rfl, rfl, by have := waves_count (q := q) 6 ro hl6; omega, fun l hl => ?_, .inl ?_⟩
  · have hw := waves_in (ro := ro) (q := q) _ ro (Nat.le_refl _) (List.Sublist.refl _) l hl
    walk_at "d"
    exact ⟨by omega, fun x hx => shn x (hw.2 x hx), hz, rfl, rfl⟩
  rw [List.map_map]
  refine dR_ne_same .of .of (Shp.shaped (n := 2) (Shp.list fun d hd => ?_)) ?_
  · obtain ⟨l, hl, rfl⟩ := List.mem_map.mp hd
    have hw := waves_in (ro := ro) (q := q) _ ro (Nat.le_refl _) (List.Sublist.refl _) l hl
    refine Shp.nms fun x hx => ?_
    obtain ⟨y, hy, rfl⟩ := List.mem_map.mp hx
    exact lay' _ (by rw [names_chg]; exact List.mem_map_of_mem (hw.2 y hy))
  walk_at "d"
  refine ifF rfl ?_
  walk_at "d"
  -- table
  refine ⟨by omega, hB'.fine, fun es' hes' => ?_⟩
  refine dE_cb (dA_cons ?_)
  refine dE_lcT2 (α := Q) (e1 := fr) (e2 := fun e => fr (capOf ro e)) (out := fun e : Q => .tuple [fr (tmQ s e), fr (tmQ (s * t) (capOf ro e))]) (by decide) ?_
  walk_at "d"
  refine ⟨by omega, hB.fine, fun es hes => ?_⟩
  have hen : ∀ e ∈ es, En e := fun e he => by
    obtain ⟨r, hr1, rfl⟩ := List.mem_map.mp ((hes.mem e).mp he)
    exact end_en (hB.fine r hr1)
  have hel := ris_len hes
  rw [List.length_map] at hel
  have ees : es' = es.map (tmQ s) := ris_one hes' (ris_tm s0 hes (ends_red hn) (ends_chg s0 t0 hn))
  refine ⟨es, rfl, rfl, by omega, fun e he => ?_, .inl ?_⟩
  · walk_at "d"
    refine ⟨s0, by omega, (hen e he).fr, ?_⟩
    walk_at "d"
    refine ⟨h0, by omega, (cap_mk (by omega) hB.fine (hen e he)).fr3, ?_⟩
    walk_at "d"
    exact ⟨rfl, rfl⟩
  walk_at "d"
  refine dC_tuple (.inl rfl) ?_
  have etab : es'.map (tabD (chgs s t z ro)) = es.map fun e : Q => PyData.tuple [fr (tmQ s e), fr (tmQ (s * t) (capOf ro e))] := by
    rw [ees, List.map_map]
    refine List.map_congr_left fun e he => ?_
    show PyData.tuple [fr (tmQ s e), fr (capOf (chgs s t z ro) (tmQ s e))] = _
    rw [cap_chg s0 t0 hn (hen e he).toRed]
  rw [etab]
  refine dR_ne_same .of .of (Shp.shaped (n := 3) (Shp.tup fun d hd => ?_)) ?_
  · obtain ⟨e, he, rfl⟩ := List.mem_map.mp hd
    exact shp_pair Shp.fr Shp.fr
  walk_at "d"
  refine ifF rfl ?_
  walk_at "d"
  -- greatest
  refine ⟨hB, fun e he => ?_⟩
  have hen := ends_red hn e he.mem
  have hee : En e := by
    obtain ⟨r, hr, rfl⟩ := List.mem_map.mp he.mem
    exact end_en (hB.fine r hr)
  walk_at "d"
  refine ⟨hB', fun e' he' => ?_⟩
  have ee : e' = tmQ s e := deep_one hB'.nice he' (deep_chg s0 t0 hn he)
  rw [ee, top_chg s0 t0 hn]
  walk_at "d"
  refine ⟨h0, by omega, (top_mk (by omega) hB.fine hn).fr3, ?_⟩
  walk_at "d"
  refine ⟨s0, by omega, hee.fr, ?_⟩
  walk_at "d"
  refine dR_ne_same .of .of (Shp.shaped (n := 2) (shp_pair Shp.fr Shp.fr)) ?_
  walk_at "d"
  refine ifF rfl ?_
  walk_at "d"
  -- steps
  refine ⟨hB', fun ls' hls' a1 ha1 => ?_⟩
  refine dE_lcM2 (α := Q) (e1 := fr) (e2 := fun q => nm (brkAt ro q)) (out := fun q : Q => .tuple [fr (tmQ (s * t) q), nm (sgn z (brkAt ro q))]) (by decide) ?_
  walk_at "d"
  refine ⟨hB, fun ls hls a2 ha2 => ?_⟩
  have hlm : ∀ x ∈ ls, Mk x := fun x hx => by
    obtain ⟨r, hr, rfl⟩ := List.mem_map.mp ((hls.mem x).mp hx)
    exact till_mk (by omega) hB.fine hn
  have hll := ris_len hls
  rw [List.length_map] at hll
  have els : ls' = ls.map (tmQ (s * t)) := ris_one hls' (ris_tm h0 hls (fun x hx => by
    obtain ⟨r, hr, rfl⟩ := List.mem_map.mp hx
    exact till_red hn) (tills_chg s0 t0 hn))
  have hbin : ∀ (q : Q) (x : Str), x ∈ brkAt ro q → x ∈ ro.map Rope.n := fun q x hx => (brk_sub ro q).subset hx
  refine ⟨ls, a2, rfl, mset_same, by omega, fun q1 hq1 => ?_, ?_⟩
  · walk_at "d"
    refine ⟨h0, by omega, (hlm q1 hq1).fr3, ?_⟩
    walk_at "d"
    refine ⟨?_, fun x hx => shn x (hbin q1 x hx), hz, ?_⟩
    · have := (brk_sub ro q1).length_le
      rw [List.length_map] at this
      omega
    walk_at "d"
    exact ⟨rfl, rfl⟩
  have estp : ls'.map (stepD (chgs s t z ro)) = ls.map fun q : Q => PyData.tuple [fr (tmQ (s * t) q), nm (sgn z (brkAt ro q))] := by
    rw [els, List.map_map]
    refine List.map_congr_left fun x hx => ?_
    show PyData.tuple [fr (tmQ (s * t) x), nm (brkAt (chgs s t z ro) (tmQ (s * t) x))] = _
    rw [brk_chg s0 t0 hn (hlm x hx).toRed]
  rw [estp]
  have hne : a1 ≠ a2 := fun e => by
    rw [e, mset_same] at ha2
    cases ha2
  refine dR_ne_same (d := .list (ls.map fun q : Q => PyData.tuple [fr (tmQ (s * t) q), nm (sgn z (brkAt ro q))])) (.inr ⟨a1, _, rfl, ?_, rfl⟩) .of (Shp.shaped (n := 3) (Shp.list fun d hd => ?_)) ?_
  · rw [mset_ne hne, mdel_ne hne, mset_ne hne, mset_same]
  · obtain ⟨x, hx, rfl⟩ := List.mem_map.mp hd
    refine shp_pair Shp.fr (Shp.nms fun y hy => ?_)
    obtain ⟨u, hu, rfl⟩ := List.mem_map.mp hy
    exact lay' _ (by rw [names_chg]; exact List.mem_map_of_mem (hbin x u hu))
  have hMM : MSub M (mset (mdel (mset (mset M a1 (ls.map fun q : Q => PyData.tuple [fr (tmQ (s * t) q), nm (sgn z (brkAt ro q))])) a2 (ls.map (stepD ro))) a2) a2 (ls.map fun x : Q => PyData.tuple [fr x, nm (brkAt ro x)])) := by
    have n2 : M a2 = none := by
      rw [mset_ne hne.symm] at ha2
      exact ha2
    refine msub_set (fun b es hb => ?_) n2
    have nb2 : b ≠ a2 := fun e => by rw [e, n2] at hb; cases hb
    have nb1 : b ≠ a1 := fun e => by rw [e, ha1] at hb; cases hb
    rw [mdel_ne nb2, mset_ne nb2, mset_ne nb1]
    exact hb
  generalize mset (mdel (mset (mset M a1 (ls.map fun q : Q => PyData.tuple [fr (tmQ (s * t) q), nm (sgn z (brkAt ro q))])) a2 (ls.map (stepD ro))) a2) a2 (ls.map fun x : Q => PyData.tuple [fr x, nm (brkAt ro x)]) = M2 at hMM ⊢
  walk_at "d"
  refine ifF rfl ?_
  walk_at "d"
  -- the fewest
  refine ⟨hB, hL, ?_⟩
  walk_at "d"
  refine ⟨hB', hL', ?_⟩
  rw [few_chg s0 t0 hn hq.toRed]
  have fin : ∀ (b : Bool), b = true → rtOf P (.d (.bool b)) M2 := fun b hb => by subst hb; exact ⟨M, p, hMM⟩
  have gshp : SeqAt.shaped (.list ((gprs ro).map fun l => nm (sgn z l))) = true := Shp.shaped (n := 2) (Shp.list fun d hd => by
    obtain ⟨l, hl, rfl⟩ := List.mem_map.mp hd
    have hg := gprs_in hl
    refine Shp.nms fun x hx => ?_
    obtain ⟨y, hy, rfl⟩ := List.mem_map.mp hx
    exact lay' _ (by rw [names_chg]; exact List.mem_map_of_mem (hg.2 y hy)))
  cases hf : fewOf ro q with
  | none =>
    walk_at "d"
    refine ifT rfl ?_
    walk_at "d"
    refine dR_ne_same (d := .none) .of .of rfl ?_
    walk_at "d"
    refine ifF rfl ?_
    walk_at "d"
    refine ⟨hB', ?_⟩
    rw [gprs_dat, gprs_chg s0 t0 hn]
    refine dE_lcLm (enc := nm) (out := fun l => nm (sgn z l)) (xs := gprs ro) ?_
    walk_at "d"
    refine ⟨hB, ?_⟩
    rw [gprs_dat]
    refine ⟨rfl, rfl, by have := gprs_len hl6; omega, fun l hl => ?_, .inl ?_⟩
    · have hg := gprs_in hl
      walk_at "d"
      exact ⟨by omega, fun x hx => shn x (hg.2 x hx), hz, rfl, rfl⟩
    rw [List.map_map]
    refine dR_eq (d := .list ((gprs ro).map fun l => nm (sgn z l))) (e := .list ((gprs ro).map fun l => nm (sgn z l))) .of .of gshp gshp ?_
    rw [shaped_eqv gshp]
    exact fin _ rfl
  | some l =>
    obtain ⟨f1, f2⟩ := few_in hf
    walk_at "d"
    refine ifF rfl ?_
    walk_at "d"
    refine ⟨by omega, fun x hx => shn x (f2 x hx), hz, ?_⟩
    refine dR_ne_same (d := nm (sgn z l)) .of .of (Shp.shaped (n := 1) (Shp.nms fun x hx => ?_)) ?_
    · obtain ⟨u, hu, rfl⟩ := List.mem_map.mp hx
      exact lay' _ (by rw [names_chg]; exact List.mem_map_of_mem (f2 u hu))
    walk_at "d"
    refine ifF rfl ?_
    walk_at "d"
    refine ⟨hB', ?_⟩
    rw [gprs_dat, gprs_chg s0 t0 hn]
    refine dE_lcLm (enc := nm) (out := fun l => nm (sgn z l)) (xs := gprs ro) ?_
    walk_at "d"
    refine ⟨hB, ?_⟩
    rw [gprs_dat]
    refine ⟨rfl, rfl, by have := gprs_len hl6; omega, fun l hl => ?_, .inl ?_⟩
    · have hg := gprs_in hl
      walk_at "d"
      exact ⟨by omega, fun x hx => shn x (hg.2 x hx), hz, rfl, rfl⟩
    rw [List.map_map]
    refine dR_eq (d := .list ((gprs ro).map fun l => nm (sgn z l))) (e := .list ((gprs ro).map fun l => nm (sgn z l))) .of .of gshp gshp ?_
    rw [shaped_eqv gshp]
    exact fin _ rfl
end
end K2

namespace K2
open PySem L2 Sd Ma
local macro_rules | `(tactic| walk_at "d1") => `(tactic| first
  | ((with_reducible refine' dE_var ?dv ?_); (case dv => rfl))
  | with_reducible refine' dE_int ?_
  | with_reducible refine' dE_str ?_
  | with_reducible refine' dE_bl ?_
  | with_reducible refine' dE_non ?_
  | ((with_reducible refine' dE_nt ?dv ?_); (case dv => assumption))
  | with_reducible refine' dE_ref ?_
  | with_reducible refine' dE_op ?_
  | with_reducible refine' dE_un ?_
  | with_reducible refine' dE_cmp ?_
  | with_reducible refine' dE_isN ?_
  | with_reducible refine' dE_notN ?_
  | with_reducible refine' dE_call ?_
  | with_reducible refine' dE_cb ?_
  | with_reducible refine' dE_kw ?_
  | with_reducible refine' dE_tup ?_
  | with_reducible refine' dE_if ?_
  | with_reducible refine' dE_and ?_
  | with_reducible refine' dE_or ?_
  | with_reducible refine' dE_not ?_
  | with_reducible refine' dE_sl ?_
  | with_reducible refine' dO_none ?_
  | with_reducible refine' dO_some ?_
  | with_reducible refine' dA_cons ?_
  | with_reducible refine' dA_nil ?_
  | with_reducible refine' dT_B ?_
  | with_reducible refine' dT_test ?_
  | with_reducible refine' dT_and ?_
  | with_reducible refine' dT_or ?_
  | with_reducible refine' dT_not ?_
  | with_reducible refine' dT_yes ?_
  | with_reducible refine' dR_I0i ?_
  | with_reducible refine' dU_neg ?_
  | ((with_reducible refine' dR_ixT ?dv ?_); (case dv => rfl))
  | with_reducible refine' dS_seq ?_
  | with_reducible refine' dS_next ?_
  | with_reducible refine' dS_ret ?_
  | with_reducible refine' dS_drop ?_
  | with_reducible refine' dS_if ?_
  | with_reducible refine' dS_asg ?_
  | with_reducible refine' dS_par ?_
  | with_reducible refine' dG_name ?_
  | ((with_reducible refine' dG_tup ?dv ?_); (case dv => rfl); (dsimp only [List.map]))
  | with_reducible refine' dGs_cons ?_
  | with_reducible refine' dGs_nil ?_
  | with_reducible refine' dC_abs ?_
  | with_reducible refine' dC_max2 ?_
  | with_reducible refine' dC_min2 ?_
  | with_reducible refine' rtOf.of ?_
  | with_reducible refine' ex_cmp ?_
  | with_reducible refine' ex_bool ?_
  | with_reducible refine' ex_int ?_
  | with_reducible refine' ex_list ?_
  | with_reducible refine' ex_tup ?_
  | with_reducible refine' ex_d ?_
  | with_reducible refine' ex_m ?_
  | with_reducible refine' ex_par ?_
  | with_reducible refine' ex_rg1 ?_
  | with_reducible refine' ex_rg2 ?_
  | ((with_reducible refine' ex_dat ?dv ?dw ?_); (case dv => rfl); (case dw => exact Nat.le_of_ble_eq_true rfl))
  | ((fail_if_success (with_reducible show ∃ _, _)); (fail_if_success (with_reducible show _ ∧ _)); refine ⟨_, _, rfl, ?_⟩)
  | ((fail_if_success (with_reducible show ∃ _, _)); (fail_if_success (with_reducible show _ ∧ _)); refine ⟨_, rfl, ?_⟩)
  | fail)
local macro_rules | `(tactic| walk_at "d") => `(tactic| repeat' walk_at "d1")
local macro_rules | `(tactic| walk_at "e1") => `(tactic| first
  | ((with_reducible refine' dE_var ?dv ?_); (case dv => rfl))
  | with_reducible refine' dE_int ?_
  | with_reducible refine' dE_str ?_
  | with_reducible refine' dE_bl ?_
  | with_reducible refine' dE_non ?_
  | ((with_reducible refine' dE_nt ?dv ?_); (case dv => assumption))
  | with_reducible refine' dE_ref ?_
  | with_reducible refine' dE_op ?_
  | with_reducible refine' dE_un ?_
  | with_reducible refine' dE_cmp ?_
  | with_reducible refine' dE_isN ?_
  | with_reducible refine' dE_notN ?_
  | with_reducible refine' dE_call ?_
  | with_reducible refine' dE_cb ?_
  | with_reducible refine' dE_kw ?_
  | with_reducible refine' dE_tup ?_
  | with_reducible refine' dE_if ?_
  | with_reducible refine' dE_and ?_
  | with_reducible refine' dE_or ?_
  | with_reducible refine' dE_not ?_
  | with_reducible refine' dE_sl ?_
  | with_reducible refine' dO_none ?_
  | with_reducible refine' dO_some ?_
  | with_reducible refine' dA_cons ?_
  | with_reducible refine' dA_nil ?_
  | with_reducible refine' dT_B ?_
  | with_reducible refine' dT_test ?_
  | with_reducible refine' dT_and ?_
  | with_reducible refine' dT_or ?_
  | with_reducible refine' dT_not ?_
  | with_reducible refine' dT_yes ?_
  | with_reducible refine' dR_I0i ?_
  | with_reducible refine' dU_neg ?_
  | ((with_reducible refine' dR_ixT ?dv ?_); (case dv => rfl))
  | with_reducible refine' dS_next ?_
  | with_reducible refine' dS_ret ?_
  | with_reducible refine' dS_drop ?_
  | with_reducible refine' dS_if ?_
  | with_reducible refine' dS_asg ?_
  | with_reducible refine' dS_par ?_
  | with_reducible refine' dG_name ?_
  | ((with_reducible refine' dG_tup ?dv ?_); (case dv => rfl); (dsimp only [List.map]))
  | with_reducible refine' dGs_cons ?_
  | with_reducible refine' dGs_nil ?_
  | with_reducible refine' dC_abs ?_
  | with_reducible refine' dC_max2 ?_
  | with_reducible refine' dC_min2 ?_
  | with_reducible refine' rtOf.of ?_
  | with_reducible refine' ex_cmp ?_
  | with_reducible refine' ex_bool ?_
  | with_reducible refine' ex_int ?_
  | with_reducible refine' ex_list ?_
  | with_reducible refine' ex_tup ?_
  | with_reducible refine' ex_d ?_
  | with_reducible refine' ex_m ?_
  | with_reducible refine' ex_par ?_
  | with_reducible refine' ex_rg1 ?_
  | with_reducible refine' ex_rg2 ?_
  | ((with_reducible refine' ex_dat ?dv ?dw ?_); (case dv => rfl); (case dw => exact Nat.le_of_ble_eq_true rfl))
  | ((fail_if_success (with_reducible show ∃ _, _)); (fail_if_success (with_reducible show _ ∧ _)); refine ⟨_, _, rfl, ?_⟩)
  | ((fail_if_success (with_reducible show ∃ _, _)); (fail_if_success (with_reducible show _ ∧ _)); refine ⟨_, rfl, ?_⟩)
  | fail)
local macro_rules | `(tactic| walk_at "e") => `(tactic| repeat' walk_at "e1")

/-- what is told to be a bundle is one -/
theorem bun_of {ro : List Rope} (h : bunB (bd ro) = true) : Bun ro := by
  have h' : (decide (1 ≤ (ro.map Rope.d).length) && (decide ((ro.map Rope.d).length ≤ 6) && ((ro.map Rope.d).all ropeB && risB ((ro.map Rope.d).map nmOf)))) = true := h
  rw [Bool.and_eq_true, Bool.and_eq_true, Bool.and_eq_true, decide_eq_true_iff, decide_eq_true_iff, List.length_map, List.all_eq_true] at h'
  obtain ⟨h1, h2, h3, h4⟩ := h'
  have hr : ∀ r ∈ ro, (nameB (.str r.n) && (inB 0 1000 (.int r.a) && (inB 1 100 (.int r.b) && inB 1 1000000 (.int r.c)))) = true := fun r hr => h3 _ (List.mem_map_of_mem hr)
  refine ⟨fun e => by rw [e] at h1; simp at h1, h2, fun r hm => ?_, ?_, fun r hm => ?_⟩
  · have k := hr r hm
    rw [Bool.and_eq_true] at k
    have k1 : (decide (1 ≤ r.n.length) && decide (r.n.length ≤ 8) && r.n.cps.toList.all fun c => decide (97 ≤ c) && decide (c ≤ 122)) = true := k.1
    rw [Bool.and_eq_true, Bool.and_eq_true, decide_eq_true_iff, decide_eq_true_iff, List.all_eq_true] at k1
    refine ⟨by omega, fun c hc => ?_⟩
    have := k1.2 c hc
    rw [Bool.and_eq_true, decide_eq_true_iff, decide_eq_true_iff] at this
    omega
  · have e : (ro.map Rope.d).map nmOf = ro.map Rope.n := by rw [List.map_map]; rfl
    rw [e, ris_pw] at h4
    exact h4.imp fun k => of_decide_eq_true k
  · have k := hr r hm
    rw [Bool.and_eq_true, Bool.and_eq_true, Bool.and_eq_true] at k
    obtain ⟨_, ka, kb, kc⟩ := k
    have ka' : (decide (0 ≤ r.a) && decide (r.a ≤ 1000)) = true := ka
    have kb' : (decide (1 ≤ r.b) && decide (r.b ≤ 100)) = true := kb
    have kc' : (decide (1 ≤ r.c) && decide (r.c ≤ 1000000)) = true := kc
    rw [Bool.and_eq_true, decide_eq_true_iff, decide_eq_true_iff] at ka' kb' kc'
    exact ⟨ka'.1, ka'.2, kb'.1, kb'.2, kc'.1, kc'.2⟩
theorem chg_gd {ro : List Rope} {s t : Int} {z : Str} (hB : Bun ro) (s0 : 0 < s) (s1 : s < 10) (t0 : 0 < t) (t1 : t < 10) (hz : z.length ≤ 10) (hc : ∀ c ∈ z.cps.toList, c < 128) : Gd (bd (chgs s t z ro)) := by
  refine ⟨0, by decide, .tuple _ (by rw [List.length_map, List.length_map]; have := hB.len; omega) fun d hd => ?_, ?_⟩
  · obtain ⟨r', hr', rfl⟩ := List.mem_map.mp hd
    obtain ⟨r, hr, rfl⟩ := List.mem_map.mp hr'
    have ho := fine_ok (hB.fine r hr)
    have zs : Sz 10 s := sz10 s0 (by omega)
    have zt : Sz 10 t := sz10 t0 (by omega)
    refine .tuple _ (by show 4 ≤ 10 + 0; decide) fun x hx => ?_
    simp only [List.mem_cons, List.not_mem_nil, or_false] at hx
    rcases hx with rfl | rfl | rfl | rfl
    · refine .str _ ?_ fun c hc' => ?_
      · have e : (r.n ++ z).length = r.n.length + z.length := Array.size_append
        have := (hB.asc r hr).1
        show (r.n ++ z).length ≤ _
        rw [e]
        omega
      · have hc2 : c ∈ (r.n.cps ++ z.cps).toList := hc'
        rw [Array.toList_append] at hc2
        rcases List.mem_append.mp hc2 with k | k
        · exact (hB.asc r hr).2 c k
        · exact hc c k
    · exact .int _ ((ho.aS.mul zs).up (by decide))
    · exact .int _ ((ho.bS.mul zt).up (by decide))
    · exact .int _ (((ho.cS.mul zs).mul zt).up (by decide))
  · have h : Shp 2 (bd (chgs s t z ro)) := Shp.tup fun d hd => by
      obtain ⟨r', hr', rfl⟩ := List.mem_map.mp hd
      obtain ⟨r, hr, rfl⟩ := List.mem_map.mp hr'
      refine Shp.rope (ascii_lay fun c hc' => ?_)
      have hc2 : c ∈ (r.n.cps ++ z.cps).toList := hc'
      rw [Array.toList_append] at hc2
      rcases List.mem_append.mp hc2 with k | k
      · exact (hB.asc r hr).2 c k
      · exact hc c k
    exact Nat.le_trans h.2 (by decide)
theorem load_mk {q : Q} (h : Red q) (h1 : q.1 ≤ 3000000) (h2 : q.2 ≤ 6) : Mk q := ⟨h, by omega, by omega⟩
section
variable {P : Program} {w : World} {K : PySem.W.Frag} {mg : Str → Option Value} {base : Heap} {f : Addr} {fd : FuncData}
abbrev s_law : Stmt := topS 66
theorem sc_law : FnScope ["script", "k", "bag", "bundle", "by", "slacker", "stiffer", "sign", "other", "load"] ["script"] (defScope s_law) := ⟨rfl, rfl, rfl, by decide +kernel, rfl, by decide +kernel, by decide +kernel⟩
theorem ok_law (T : Txt mg) (F : Fun K "law" "law" s_law f fd) (c_law_bag : Has P w K mg base 1 "_law_bag" ["script", "k"] S_bag) (c_law_take : Has P w K mg base 1 "_law_take" ["bag", "many"] S_take) (c_law_bundle : Has P w K mg base 3 "_law_bundle" ["bag", "most"] S_bundle) (c_law_changed : Has P w K mg base 1 "_law_changed" ["bundle", "slacker", "stiffer", "sign"] S_changed) (c_is_bundle : Has P w K mg base 4 "is_bundle" ["thing"] S_isbun)
    (c_law_load : Has P w K mg base 2 "_law_load" ["bag"] S_load) (c_law_of : Has P w K mg base 2 "_law_of" ["bag", "some"] S_of) (c_law_marks : Has P w K mg base 3 "_law_marks" ["bundle"] S_marks) (c_law_goes : Has P w K mg base 10 "_law_goes" ["bundle", "other", "scale", "sign", "load"] S_goes) : FnOk P w K mg base CX0 11 f fd ["script"] (spOf K S_law) := by
  refine ok_of F sc_law (fun rs M P h => by obtain ⟨a, rfl, _⟩ := h; rfl) fun cdv A outer s H E hr => ⟨_, (pss_cons (ps_for PassesOwn.never rfl (pi_range1 (by rfl) T.range (pa_cons (pe_op op_add pe_int (pe_callB (call_min2 rfl) (by rfl) T.min (by decide +kernel) (pa_cons (pe_callB (kcall_len K) (by rfl) T.len (by decide +kernel) (pa_cons (pv 0) pa_nil)) (pa_cons pe_int pa_nil)))) pa_nil)) (pg_name (i := 1) sc_law.nd rfl (Or.inl rfl)) (pss_cons (ps_set (i := 2) sc_law.nd rfl (Or.inl rfl) (pe_callH' c_law_bag (hr.mono (by first | decide | omega)) rfl (pa_cons (pv 0) (pa_cons (pv 1) pa_nil))))
      (pss_cons (ps_set (i := 3) sc_law.nd rfl (Or.inl rfl) (pe_callH' c_law_bundle (hr.mono (by first | decide | omega)) rfl (pa_cons (pv 2) (pa_cons pe_int pa_nil))))
      (pss_cons (ps_set (i := 4) sc_law.nd rfl (Or.inl rfl) (pe_op op_add pe_int (pe_callH' c_law_take (hr.mono (by first | decide | omega)) rfl (pa_cons (pv 2) (pa_cons pe_int pa_nil)))))
      (pss_one (ps_for PassesOwn.never rfl (kpi_list K (pe_lst (pa_cons (pe_tup (pa_cons (pv 4) (pa_cons pe_int (pa_cons pe_str pa_nil)))) (pa_cons (pe_tup (pa_cons pe_int (pa_cons (pv 4) (pa_cons pe_str pa_nil)))) (pa_cons (pe_tup (pa_cons pe_int (pa_cons pe_int (pa_cons pe_str pa_nil)))) pa_nil))))) (kpg_tup K (n := 3) rfl (pgs_cons (pg_name (i := 5) sc_law.nd rfl (Or.inl rfl)) (pgs_cons (pg_name (i := 6) sc_law.nd rfl (Or.inl rfl)) (pgs_cons (pg_name (i := 7) sc_law.nd rfl (Or.inl rfl)) pgs_nil)))) (pss_cons (ps_set (i := 8) sc_law.nd rfl (Or.inl rfl) (pe_callH' c_law_changed (hr.mono (by first | decide | omega)) rfl (pa_cons (pv 3) (pa_cons (pv 5) (pa_cons (pv 6) (pa_cons (pv 7) pa_nil))))))
      (pss_one (ps_if (pt_val (pe_callH' c_is_bundle (hr.mono (by first | decide | omega)) rfl (pa_cons (pv 8) pa_nil))) (pss_one (ps_for PassesOwn.never rfl (kpi_list K (pe_lst (pa_cons (pe_callH' c_law_load (hr.mono (by first | decide | omega)) rfl (pa_cons (pv 2) pa_nil)) (pa_cons (pe_callH' c_law_of (hr.mono (by first | decide | omega)) rfl (pa_cons (pv 2) (pa_cons (pe_callH' c_law_marks (hr.mono (by first | decide | omega)) rfl (pa_cons (pv 3) pa_nil)) pa_nil))) pa_nil)))) (pg_name (i := 9) sc_law.nd rfl (Or.inl rfl)) (pss_one (ps_if (pt_not (pt_val (pe_callH' c_law_goes (hr.mono (by first | decide | omega)) rfl (pa_cons (pv 3) (pa_cons (pv 8) (pa_cons (pe_tup (pa_cons (pv 5) (pa_cons (pe_op op_mulW (pv 5) (pv 6)) pa_nil))) (pa_cons (pv 7) (pa_cons (pv 9) pa_nil)))))))) (pss_one (ps_ret pe_bl)) pss_nil)))) pss_nil)))))))))
      (pss_one (ps_ret pe_bl))), fun rs M P h => ?_⟩
  obtain ⟨ns, rfl, hns, p⟩ := h
  walk_at "d"
  refine dS_range1 ?_
  walk_at "d"
  refine dC_lenS ?_
  walk_at "d"
  refine ⟨by split <;> omega, fun i δ M' => ∃ (x1 x2 x3 x4 x5 x6 x7 x8 x9 : Option SV), δ = [some (.l ns), x1, x2, x3, x4, x5, x6, x7, x8, x9] ∧ MSub M M',
    ⟨_, _, _, _, _, _, _, _, _, rfl, MSub.refl⟩, fun i δ M' hi hI => ?_, fun δ M' hI => ?_⟩
  · obtain ⟨x1, x2, x3, x4, x5, x6, x7, x8, x9, rfl, hM⟩ := hI
    have hi' : (i : Int) < 1000 := by split at hi <;> omega
    walk_at "d"
    refine ⟨by omega, hi', fun b ds hb hB => ?_⟩
    have hMb : M b = none := by
      cases q : M b with
      | none => rfl
      | some es => rw [hM b es q] at hb; cases hb
    walk_at "d"
    refine ⟨by decide, by decide, ⟨ds, mset_same, hB⟩, fun ro M1 hro B1 => ?_⟩
    have hM1 : MSub M M1 := msub_bs (msub_set hM hMb) hMb B1
    have hI1 := B1.bi
    have hl6 := hro.len
    clear B1 hB hb hM
    walk_at "d"
    refine ⟨by decide, by decide, hI1, fun by' M2 b0 b1 B2 => ?_⟩
    have hM2 : MSub M M2 := msub_bs hM1 hMb B2
    have hI2 := B2.bi
    clear B2 hM1 hI1
    walk_at "e"
    refine dS_forL ?_
    refine dE_lst ?_
    walk_at "d"
    refine ⟨fun j δ M' => ∃ (x1 x5 x6 x7 x8 x9 : Option SV), δ = [some (.l ns), x1, some (.m b), some (.d (bd ro)), some (.d (.int (2 + by'))), x5, x6, x7, x8, x9] ∧ MSub M M' ∧ BI M' b,
      ⟨_, _, _, _, _, _, rfl, hM2, hI2⟩, fun j y δ M' hy hJ => ?_, fun δ M' hJ => ?_⟩
    · obtain ⟨x1, x5, x6, x7, x8, x9, rfl, hM, hI⟩ := hJ
      clear hM2 hI2
      have hall : ∃ (s t : Int) (z : Str), 0 < s ∧ s < 10 ∧ 0 < t ∧ t < 10 ∧ z.length ≤ 10 ∧ (∀ c ∈ z.cps.toList, c < 128) ∧ y = .tuple [.int s, .int t, .str z] := by
        have hm' := List.mem_of_getElem? hy
        simp only [List.mem_cons, List.not_mem_nil, or_false] at hm'
        rcases hm' with rfl | rfl | rfl
        · exact ⟨2 + by', 1, _, by omega, by omega, by omega, by omega, by decide, by decide +kernel, rfl⟩
        · exact ⟨1, 2 + by', _, by omega, by omega, by omega, by omega, by decide, by decide +kernel, rfl⟩
        · exact ⟨1, 1, _, by omega, by omega, by omega, by omega, by decide, by decide +kernel, rfl⟩
      obtain ⟨s, t, z, s0, s1, t0, t1, hz, hc, rfl⟩ := hall
      clear hy
      walk_at "d"
      refine ⟨ro, s, t, z, rfl, hro, s0, s1, t0, t1, hz, ?_⟩
      walk_at "d"
      refine ⟨chg_gd hro s0 s1 t0 t1 hz hc, ?_⟩
      walk_at "d"
      refine ifB (fun h => ?_) (fun h => ?_)
      · have hB' := bun_of h
        refine dS_forL ?_
        refine dE_lst ?_
        walk_at "d"
        refine ⟨hI, fun q0 M3 hq0 hq1 hq2 B3 => ?_⟩
        have hM3 : MSub M M3 := msub_bs hM hMb B3
        have hI3 := B3.bi
        clear B3
        walk_at "d"
        refine ⟨hro, fun qs hqs hmk => ?_⟩
        walk_at "d"
        refine ⟨b, _, qs.map fr, rfl, .inl rfl, (by intro e; cases e), ?_, by rw [List.length_map, hqs]; omega, hI3, fun d M4 hd B4 => ?_⟩
        · intro e
          have := List.map_eq_nil_iff.mp e
          rw [this] at hqs
          exact hro.ne (List.length_eq_zero_iff.mp hqs.symm)
        obtain ⟨mk, hmk1, rfl⟩ := List.mem_map.mp hd
        have hM4 : MSub M M4 := msub_bs hM3 hMb B4
        have hI4 := B4.bi
        clear B4 hM3 hI3
        walk_at "d"
        refine ⟨fun j2 δ M' => ∃ (x1 x9 : Option SV), δ = [some (.l ns), x1, some (.m b), some (.d (bd ro)), some (.d (.int (2 + by'))), some (.d (.int s)), some (.d (.int t)), some (.d (.str z)), some (.d (bd (chgs s t z ro))), x9] ∧ M' = M4,
          ⟨_, _, rfl, rfl⟩, fun j2 y δ M' hy hJ => ?_, fun δ M' hJ => ?_⟩
        · obtain ⟨x1, x9, rfl, rfl⟩ := hJ
          obtain ⟨q, hq, rfl⟩ := getElem?_map_some (f := fr) (l := [q0, mk]) hy
          have hqm : Mk q := by
            have := List.mem_of_getElem? hq
            simp only [List.mem_cons, List.not_mem_nil, or_false] at this
            rcases this with rfl | rfl
            · exact load_mk hq0 hq1 hq2
            · exact hmk _ hmk1
          walk_at "d"
          refine dR_Ii (Sz.mulOk (sz10 s0 (by omega)) (sz10 t0 (by omega)) (by decide) (by decide) (by decide)) ?_
          walk_at "d"
          refine ⟨ro, s, t, z, q, rfl, hro, hB', s0, s1, t0, t1, hz, hqm, ?_⟩
          walk_at "d"
          refine ifF rfl ?_
          walk_at "d"
          exact ⟨_, _, rfl, rfl⟩
        · obtain ⟨x1, x9, rfl, rfl⟩ := hJ
          exact ⟨_, _, _, _, _, _, rfl, hM4, hI4⟩
      · walk_at "d"
        exact ⟨_, _, _, _, _, _, rfl, hM, hI⟩
    · obtain ⟨x1, x5, x6, x7, x8, x9, rfl, hM, hI⟩ := hJ
      exact ⟨_, _, _, _, _, _, _, _, _, rfl, hM⟩
  · obtain ⟨x1, x2, x3, x4, x5, x6, x7, x8, x9, rfl, hM⟩ := hI
    exact dS_ret (dE_bl ⟨M, p, hM⟩)
end
end K2

namespace K2
open PySem L2 Sd Ma
theorem all_mk {l : PySem.W.OpenLaw} {w : World} {K : PySem.W.Frag} {h : Heap} {mg : Str → Option Value} {fa : Addr} (X : K.In h) (G : h.Ns mainGlobals mg) (hfa : mg "law" = some (.ref fa))
    {f_is_whole : Addr} {od0 an0 : Option Addr} {sl0 : Array (Option Value)} {oc0 kV0 dc0 pm0 cd0 ct0 : Value}
    {f_is_name : Addr} {od1 an1 : Option Addr} {sl1 : Array (Option Value)} {oc1 kV1 dc1 pm1 cd1 ct1 : Value}
    {f_common_divisor : Addr} {od2 an2 : Option Addr} {sl2 : Array (Option Value)} {oc2 kV2 dc2 pm2 cd2 ct2 : Value}
    {f_fraction : Addr} {od3 an3 : Option Addr} {sl3 : Array (Option Value)} {oc3 kV3 dc3 pm3 cd3 ct3 : Value}
    {f_is_more : Addr} {od4 an4 : Option Addr} {sl4 : Array (Option Value)} {oc4 kV4 dc4 pm4 cd4 ct4 : Value}
    {f_plus : Addr} {od5 an5 : Option Addr} {sl5 : Array (Option Value)} {oc5 kV5 dc5 pm5 cd5 ct5 : Value}
    {f_rising : Addr} {od6 an6 : Option Addr} {sl6 : Array (Option Value)} {oc6 kV6 dc6 pm6 cd6 ct6 : Value}
    {f_is_bundle : Addr} {od7 an7 : Option Addr} {sl7 : Array (Option Value)} {oc7 kV7 dc7 pm7 cd7 ct7 : Value}
    {f_sinking : Addr} {od8 an8 : Option Addr} {sl8 : Array (Option Value)} {oc8 kV8 dc8 pm8 cd8 ct8 : Value}
    {f_pulls : Addr} {od9 an9 : Option Addr} {sl9 : Array (Option Value)} {oc9 kV9 dc9 pm9 cd9 ct9 : Value}
    {f_is_rope : Addr} {od10 an10 : Option Addr} {sl10 : Array (Option Value)} {oc10 kV10 dc10 pm10 cd10 ct10 : Value}
    {f_is_within : Addr} {od11 an11 : Option Addr} {sl11 : Array (Option Value)} {oc11 kV11 dc11 pm11 cd11 ct11 : Value}
    {f_ropes_left : Addr} {od12 an12 : Option Addr} {sl12 : Array (Option Value)} {oc12 kV12 dc12 pm12 cd12 ct12 : Value}
    {f_sunk_by : Addr} {od13 an13 : Option Addr} {sl13 : Array (Option Value)} {oc13 kV13 dc13 pm13 cd13 ct13 : Value}
    {f_slack_of : Addr} {od14 an14 : Option Addr} {sl14 : Array (Option Value)} {oc14 kV14 dc14 pm14 cd14 ct14 : Value}
    {f_is_drawn : Addr} {od15 an15 : Option Addr} {sl15 : Array (Option Value)} {oc15 kV15 dc15 pm15 cd15 ct15 : Value}
    {f_pull_at : Addr} {od16 an16 : Option Addr} {sl16 : Array (Option Value)} {oc16 kV16 dc16 pm16 cd16 ct16 : Value}
    {f_pulled_at : Addr} {od17 an17 : Option Addr} {sl17 : Array (Option Value)} {oc17 kV17 dc17 pm17 cd17 ct17 : Value}
    {f_table : Addr} {od18 an18 : Option Addr} {sl18 : Array (Option Value)} {oc18 kV18 dc18 pm18 cd18 ct18 : Value}
    {f_greatest : Addr} {od19 an19 : Option Addr} {sl19 : Array (Option Value)} {oc19 kV19 dc19 pm19 cd19 ct19 : Value}
    {f_steps : Addr} {od20 an20 : Option Addr} {sl20 : Array (Option Value)} {oc20 kV20 dc20 pm20 cd20 ct20 : Value}
    {f_end_of : Addr} {od21 an21 : Option Addr} {sl21 : Array (Option Value)} {oc21 kV21 dc21 pm21 cd21 ct21 : Value}
    {f_lasting_to : Addr} {od22 an22 : Option Addr} {sl22 : Array (Option Value)} {oc22 kV22 dc22 pm22 cd22 ct22 : Value}
    {f_lasting_till : Addr} {od23 an23 : Option Addr} {sl23 : Array (Option Value)} {oc23 kV23 dc23 pm23 cd23 ct23 : Value}
    {f_breaking_at : Addr} {od24 an24 : Option Addr} {sl24 : Array (Option Value)} {oc24 kV24 dc24 pm24 cd24 ct24 : Value}
    {f_waves : Addr} {od25 an25 : Option Addr} {sl25 : Array (Option Value)} {oc25 kV25 dc25 pm25 cd25 ct25 : Value}
    {f_broken_by : Addr} {od26 an26 : Option Addr} {sl26 : Array (Option Value)} {oc26 kV26 dc26 pm26 cd26 ct26 : Value}
    {f_bears : Addr} {od27 an27 : Option Addr} {sl27 : Array (Option Value)} {oc27 kV27 dc27 pm27 cd27 ct27 : Value}
    {f_giving_way : Addr} {od28 an28 : Option Addr} {sl28 : Array (Option Value)} {oc28 kV28 dc28 pm28 cd28 ct28 : Value}
    {f_is_too_much : Addr} {od29 an29 : Option Addr} {sl29 : Array (Option Value)} {oc29 kV29 dc29 pm29 cd29 ct29 : Value}
    {f_whole_till : Addr} {od30 an30 : Option Addr} {sl30 : Array (Option Value)} {oc30 kV30 dc30 pm30 cd30 ct30 : Value}
    {f_guards : Addr} {od31 an31 : Option Addr} {sl31 : Array (Option Value)} {oc31 kV31 dc31 pm31 cd31 ct31 : Value}
    {f_fewest_doubled : Addr} {od32 an32 : Option Addr} {sl32 : Array (Option Value)} {oc32 kV32 dc32 pm32 cd32 ct32 : Value}
    {f_rope_called : Addr} {od33 an33 : Option Addr} {sl33 : Array (Option Value)} {oc33 kV33 dc33 pm33 cd33 ct33 : Value}
    {f_is_guard : Addr} {od34 an34 : Option Addr} {sl34 : Array (Option Value)} {oc34 kV34 dc34 pm34 cd34 ct34 : Value}
    {f_choices : Addr} {od35 an35 : Option Addr} {sl35 : Array (Option Value)} {oc35 kV35 dc35 pm35 cd35 ct35 : Value}
    {f_with_doubled : Addr} {od36 an36 : Option Addr} {sl36 : Array (Option Value)} {oc36 kV36 dc36 pm36 cd36 ct36 : Value}
    {f_doubled : Addr} {od37 an37 : Option Addr} {sl37 : Array (Option Value)} {oc37 kV37 dc37 pm37 cd37 ct37 : Value}
    {f_law_bag : Addr} {od38 an38 : Option Addr} {sl38 : Array (Option Value)} {oc38 kV38 dc38 pm38 cd38 ct38 : Value}
    {f_law_take : Addr} {od39 an39 : Option Addr} {sl39 : Array (Option Value)} {oc39 kV39 dc39 pm39 cd39 ct39 : Value}
    {f_law_of : Addr} {od40 an40 : Option Addr} {sl40 : Array (Option Value)} {oc40 kV40 dc40 pm40 cd40 ct40 : Value}
    {f_law_lowest : Addr} {od41 an41 : Option Addr} {sl41 : Array (Option Value)} {oc41 kV41 dc41 pm41 cd41 ct41 : Value}
    {f_law_rope : Addr} {od42 an42 : Option Addr} {sl42 : Array (Option Value)} {oc42 kV42 dc42 pm42 cd42 ct42 : Value}
    {f_law_bundle : Addr} {od43 an43 : Option Addr} {sl43 : Array (Option Value)} {oc43 kV43 dc43 pm43 cd43 ct43 : Value}
    {f_law_load : Addr} {od44 an44 : Option Addr} {sl44 : Array (Option Value)} {oc44 kV44 dc44 pm44 cd44 ct44 : Value}
    {f_law_plus : Addr} {od45 an45 : Option Addr} {sl45 : Array (Option Value)} {oc45 kV45 dc45 pm45 cd45 ct45 : Value}
    {f_law_less : Addr} {od46 an46 : Option Addr} {sl46 : Array (Option Value)} {oc46 kV46 dc46 pm46 cd46 ct46 : Value}
    {f_law_pull : Addr} {od47 an47 : Option Addr} {sl47 : Array (Option Value)} {oc47 kV47 dc47 pm47 cd47 ct47 : Value}
    {f_law_end : Addr} {od48 an48 : Option Addr} {sl48 : Array (Option Value)} {oc48 kV48 dc48 pm48 cd48 ct48 : Value}
    {f_law_marks : Addr} {od49 an49 : Option Addr} {sl49 : Array (Option Value)} {oc49 kV49 dc49 pm49 cd49 ct49 : Value}
    {f_law_times : Addr} {od50 an50 : Option Addr} {sl50 : Array (Option Value)} {oc50 kV50 dc50 pm50 cd50 ct50 : Value}
    {f_law_changed : Addr} {od51 an51 : Option Addr} {sl51 : Array (Option Value)} {oc51 kV51 dc51 pm51 cd51 ct51 : Value}
    {f_law_named : Addr} {od52 an52 : Option Addr} {sl52 : Array (Option Value)} {oc52 kV52 dc52 pm52 cd52 ct52 : Value}
    {f_law_goes : Addr} {od53 an53 : Option Addr} {sl53 : Array (Option Value)} {oc53 kV53 dc53 pm53 cd53 ct53 : Value}
    {f_law : Addr} {od54 an54 : Option Addr} {sl54 : Array (Option Value)} {oc54 kV54 dc54 pm54 cd54 ct54 : Value}
    {a_N : Addr} {odN : Option Addr} {t0N t1N : Tok} {nN : Nat} {slN : Array (Option Value)}
    {t_MOST_LETTERS : Tok}
    {t_MOST_SLACK : Tok}
    {t_MOST_STIFF : Tok}
    {t_MOST_STRONG : Tok}
    {t_MOST_ROPES : Tok}
    (a0 : PySem.W.nsIn K mainGlobals "is_whole" = some (some (.ref f_is_whole))) (l0 : K.lookup f_is_whole = some ⟨oc0, od0, .func (PySem.W.fnOf "is_whole" "is_whole" (defArgs s_is_whole) (defBody s_is_whole) (defScope s_is_whole) .none kV0 dc0 pm0 an0 cd0 ct0), sl0⟩) (c0 : PySem.W.codeIn K cd0 "is_whole" = true) (k0 : PySem.W.keepIn K (.ref f_is_whole) = true)
    (a1 : PySem.W.nsIn K mainGlobals "is_name" = some (some (.ref f_is_name))) (l1 : K.lookup f_is_name = some ⟨oc1, od1, .func (PySem.W.fnOf "is_name" "is_name" (defArgs s_is_name) (defBody s_is_name) (defScope s_is_name) .none kV1 dc1 pm1 an1 cd1 ct1), sl1⟩) (c1 : PySem.W.codeIn K cd1 "is_name" = true) (k1 : PySem.W.keepIn K (.ref f_is_name) = true)
    (a2 : PySem.W.nsIn K mainGlobals "common_divisor" = some (some (.ref f_common_divisor))) (l2 : K.lookup f_common_divisor = some ⟨oc2, od2, .func (PySem.W.fnOf "common_divisor" "common_divisor" (defArgs s_common_divisor) (defBody s_common_divisor) (defScope s_common_divisor) .none kV2 dc2 pm2 an2 cd2 ct2), sl2⟩) (c2 : PySem.W.codeIn K cd2 "common_divisor" = true) (k2 : PySem.W.keepIn K (.ref f_common_divisor) = true)
    (a3 : PySem.W.nsIn K mainGlobals "fraction" = some (some (.ref f_fraction))) (l3 : K.lookup f_fraction = some ⟨oc3, od3, .func (PySem.W.fnOf "fraction" "fraction" (defArgs s_fraction) (defBody s_fraction) (defScope s_fraction) .none kV3 dc3 pm3 an3 cd3 ct3), sl3⟩) (c3 : PySem.W.codeIn K cd3 "fraction" = true) (k3 : PySem.W.keepIn K (.ref f_fraction) = true)
    (a4 : PySem.W.nsIn K mainGlobals "is_more" = some (some (.ref f_is_more))) (l4 : K.lookup f_is_more = some ⟨oc4, od4, .func (PySem.W.fnOf "is_more" "is_more" (defArgs s_is_more) (defBody s_is_more) (defScope s_is_more) .none kV4 dc4 pm4 an4 cd4 ct4), sl4⟩) (c4 : PySem.W.codeIn K cd4 "is_more" = true) (k4 : PySem.W.keepIn K (.ref f_is_more) = true)
    (a5 : PySem.W.nsIn K mainGlobals "plus" = some (some (.ref f_plus))) (l5 : K.lookup f_plus = some ⟨oc5, od5, .func (PySem.W.fnOf "plus" "plus" (defArgs s_plus) (defBody s_plus) (defScope s_plus) .none kV5 dc5 pm5 an5 cd5 ct5), sl5⟩) (c5 : PySem.W.codeIn K cd5 "plus" = true) (k5 : PySem.W.keepIn K (.ref f_plus) = true)
    (a6 : PySem.W.nsIn K mainGlobals "rising" = some (some (.ref f_rising))) (l6 : K.lookup f_rising = some ⟨oc6, od6, .func (PySem.W.fnOf "rising" "rising" (defArgs s_rising) (defBody s_rising) (defScope s_rising) .none kV6 dc6 pm6 an6 cd6 ct6), sl6⟩) (c6 : PySem.W.codeIn K cd6 "rising" = true) (k6 : PySem.W.keepIn K (.ref f_rising) = true)
    (a7 : PySem.W.nsIn K mainGlobals "is_bundle" = some (some (.ref f_is_bundle))) (l7 : K.lookup f_is_bundle = some ⟨oc7, od7, .func (PySem.W.fnOf "is_bundle" "is_bundle" (defArgs s_is_bundle) (defBody s_is_bundle) (defScope s_is_bundle) .none kV7 dc7 pm7 an7 cd7 ct7), sl7⟩) (c7 : PySem.W.codeIn K cd7 "is_bundle" = true) (k7 : PySem.W.keepIn K (.ref f_is_bundle) = true)
    (a8 : PySem.W.nsIn K mainGlobals "sinking" = some (some (.ref f_sinking))) (l8 : K.lookup f_sinking = some ⟨oc8, od8, .func (PySem.W.fnOf "sinking" "sinking" (defArgs s_sinking) (defBody s_sinking) (defScope s_sinking) .none kV8 dc8 pm8 an8 cd8 ct8), sl8⟩) (c8 : PySem.W.codeIn K cd8 "sinking" = true) (k8 : PySem.W.keepIn K (.ref f_sinking) = true)
    (a9 : PySem.W.nsIn K mainGlobals "pulls" = some (some (.ref f_pulls))) (l9 : K.lookup f_pulls = some ⟨oc9, od9, .func (PySem.W.fnOf "pulls" "pulls" (defArgs s_pulls) (defBody s_pulls) (defScope s_pulls) .none kV9 dc9 pm9 an9 cd9 ct9), sl9⟩) (c9 : PySem.W.codeIn K cd9 "pulls" = true) (k9 : PySem.W.keepIn K (.ref f_pulls) = true)
    (a10 : PySem.W.nsIn K mainGlobals "is_rope" = some (some (.ref f_is_rope))) (l10 : K.lookup f_is_rope = some ⟨oc10, od10, .func (PySem.W.fnOf "is_rope" "is_rope" (defArgs s_is_rope) (defBody s_is_rope) (defScope s_is_rope) .none kV10 dc10 pm10 an10 cd10 ct10), sl10⟩) (c10 : PySem.W.codeIn K cd10 "is_rope" = true) (k10 : PySem.W.keepIn K (.ref f_is_rope) = true)
    (a11 : PySem.W.nsIn K mainGlobals "is_within" = some (some (.ref f_is_within))) (l11 : K.lookup f_is_within = some ⟨oc11, od11, .func (PySem.W.fnOf "is_within" "is_within" (defArgs s_is_within) (defBody s_is_within) (defScope s_is_within) .none kV11 dc11 pm11 an11 cd11 ct11), sl11⟩) (c11 : PySem.W.codeIn K cd11 "is_within" = true) (k11 : PySem.W.keepIn K (.ref f_is_within) = true)
    (a12 : PySem.W.nsIn K mainGlobals "ropes_left" = some (some (.ref f_ropes_left))) (l12 : K.lookup f_ropes_left = some ⟨oc12, od12, .func (PySem.W.fnOf "ropes_left" "ropes_left" (defArgs s_ropes_left) (defBody s_ropes_left) (defScope s_ropes_left) .none kV12 dc12 pm12 an12 cd12 ct12), sl12⟩) (c12 : PySem.W.codeIn K cd12 "ropes_left" = true) (k12 : PySem.W.keepIn K (.ref f_ropes_left) = true)
    (a13 : PySem.W.nsIn K mainGlobals "sunk_by" = some (some (.ref f_sunk_by))) (l13 : K.lookup f_sunk_by = some ⟨oc13, od13, .func (PySem.W.fnOf "sunk_by" "sunk_by" (defArgs s_sunk_by) (defBody s_sunk_by) (defScope s_sunk_by) .none kV13 dc13 pm13 an13 cd13 ct13), sl13⟩) (c13 : PySem.W.codeIn K cd13 "sunk_by" = true) (k13 : PySem.W.keepIn K (.ref f_sunk_by) = true)
    (a14 : PySem.W.nsIn K mainGlobals "slack_of" = some (some (.ref f_slack_of))) (l14 : K.lookup f_slack_of = some ⟨oc14, od14, .func (PySem.W.fnOf "slack_of" "slack_of" (defArgs s_slack_of) (defBody s_slack_of) (defScope s_slack_of) .none kV14 dc14 pm14 an14 cd14 ct14), sl14⟩) (c14 : PySem.W.codeIn K cd14 "slack_of" = true) (k14 : PySem.W.keepIn K (.ref f_slack_of) = true)
    (a15 : PySem.W.nsIn K mainGlobals "is_drawn" = some (some (.ref f_is_drawn))) (l15 : K.lookup f_is_drawn = some ⟨oc15, od15, .func (PySem.W.fnOf "is_drawn" "is_drawn" (defArgs s_is_drawn) (defBody s_is_drawn) (defScope s_is_drawn) .none kV15 dc15 pm15 an15 cd15 ct15), sl15⟩) (c15 : PySem.W.codeIn K cd15 "is_drawn" = true) (k15 : PySem.W.keepIn K (.ref f_is_drawn) = true)
    (a16 : PySem.W.nsIn K mainGlobals "pull_at" = some (some (.ref f_pull_at))) (l16 : K.lookup f_pull_at = some ⟨oc16, od16, .func (PySem.W.fnOf "pull_at" "pull_at" (defArgs s_pull_at) (defBody s_pull_at) (defScope s_pull_at) .none kV16 dc16 pm16 an16 cd16 ct16), sl16⟩) (c16 : PySem.W.codeIn K cd16 "pull_at" = true) (k16 : PySem.W.keepIn K (.ref f_pull_at) = true)
    (a17 : PySem.W.nsIn K mainGlobals "pulled_at" = some (some (.ref f_pulled_at))) (l17 : K.lookup f_pulled_at = some ⟨oc17, od17, .func (PySem.W.fnOf "pulled_at" "pulled_at" (defArgs s_pulled_at) (defBody s_pulled_at) (defScope s_pulled_at) .none kV17 dc17 pm17 an17 cd17 ct17), sl17⟩) (c17 : PySem.W.codeIn K cd17 "pulled_at" = true) (k17 : PySem.W.keepIn K (.ref f_pulled_at) = true)
    (a18 : PySem.W.nsIn K mainGlobals "table" = some (some (.ref f_table))) (l18 : K.lookup f_table = some ⟨oc18, od18, .func (PySem.W.fnOf "table" "table" (defArgs s_table) (defBody s_table) (defScope s_table) .none kV18 dc18 pm18 an18 cd18 ct18), sl18⟩) (c18 : PySem.W.codeIn K cd18 "table" = true) (k18 : PySem.W.keepIn K (.ref f_table) = true)
    (a19 : PySem.W.nsIn K mainGlobals "greatest" = some (some (.ref f_greatest))) (l19 : K.lookup f_greatest = some ⟨oc19, od19, .func (PySem.W.fnOf "greatest" "greatest" (defArgs s_greatest) (defBody s_greatest) (defScope s_greatest) .none kV19 dc19 pm19 an19 cd19 ct19), sl19⟩) (c19 : PySem.W.codeIn K cd19 "greatest" = true) (k19 : PySem.W.keepIn K (.ref f_greatest) = true)
    (a20 : PySem.W.nsIn K mainGlobals "steps" = some (some (.ref f_steps))) (l20 : K.lookup f_steps = some ⟨oc20, od20, .func (PySem.W.fnOf "steps" "steps" (defArgs s_steps) (defBody s_steps) (defScope s_steps) .none kV20 dc20 pm20 an20 cd20 ct20), sl20⟩) (c20 : PySem.W.codeIn K cd20 "steps" = true) (k20 : PySem.W.keepIn K (.ref f_steps) = true)
    (a21 : PySem.W.nsIn K mainGlobals "end_of" = some (some (.ref f_end_of))) (l21 : K.lookup f_end_of = some ⟨oc21, od21, .func (PySem.W.fnOf "end_of" "end_of" (defArgs s_end_of) (defBody s_end_of) (defScope s_end_of) .none kV21 dc21 pm21 an21 cd21 ct21), sl21⟩) (c21 : PySem.W.codeIn K cd21 "end_of" = true) (k21 : PySem.W.keepIn K (.ref f_end_of) = true)
    (a22 : PySem.W.nsIn K mainGlobals "lasting_to" = some (some (.ref f_lasting_to))) (l22 : K.lookup f_lasting_to = some ⟨oc22, od22, .func (PySem.W.fnOf "lasting_to" "lasting_to" (defArgs s_lasting_to) (defBody s_lasting_to) (defScope s_lasting_to) .none kV22 dc22 pm22 an22 cd22 ct22), sl22⟩) (c22 : PySem.W.codeIn K cd22 "lasting_to" = true) (k22 : PySem.W.keepIn K (.ref f_lasting_to) = true)
    (a23 : PySem.W.nsIn K mainGlobals "lasting_till" = some (some (.ref f_lasting_till))) (l23 : K.lookup f_lasting_till = some ⟨oc23, od23, .func (PySem.W.fnOf "lasting_till" "lasting_till" (defArgs s_lasting_till) (defBody s_lasting_till) (defScope s_lasting_till) .none kV23 dc23 pm23 an23 cd23 ct23), sl23⟩) (c23 : PySem.W.codeIn K cd23 "lasting_till" = true) (k23 : PySem.W.keepIn K (.ref f_lasting_till) = true)
    (a24 : PySem.W.nsIn K mainGlobals "breaking_at" = some (some (.ref f_breaking_at))) (l24 : K.lookup f_breaking_at = some ⟨oc24, od24, .func (PySem.W.fnOf "breaking_at" "breaking_at" (defArgs s_breaking_at) (defBody s_breaking_at) (defScope s_breaking_at) .none kV24 dc24 pm24 an24 cd24 ct24), sl24⟩) (c24 : PySem.W.codeIn K cd24 "breaking_at" = true) (k24 : PySem.W.keepIn K (.ref f_breaking_at) = true)
    (a25 : PySem.W.nsIn K mainGlobals "waves" = some (some (.ref f_waves))) (l25 : K.lookup f_waves = some ⟨oc25, od25, .func (PySem.W.fnOf "waves" "waves" (defArgs s_waves) (defBody s_waves) (defScope s_waves) .none kV25 dc25 pm25 an25 cd25 ct25), sl25⟩) (c25 : PySem.W.codeIn K cd25 "waves" = true) (k25 : PySem.W.keepIn K (.ref f_waves) = true)
    (a26 : PySem.W.nsIn K mainGlobals "broken_by" = some (some (.ref f_broken_by))) (l26 : K.lookup f_broken_by = some ⟨oc26, od26, .func (PySem.W.fnOf "broken_by" "broken_by" (defArgs s_broken_by) (defBody s_broken_by) (defScope s_broken_by) .none kV26 dc26 pm26 an26 cd26 ct26), sl26⟩) (c26 : PySem.W.codeIn K cd26 "broken_by" = true) (k26 : PySem.W.keepIn K (.ref f_broken_by) = true)
    (a27 : PySem.W.nsIn K mainGlobals "bears" = some (some (.ref f_bears))) (l27 : K.lookup f_bears = some ⟨oc27, od27, .func (PySem.W.fnOf "bears" "bears" (defArgs s_bears) (defBody s_bears) (defScope s_bears) .none kV27 dc27 pm27 an27 cd27 ct27), sl27⟩) (c27 : PySem.W.codeIn K cd27 "bears" = true) (k27 : PySem.W.keepIn K (.ref f_bears) = true)
    (a28 : PySem.W.nsIn K mainGlobals "giving_way" = some (some (.ref f_giving_way))) (l28 : K.lookup f_giving_way = some ⟨oc28, od28, .func (PySem.W.fnOf "giving_way" "giving_way" (defArgs s_giving_way) (defBody s_giving_way) (defScope s_giving_way) .none kV28 dc28 pm28 an28 cd28 ct28), sl28⟩) (c28 : PySem.W.codeIn K cd28 "giving_way" = true) (k28 : PySem.W.keepIn K (.ref f_giving_way) = true)
    (a29 : PySem.W.nsIn K mainGlobals "is_too_much" = some (some (.ref f_is_too_much))) (l29 : K.lookup f_is_too_much = some ⟨oc29, od29, .func (PySem.W.fnOf "is_too_much" "is_too_much" (defArgs s_is_too_much) (defBody s_is_too_much) (defScope s_is_too_much) .none kV29 dc29 pm29 an29 cd29 ct29), sl29⟩) (c29 : PySem.W.codeIn K cd29 "is_too_much" = true) (k29 : PySem.W.keepIn K (.ref f_is_too_much) = true)
    (a30 : PySem.W.nsIn K mainGlobals "whole_till" = some (some (.ref f_whole_till))) (l30 : K.lookup f_whole_till = some ⟨oc30, od30, .func (PySem.W.fnOf "whole_till" "whole_till" (defArgs s_whole_till) (defBody s_whole_till) (defScope s_whole_till) .none kV30 dc30 pm30 an30 cd30 ct30), sl30⟩) (c30 : PySem.W.codeIn K cd30 "whole_till" = true) (k30 : PySem.W.keepIn K (.ref f_whole_till) = true)
    (a31 : PySem.W.nsIn K mainGlobals "guards" = some (some (.ref f_guards))) (l31 : K.lookup f_guards = some ⟨oc31, od31, .func (PySem.W.fnOf "guards" "guards" (defArgs s_guards) (defBody s_guards) (defScope s_guards) .none kV31 dc31 pm31 an31 cd31 ct31), sl31⟩) (c31 : PySem.W.codeIn K cd31 "guards" = true) (k31 : PySem.W.keepIn K (.ref f_guards) = true)
    (a32 : PySem.W.nsIn K mainGlobals "fewest_doubled" = some (some (.ref f_fewest_doubled))) (l32 : K.lookup f_fewest_doubled = some ⟨oc32, od32, .func (PySem.W.fnOf "fewest_doubled" "fewest_doubled" (defArgs s_fewest_doubled) (defBody s_fewest_doubled) (defScope s_fewest_doubled) .none kV32 dc32 pm32 an32 cd32 ct32), sl32⟩) (c32 : PySem.W.codeIn K cd32 "fewest_doubled" = true) (k32 : PySem.W.keepIn K (.ref f_fewest_doubled) = true)
    (a33 : PySem.W.nsIn K mainGlobals "rope_called" = some (some (.ref f_rope_called))) (l33 : K.lookup f_rope_called = some ⟨oc33, od33, .func (PySem.W.fnOf "rope_called" "rope_called" (defArgs s_rope_called) (defBody s_rope_called) (defScope s_rope_called) .none kV33 dc33 pm33 an33 cd33 ct33), sl33⟩) (c33 : PySem.W.codeIn K cd33 "rope_called" = true) (k33 : PySem.W.keepIn K (.ref f_rope_called) = true)
    (a34 : PySem.W.nsIn K mainGlobals "is_guard" = some (some (.ref f_is_guard))) (l34 : K.lookup f_is_guard = some ⟨oc34, od34, .func (PySem.W.fnOf "is_guard" "is_guard" (defArgs s_is_guard) (defBody s_is_guard) (defScope s_is_guard) .none kV34 dc34 pm34 an34 cd34 ct34), sl34⟩) (c34 : PySem.W.codeIn K cd34 "is_guard" = true) (k34 : PySem.W.keepIn K (.ref f_is_guard) = true)
    (a35 : PySem.W.nsIn K mainGlobals "choices" = some (some (.ref f_choices))) (l35 : K.lookup f_choices = some ⟨oc35, od35, .func (PySem.W.fnOf "choices" "choices" (defArgs s_choices) (defBody s_choices) (defScope s_choices) .none kV35 dc35 pm35 an35 cd35 ct35), sl35⟩) (c35 : PySem.W.codeIn K cd35 "choices" = true) (k35 : PySem.W.keepIn K (.ref f_choices) = true)
    (a36 : PySem.W.nsIn K mainGlobals "with_doubled" = some (some (.ref f_with_doubled))) (l36 : K.lookup f_with_doubled = some ⟨oc36, od36, .func (PySem.W.fnOf "with_doubled" "with_doubled" (defArgs s_with_doubled) (defBody s_with_doubled) (defScope s_with_doubled) .none kV36 dc36 pm36 an36 cd36 ct36), sl36⟩) (c36 : PySem.W.codeIn K cd36 "with_doubled" = true) (k36 : PySem.W.keepIn K (.ref f_with_doubled) = true)
    (a37 : PySem.W.nsIn K mainGlobals "doubled" = some (some (.ref f_doubled))) (l37 : K.lookup f_doubled = some ⟨oc37, od37, .func (PySem.W.fnOf "doubled" "doubled" (defArgs s_doubled) (defBody s_doubled) (defScope s_doubled) .none kV37 dc37 pm37 an37 cd37 ct37), sl37⟩) (c37 : PySem.W.codeIn K cd37 "doubled" = true) (k37 : PySem.W.keepIn K (.ref f_doubled) = true)
    (a38 : PySem.W.nsIn K mainGlobals "_law_bag" = some (some (.ref f_law_bag))) (l38 : K.lookup f_law_bag = some ⟨oc38, od38, .func (PySem.W.fnOf "_law_bag" "_law_bag" (defArgs s_law_bag) (defBody s_law_bag) (defScope s_law_bag) .none kV38 dc38 pm38 an38 cd38 ct38), sl38⟩) (c38 : PySem.W.codeIn K cd38 "_law_bag" = true) (k38 : PySem.W.keepIn K (.ref f_law_bag) = true)
    (a39 : PySem.W.nsIn K mainGlobals "_law_take" = some (some (.ref f_law_take))) (l39 : K.lookup f_law_take = some ⟨oc39, od39, .func (PySem.W.fnOf "_law_take" "_law_take" (defArgs s_law_take) (defBody s_law_take) (defScope s_law_take) .none kV39 dc39 pm39 an39 cd39 ct39), sl39⟩) (c39 : PySem.W.codeIn K cd39 "_law_take" = true) (k39 : PySem.W.keepIn K (.ref f_law_take) = true)
    (a40 : PySem.W.nsIn K mainGlobals "_law_of" = some (some (.ref f_law_of))) (l40 : K.lookup f_law_of = some ⟨oc40, od40, .func (PySem.W.fnOf "_law_of" "_law_of" (defArgs s_law_of) (defBody s_law_of) (defScope s_law_of) .none kV40 dc40 pm40 an40 cd40 ct40), sl40⟩) (c40 : PySem.W.codeIn K cd40 "_law_of" = true) (k40 : PySem.W.keepIn K (.ref f_law_of) = true)
    (a41 : PySem.W.nsIn K mainGlobals "_law_lowest" = some (some (.ref f_law_lowest))) (l41 : K.lookup f_law_lowest = some ⟨oc41, od41, .func (PySem.W.fnOf "_law_lowest" "_law_lowest" (defArgs s_law_lowest) (defBody s_law_lowest) (defScope s_law_lowest) .none kV41 dc41 pm41 an41 cd41 ct41), sl41⟩) (c41 : PySem.W.codeIn K cd41 "_law_lowest" = true) (k41 : PySem.W.keepIn K (.ref f_law_lowest) = true)
    (a42 : PySem.W.nsIn K mainGlobals "_law_rope" = some (some (.ref f_law_rope))) (l42 : K.lookup f_law_rope = some ⟨oc42, od42, .func (PySem.W.fnOf "_law_rope" "_law_rope" (defArgs s_law_rope) (defBody s_law_rope) (defScope s_law_rope) .none kV42 dc42 pm42 an42 cd42 ct42), sl42⟩) (c42 : PySem.W.codeIn K cd42 "_law_rope" = true) (k42 : PySem.W.keepIn K (.ref f_law_rope) = true)
    (a43 : PySem.W.nsIn K mainGlobals "_law_bundle" = some (some (.ref f_law_bundle))) (l43 : K.lookup f_law_bundle = some ⟨oc43, od43, .func (PySem.W.fnOf "_law_bundle" "_law_bundle" (defArgs s_law_bundle) (defBody s_law_bundle) (defScope s_law_bundle) .none kV43 dc43 pm43 an43 cd43 ct43), sl43⟩) (c43 : PySem.W.codeIn K cd43 "_law_bundle" = true) (k43 : PySem.W.keepIn K (.ref f_law_bundle) = true)
    (a44 : PySem.W.nsIn K mainGlobals "_law_load" = some (some (.ref f_law_load))) (l44 : K.lookup f_law_load = some ⟨oc44, od44, .func (PySem.W.fnOf "_law_load" "_law_load" (defArgs s_law_load) (defBody s_law_load) (defScope s_law_load) .none kV44 dc44 pm44 an44 cd44 ct44), sl44⟩) (c44 : PySem.W.codeIn K cd44 "_law_load" = true) (k44 : PySem.W.keepIn K (.ref f_law_load) = true)
    (a45 : PySem.W.nsIn K mainGlobals "_law_plus" = some (some (.ref f_law_plus))) (l45 : K.lookup f_law_plus = some ⟨oc45, od45, .func (PySem.W.fnOf "_law_plus" "_law_plus" (defArgs s_law_plus) (defBody s_law_plus) (defScope s_law_plus) .none kV45 dc45 pm45 an45 cd45 ct45), sl45⟩) (c45 : PySem.W.codeIn K cd45 "_law_plus" = true) (k45 : PySem.W.keepIn K (.ref f_law_plus) = true)
    (a46 : PySem.W.nsIn K mainGlobals "_law_less" = some (some (.ref f_law_less))) (l46 : K.lookup f_law_less = some ⟨oc46, od46, .func (PySem.W.fnOf "_law_less" "_law_less" (defArgs s_law_less) (defBody s_law_less) (defScope s_law_less) .none kV46 dc46 pm46 an46 cd46 ct46), sl46⟩) (c46 : PySem.W.codeIn K cd46 "_law_less" = true) (k46 : PySem.W.keepIn K (.ref f_law_less) = true)
    (a47 : PySem.W.nsIn K mainGlobals "_law_pull" = some (some (.ref f_law_pull))) (l47 : K.lookup f_law_pull = some ⟨oc47, od47, .func (PySem.W.fnOf "_law_pull" "_law_pull" (defArgs s_law_pull) (defBody s_law_pull) (defScope s_law_pull) .none kV47 dc47 pm47 an47 cd47 ct47), sl47⟩) (c47 : PySem.W.codeIn K cd47 "_law_pull" = true) (k47 : PySem.W.keepIn K (.ref f_law_pull) = true)
    (a48 : PySem.W.nsIn K mainGlobals "_law_end" = some (some (.ref f_law_end))) (l48 : K.lookup f_law_end = some ⟨oc48, od48, .func (PySem.W.fnOf "_law_end" "_law_end" (defArgs s_law_end) (defBody s_law_end) (defScope s_law_end) .none kV48 dc48 pm48 an48 cd48 ct48), sl48⟩) (c48 : PySem.W.codeIn K cd48 "_law_end" = true) (k48 : PySem.W.keepIn K (.ref f_law_end) = true)
    (a49 : PySem.W.nsIn K mainGlobals "_law_marks" = some (some (.ref f_law_marks))) (l49 : K.lookup f_law_marks = some ⟨oc49, od49, .func (PySem.W.fnOf "_law_marks" "_law_marks" (defArgs s_law_marks) (defBody s_law_marks) (defScope s_law_marks) .none kV49 dc49 pm49 an49 cd49 ct49), sl49⟩) (c49 : PySem.W.codeIn K cd49 "_law_marks" = true) (k49 : PySem.W.keepIn K (.ref f_law_marks) = true)
    (a50 : PySem.W.nsIn K mainGlobals "_law_times" = some (some (.ref f_law_times))) (l50 : K.lookup f_law_times = some ⟨oc50, od50, .func (PySem.W.fnOf "_law_times" "_law_times" (defArgs s_law_times) (defBody s_law_times) (defScope s_law_times) .none kV50 dc50 pm50 an50 cd50 ct50), sl50⟩) (c50 : PySem.W.codeIn K cd50 "_law_times" = true) (k50 : PySem.W.keepIn K (.ref f_law_times) = true)
    (a51 : PySem.W.nsIn K mainGlobals "_law_changed" = some (some (.ref f_law_changed))) (l51 : K.lookup f_law_changed = some ⟨oc51, od51, .func (PySem.W.fnOf "_law_changed" "_law_changed" (defArgs s_law_changed) (defBody s_law_changed) (defScope s_law_changed) .none kV51 dc51 pm51 an51 cd51 ct51), sl51⟩) (c51 : PySem.W.codeIn K cd51 "_law_changed" = true) (k51 : PySem.W.keepIn K (.ref f_law_changed) = true)
    (a52 : PySem.W.nsIn K mainGlobals "_law_named" = some (some (.ref f_law_named))) (l52 : K.lookup f_law_named = some ⟨oc52, od52, .func (PySem.W.fnOf "_law_named" "_law_named" (defArgs s_law_named) (defBody s_law_named) (defScope s_law_named) .none kV52 dc52 pm52 an52 cd52 ct52), sl52⟩) (c52 : PySem.W.codeIn K cd52 "_law_named" = true) (k52 : PySem.W.keepIn K (.ref f_law_named) = true)
    (a53 : PySem.W.nsIn K mainGlobals "_law_goes" = some (some (.ref f_law_goes))) (l53 : K.lookup f_law_goes = some ⟨oc53, od53, .func (PySem.W.fnOf "_law_goes" "_law_goes" (defArgs s_law_goes) (defBody s_law_goes) (defScope s_law_goes) .none kV53 dc53 pm53 an53 cd53 ct53), sl53⟩) (c53 : PySem.W.codeIn K cd53 "_law_goes" = true) (k53 : PySem.W.keepIn K (.ref f_law_goes) = true)
    (a54 : PySem.W.nsIn K mainGlobals "law" = some (some (.ref f_law))) (l54 : K.lookup f_law = some ⟨oc54, od54, .func (PySem.W.fnOf "law" "law" (defArgs s_law) (defBody s_law) (defScope s_law) .none kV54 dc54 pm54 an54 cd54 ct54), sl54⟩) (c54 : PySem.W.codeIn K cd54 "law" = true) (k54 : PySem.W.keepIn K (.ref f_law) = true)
    (zN : PySem.W.nsIn K mainGlobals "NOUGHT" = some (some (.ref a_N))) (lN : K.lookup a_N = some ⟨.type "tuple", odN, .seq #[.int 0 t0N, .int 1 t1N] nN, slN⟩)
    (z_MOST_LETTERS : PySem.W.nsIn K mainGlobals "MOST_LETTERS" = some (some (.int 8 t_MOST_LETTERS)))
    (z_MOST_SLACK : PySem.W.nsIn K mainGlobals "MOST_SLACK" = some (some (.int 1000 t_MOST_SLACK)))
    (z_MOST_STIFF : PySem.W.nsIn K mainGlobals "MOST_STIFF" = some (some (.int 100 t_MOST_STIFF)))
    (z_MOST_STRONG : PySem.W.nsIn K mainGlobals "MOST_STRONG" = some (some (.int 1000000 t_MOST_STRONG)))
    (z_MOST_ROPES : PySem.W.nsIn K mainGlobals "MOST_ROPES" = some (some (.int 6 t_MOST_ROPES)))
    (z_len : PySem.W.nsIn K mainGlobals "len" = some none)
    (z_abs : PySem.W.nsIn K mainGlobals "abs" = some none)
    (z_max : PySem.W.nsIn K mainGlobals "max" = some none)
    (z_min : PySem.W.nsIn K mainGlobals "min" = some none)
    (z_sum : PySem.W.nsIn K mainGlobals "sum" = some none)
    (z_sorted : PySem.W.nsIn K mainGlobals "sorted" = some none)
    (z_tuple : PySem.W.nsIn K mainGlobals "tuple" = some none)
    (z_range : PySem.W.nsIn K mainGlobals "range" = some none)
    (z_list : PySem.W.nsIn K mainGlobals "list" = some none)
    (z_isinstance : PySem.W.nsIn K mainGlobals "isinstance" = some none)
    (z_bool : PySem.W.nsIn K mainGlobals "bool" = some none)
    (z_set : PySem.W.nsIn K mainGlobals "set" = some none)
    (z_dict : PySem.W.nsIn K mainGlobals "dict" = some none)
    (z_int : PySem.W.nsIn K mainGlobals "int" = some none)
    (z_str : PySem.W.nsIn K mainGlobals "str" = some none)
    (z_all : PySem.W.nsIn K mainGlobals "all" = some none)
    (z_zip : PySem.W.nsIn K mainGlobals "zip" = some none)
    (z_any : PySem.W.nsIn K mainGlobals "any" = some none)
    (z_enumerate : PySem.W.nsIn K mainGlobals "enumerate" = some none) :
    ∃ fd : FuncData, (∀ (s : Shared) (v : Value), BindsTo s fd ⟨[v], []⟩ [("script", v)]) ∧ ∀ base : Heap, K.In base → base.Ns mainGlobals mg → FnOk l.prog w K mg base CX0 11 fa fd ["script"] (spOf K S_law) := by
  have e := hfa.symm.trans (PySem.W.mg_of X G a54)
  cases e
  have T : Txt mg := ⟨PySem.W.mg_none_of X G z_len, PySem.W.mg_none_of X G z_abs, PySem.W.mg_none_of X G z_max, PySem.W.mg_none_of X G z_min, PySem.W.mg_none_of X G z_sum, PySem.W.mg_none_of X G z_sorted, PySem.W.mg_none_of X G z_tuple, PySem.W.mg_none_of X G z_range, PySem.W.mg_none_of X G z_list, PySem.W.mg_none_of X G z_isinstance, PySem.W.mg_none_of X G z_bool, PySem.W.mg_none_of X G z_set, PySem.W.mg_none_of X G z_dict, PySem.W.mg_none_of X G z_int, PySem.W.mg_none_of X G z_str, PySem.W.mg_none_of X G z_all, PySem.W.mg_none_of X G z_zip, PySem.W.mg_none_of X G z_any, PySem.W.mg_none_of X G z_enumerate⟩
  have C : Cst mg := ⟨⟨_, PySem.W.mg_of X G z_MOST_LETTERS⟩, ⟨_, PySem.W.mg_of X G z_MOST_SLACK⟩, ⟨_, PySem.W.mg_of X G z_MOST_STIFF⟩, ⟨_, PySem.W.mg_of X G z_MOST_STRONG⟩, ⟨_, PySem.W.mg_of X G z_MOST_ROPES⟩⟩
  have N := Nt.mk' X G zN lN
  have d_is_whole : Df K mg "is_whole" s_is_whole f_is_whole ["thing"] := Df.mk' X G a0 l0 c0 k0 fun _ _ _ _ _ _ us hl => match us, hl with | [_], _ => rfl
  have d_is_name : Df K mg "is_name" s_is_name f_is_name ["thing"] := Df.mk' X G a1 l1 c1 k1 fun _ _ _ _ _ _ us hl => match us, hl with | [_], _ => rfl
  have d_common_divisor : Df K mg "common_divisor" s_common_divisor f_common_divisor ["one", "other"] := Df.mk' X G a2 l2 c2 k2 fun _ _ _ _ _ _ us hl => match us, hl with | [_, _], _ => rfl
  have d_fraction : Df K mg "fraction" s_fraction f_fraction ["top", "bottom"] := Df.mk' X G a3 l3 c3 k3 fun _ _ _ _ _ _ us hl => match us, hl with | [_, _], _ => rfl
  have d_is_more : Df K mg "is_more" s_is_more f_is_more ["one", "other"] := Df.mk' X G a4 l4 c4 k4 fun _ _ _ _ _ _ us hl => match us, hl with | [_, _], _ => rfl
  have d_plus : Df K mg "plus" s_plus f_plus ["one", "other"] := Df.mk' X G a5 l5 c5 k5 fun _ _ _ _ _ _ us hl => match us, hl with | [_, _], _ => rfl
  have d_rising : Df K mg "rising" s_rising f_rising ["fractions"] := Df.mk' X G a6 l6 c6 k6 fun _ _ _ _ _ _ us hl => match us, hl with | [_], _ => rfl
  have d_is_bundle : Df K mg "is_bundle" s_is_bundle f_is_bundle ["thing"] := Df.mk' X G a7 l7 c7 k7 fun _ _ _ _ _ _ us hl => match us, hl with | [_], _ => rfl
  have d_sinking : Df K mg "sinking" s_sinking f_sinking ["bundle", "broken", "load"] := Df.mk' X G a8 l8 c8 k8 fun _ _ _ _ _ _ us hl => match us, hl with | [_, _, _], _ => rfl
  have d_pulls : Df K mg "pulls" s_pulls f_pulls ["bundle", "broken", "load"] := Df.mk' X G a9 l9 c9 k9 fun _ _ _ _ _ _ us hl => match us, hl with | [_, _, _], _ => rfl
  have d_is_rope : Df K mg "is_rope" s_is_rope f_is_rope ["thing"] := Df.mk' X G a10 l10 c10 k10 fun _ _ _ _ _ _ us hl => match us, hl with | [_], _ => rfl
  have d_is_within : Df K mg "is_within" s_is_within f_is_within ["thing", "least", "most"] := Df.mk' X G a11 l11 c11 k11 fun _ _ _ _ _ _ us hl => match us, hl with | [_, _, _], _ => rfl
  have d_ropes_left : Df K mg "ropes_left" s_ropes_left f_ropes_left ["bundle", "broken"] := Df.mk' X G a12 l12 c12 k12 fun _ _ _ _ _ _ us hl => match us, hl with | [_, _], _ => rfl
  have d_sunk_by : Df K mg "sunk_by" s_sunk_by f_sunk_by ["left", "load"] := Df.mk' X G a13 l13 c13 k13 fun _ _ _ _ _ _ us hl => match us, hl with | [_, _], _ => rfl
  have d_slack_of : Df K mg "slack_of" s_slack_of f_slack_of ["rope"] := Df.mk' X G a14 l14 c14 k14 fun _ _ _ _ _ _ us hl => match us, hl with | [_], _ => rfl
  have d_is_drawn : Df K mg "is_drawn" s_is_drawn f_is_drawn ["slack", "sunk"] := Df.mk' X G a15 l15 c15 k15 fun _ _ _ _ _ _ us hl => match us, hl with | [_, _], _ => rfl
  have d_pull_at : Df K mg "pull_at" s_pull_at f_pull_at ["rope", "sunk"] := Df.mk' X G a16 l16 c16 k16 fun _ _ _ _ _ _ us hl => match us, hl with | [_, _], _ => rfl
  have d_pulled_at : Df K mg "pulled_at" s_pulled_at f_pulled_at ["ropes", "sunk"] := Df.mk' X G a17 l17 c17 k17 fun _ _ _ _ _ _ us hl => match us, hl with | [_, _], _ => rfl
  have d_table : Df K mg "table" s_table f_table ["bundle"] := Df.mk' X G a18 l18 c18 k18 fun _ _ _ _ _ _ us hl => match us, hl with | [_], _ => rfl
  have d_greatest : Df K mg "greatest" s_greatest f_greatest ["bundle"] := Df.mk' X G a19 l19 c19 k19 fun _ _ _ _ _ _ us hl => match us, hl with | [_], _ => rfl
  have d_steps : Df K mg "steps" s_steps f_steps ["bundle"] := Df.mk' X G a20 l20 c20 k20 fun _ _ _ _ _ _ us hl => match us, hl with | [_], _ => rfl
  have d_end_of : Df K mg "end_of" s_end_of f_end_of ["rope"] := Df.mk' X G a21 l21 c21 k21 fun _ _ _ _ _ _ us hl => match us, hl with | [_], _ => rfl
  have d_lasting_to : Df K mg "lasting_to" s_lasting_to f_lasting_to ["ropes", "sunk"] := Df.mk' X G a22 l22 c22 k22 fun _ _ _ _ _ _ us hl => match us, hl with | [_, _], _ => rfl
  have d_lasting_till : Df K mg "lasting_till" s_lasting_till f_lasting_till ["left", "rope"] := Df.mk' X G a23 l23 c23 k23 fun _ _ _ _ _ _ us hl => match us, hl with | [_, _], _ => rfl
  have d_breaking_at : Df K mg "breaking_at" s_breaking_at f_breaking_at ["bundle", "tills", "load"] := Df.mk' X G a24 l24 c24 k24 fun _ _ _ _ _ _ us hl => match us, hl with | [_, _, _], _ => rfl
  have d_waves : Df K mg "waves" s_waves f_waves ["bundle", "broken", "load"] := Df.mk' X G a25 l25 c25 k25 fun _ _ _ _ _ _ us hl => match us, hl with | [_, _, _], _ => rfl
  have d_broken_by : Df K mg "broken_by" s_broken_by f_broken_by ["bundle", "broken", "load"] := Df.mk' X G a26 l26 c26 k26 fun _ _ _ _ _ _ us hl => match us, hl with | [_, _, _], _ => rfl
  have d_bears : Df K mg "bears" s_bears f_bears ["bundle", "broken", "load"] := Df.mk' X G a27 l27 c27 k27 fun _ _ _ _ _ _ us hl => match us, hl with | [_, _, _], _ => rfl
  have d_giving_way : Df K mg "giving_way" s_giving_way f_giving_way ["left", "load"] := Df.mk' X G a28 l28 c28 k28 fun _ _ _ _ _ _ us hl => match us, hl with | [_, _], _ => rfl
  have d_is_too_much : Df K mg "is_too_much" s_is_too_much f_is_too_much ["rope", "pull"] := Df.mk' X G a29 l29 c29 k29 fun _ _ _ _ _ _ us hl => match us, hl with | [_, _], _ => rfl
  have d_whole_till : Df K mg "whole_till" s_whole_till f_whole_till ["bundle", "broken", "name"] := Df.mk' X G a30 l30 c30 k30 fun _ _ _ _ _ _ us hl => match us, hl with | [_, _, _], _ => rfl
  have d_guards : Df K mg "guards" s_guards f_guards ["bundle"] := Df.mk' X G a31 l31 c31 k31 fun _ _ _ _ _ _ us hl => match us, hl with | [_], _ => rfl
  have d_fewest_doubled : Df K mg "fewest_doubled" s_fewest_doubled f_fewest_doubled ["bundle", "load"] := Df.mk' X G a32 l32 c32 k32 fun _ _ _ _ _ _ us hl => match us, hl with | [_, _], _ => rfl
  have d_rope_called : Df K mg "rope_called" s_rope_called f_rope_called ["bundle", "name"] := Df.mk' X G a33 l33 c33 k33 fun _ _ _ _ _ _ us hl => match us, hl with | [_, _], _ => rfl
  have d_is_guard : Df K mg "is_guard" s_is_guard f_is_guard ["bundle", "one", "other"] := Df.mk' X G a34 l34 c34 k34 fun _ _ _ _ _ _ us hl => match us, hl with | [_, _, _], _ => rfl
  have d_choices : Df K mg "choices" s_choices f_choices ["names", "many"] := Df.mk' X G a35 l35 c35 k35 fun _ _ _ _ _ _ us hl => match us, hl with | [_, _], _ => rfl
  have d_with_doubled : Df K mg "with_doubled" s_with_doubled f_with_doubled ["bundle", "chosen"] := Df.mk' X G a36 l36 c36 k36 fun _ _ _ _ _ _ us hl => match us, hl with | [_, _], _ => rfl
  have d_doubled : Df K mg "doubled" s_doubled f_doubled ["rope"] := Df.mk' X G a37 l37 c37 k37 fun _ _ _ _ _ _ us hl => match us, hl with | [_], _ => rfl
  have d_law_bag : Df K mg "_law_bag" s_law_bag f_law_bag ["script", "k"] := Df.mk' X G a38 l38 c38 k38 fun _ _ _ _ _ _ us hl => match us, hl with | [_, _], _ => rfl
  have d_law_take : Df K mg "_law_take" s_law_take f_law_take ["bag", "many"] := Df.mk' X G a39 l39 c39 k39 fun _ _ _ _ _ _ us hl => match us, hl with | [_, _], _ => rfl
  have d_law_of : Df K mg "_law_of" s_law_of f_law_of ["bag", "some"] := Df.mk' X G a40 l40 c40 k40 fun _ _ _ _ _ _ us hl => match us, hl with | [_, _], _ => rfl
  have d_law_lowest : Df K mg "_law_lowest" s_law_lowest f_law_lowest ["top", "bottom"] := Df.mk' X G a41 l41 c41 k41 fun _ _ _ _ _ _ us hl => match us, hl with | [_, _], _ => rfl
  have d_law_rope : Df K mg "_law_rope" s_law_rope f_law_rope ["bag", "name"] := Df.mk' X G a42 l42 c42 k42 fun _ _ _ _ _ _ us hl => match us, hl with | [_, _], _ => rfl
  have d_law_bundle : Df K mg "_law_bundle" s_law_bundle f_law_bundle ["bag", "most"] := Df.mk' X G a43 l43 c43 k43 fun _ _ _ _ _ _ us hl => match us, hl with | [_, _], _ => rfl
  have d_law_load : Df K mg "_law_load" s_law_load f_law_load ["bag"] := Df.mk' X G a44 l44 c44 k44 fun _ _ _ _ _ _ us hl => match us, hl with | [_], _ => rfl
  have d_law_plus : Df K mg "_law_plus" s_law_plus f_law_plus ["one", "other"] := Df.mk' X G a45 l45 c45 k45 fun _ _ _ _ _ _ us hl => match us, hl with | [_, _], _ => rfl
  have d_law_less : Df K mg "_law_less" s_law_less f_law_less ["one", "other"] := Df.mk' X G a46 l46 c46 k46 fun _ _ _ _ _ _ us hl => match us, hl with | [_, _], _ => rfl
  have d_law_pull : Df K mg "_law_pull" s_law_pull f_law_pull ["rope", "sunk"] := Df.mk' X G a47 l47 c47 k47 fun _ _ _ _ _ _ us hl => match us, hl with | [_, _], _ => rfl
  have d_law_end : Df K mg "_law_end" s_law_end f_law_end ["rope"] := Df.mk' X G a48 l48 c48 k48 fun _ _ _ _ _ _ us hl => match us, hl with | [_], _ => rfl
  have d_law_marks : Df K mg "_law_marks" s_law_marks f_law_marks ["bundle"] := Df.mk' X G a49 l49 c49 k49 fun _ _ _ _ _ _ us hl => match us, hl with | [_], _ => rfl
  have d_law_times : Df K mg "_law_times" s_law_times f_law_times ["part", "by"] := Df.mk' X G a50 l50 c50 k50 fun _ _ _ _ _ _ us hl => match us, hl with | [_, _], _ => rfl
  have d_law_changed : Df K mg "_law_changed" s_law_changed f_law_changed ["bundle", "slacker", "stiffer", "sign"] := Df.mk' X G a51 l51 c51 k51 fun _ _ _ _ _ _ us hl => match us, hl with | [_, _, _, _], _ => rfl
  have d_law_named : Df K mg "_law_named" s_law_named f_law_named ["names", "sign"] := Df.mk' X G a52 l52 c52 k52 fun _ _ _ _ _ _ us hl => match us, hl with | [_, _], _ => rfl
  have d_law_goes : Df K mg "_law_goes" s_law_goes f_law_goes ["bundle", "other", "scale", "sign", "load"] := Df.mk' X G a53 l53 c53 k53 fun _ _ _ _ _ _ us hl => match us, hl with | [_, _, _, _, _], _ => rfl
  refine ⟨PySem.W.fnOf "law" "law" (defArgs s_law) (defBody s_law) (defScope s_law) .none kV54 dc54 pm54 an54 cd54 ct54, fun s v => .of_eq rfl, fun base _ _ => ?_⟩
  have h_cd : Has l.prog w K mg base 1 "common_divisor" ["one", "other"] S_cd := d_common_divisor.has fun fd F => ok_common_divisor F
  have h_fr : Has l.prog w K mg base 2 "fraction" ["top", "bottom"] S_fraction := d_fraction.has fun fd F => ok_fraction F h_cd
  have h_rl : Has l.prog w K mg base 1 "ropes_left" ["bundle", "broken"] S_left := d_ropes_left.has fun fd F => ok_ropes_left F
  have h_rlL : Has l.prog w K mg base 1 "ropes_left" ["bundle", "broken"] S_leftL := d_ropes_left.has fun fd F => ok_ropes_leftL F
  have h_dr : Has l.prog w K mg base 1 "is_drawn" ["slack", "sunk"] S_drawn := d_is_drawn.has fun fd F => ok_is_drawn F
  have h_pa : Has l.prog w K mg base 3 "pull_at" ["rope", "sunk"] S_pull := d_pull_at.has fun fd F => ok_pull_at N F h_dr h_fr
  have h_key : KeyFn l.prog w K f_slack_of keyS := by
    obtain ⟨fd, F, _, b⟩ := d_slack_of.ex
    exact key_item F sc_slack_of b rfl rfl (by decide) (by decide) (by decide)
  have h_sb : Has l.prog w K mg base 4 "sunk_by" ["left", "load"] S_sunk := d_sunk_by.has fun fd F => ok_sunk_by N T F h_key (by obtain ⟨_, _, m, _⟩ := d_slack_of.ex; exact m) h_dr h_fr
  have h_si : Has l.prog w K mg base 5 "sinking" ["bundle", "broken", "load"] S_sinking := d_sinking.has fun fd F => ok_sinking F h_rl h_sb
  have h_pu : Has l.prog w K mg base 5 "pulls" ["bundle", "broken", "load"] S_pulls := d_pulls.has fun fd F => ok_pulls F h_rl h_sb h_pa
  have h_puF := pulls_frz h_pu
  have h_tm : Has l.prog w K mg base 1 "is_too_much" ["rope", "pull"] S_tm := d_is_too_much.has fun fd F => ok_is_too_much F
  have h_gw : Has l.prog w K mg base 5 "giving_way" ["left", "load"] S_gw := d_giving_way.has fun fd F => ok_giving_way T F h_sb h_pa h_tm
  have h_wa : Has l.prog w K mg base 6 "waves" ["bundle", "broken", "load"] S_waves := d_waves.has fun fd F => ok_waves F h_rl h_rlL h_gw
  have h_bb : Has l.prog w K mg base 7 "broken_by" ["bundle", "broken", "load"] S_broken := d_broken_by.has fun fd F => ok_broken_by T F h_wa
  have h_be : Has l.prog w K mg base 8 "bears" ["bundle", "broken", "load"] S_bears := d_bears.has fun fd F => ok_bears T F h_bb
  have h_mo : Has l.prog w K mg base 1 "is_more" ["one", "other"] S_more := d_is_more.has fun fd F => ok_is_more F
  have h_pl : Has l.prog w K mg base 3 "plus" ["one", "other"] S_plus := d_plus.has fun fd F => ok_plus F h_fr
  have h_eo : Has l.prog w K mg base 3 "end_of" ["rope"] S_end := d_end_of.has fun fd F => ok_end_of F h_fr
  have h_ri : Has l.prog w K mg base 3 "rising" ["fractions"] S_rising := d_rising.has fun fd F => ok_rising T F h_cd h_fr
  have h_pd : Has l.prog w K mg base 4 "pulled_at" ["ropes", "sunk"] S_pulled := d_pulled_at.has fun fd F => ok_pulled_at N F h_pl h_pa
  have h_lt : Has l.prog w K mg base 4 "lasting_to" ["ropes", "sunk"] S_lasting := d_lasting_to.has fun fd F => ok_lasting_to F h_mo h_eo
  have h_ta : Has l.prog w K mg base 5 "table" ["bundle"] S_table := d_table.has fun fd F => ok_table T F h_ri h_eo h_pd h_lt
  have h_ti : Has l.prog w K mg base 6 "lasting_till" ["left", "rope"] S_till := d_lasting_till.has fun fd F => ok_lasting_till N F h_ta h_eo h_mo
  have h_ltL : Has l.prog w K mg base 4 "lasting_to" ["ropes", "sunk"] S_lastingL := d_lasting_to.has fun fd F => ok_lasting_toL F h_mo h_eo
  have h_taL : Has l.prog w K mg base 5 "table" ["bundle"] S_tableL := d_table.has fun fd F => ok_tableL T F h_ri h_eo h_pd h_ltL
  have h_tiL : Has l.prog w K mg base 6 "lasting_till" ["left", "rope"] S_tillL := d_lasting_till.has fun fd F => ok_lasting_tillL N F h_taL h_eo h_mo
  have h_gtS : Has l.prog w K mg base 6 "greatest" ["bundle"] S_greatS := d_greatest.has fun fd F => ok_greatestS N F h_ta h_mo
  have h_ba : Has l.prog w K mg base 1 "breaking_at" ["bundle", "tills", "load"] S_brk := d_breaking_at.has fun fd F => ok_breaking_at T F
  have h_stp : Has l.prog w K mg base 7 "steps" ["bundle"] S_steps := d_steps.has fun fd F => ok_steps F h_ti h_ri h_ba
  have h_ca : Has l.prog w K mg base 2 "rope_called" ["bundle", "name"] S_called := d_rope_called.has fun fd F => ok_rope_called F
  have h_wt : Has l.prog w K mg base 7 "whole_till" ["bundle", "broken", "name"] S_whole := d_whole_till.has fun fd F => ok_whole_till F h_rl h_ca h_tiL
  have h_gu : Has l.prog w K mg base 8 "is_guard" ["bundle", "one", "other"] S_guard := d_is_guard.has fun fd F => ok_is_guard F h_mo h_wt
  have h_gs : Has l.prog w K mg base 9 "guards" ["bundle"] S_guards := d_guards.has fun fd F => ok_guards F h_gu
  have h_ch0 : Has l.prog w K mg base 0 "choices" ["names", "many"] (S_lots 0) := d_choices.has fun fd F => ok_lots0
  have h_ch1 : Has l.prog w K mg base 1 "choices" ["names", "many"] (S_lots 1) := d_choices.has fun fd F => ok_choices T F h_ch0
  have h_ch2 : Has l.prog w K mg base 2 "choices" ["names", "many"] (S_lots 2) := d_choices.has fun fd F => ok_choices T F h_ch1
  have h_ch3 : Has l.prog w K mg base 3 "choices" ["names", "many"] (S_lots 3) := d_choices.has fun fd F => ok_choices T F h_ch2
  have h_ch4 : Has l.prog w K mg base 4 "choices" ["names", "many"] (S_lots 4) := d_choices.has fun fd F => ok_choices T F h_ch3
  have h_ch5 : Has l.prog w K mg base 5 "choices" ["names", "many"] (S_lots 5) := d_choices.has fun fd F => ok_choices T F h_ch4
  have h_ch6 : Has l.prog w K mg base 6 "choices" ["names", "many"] (S_lots 6) := d_choices.has fun fd F => ok_choices T F h_ch5
  have h_ch7 : Has l.prog w K mg base 7 "choices" ["names", "many"] (S_lots 7) := d_choices.has fun fd F => ok_choices T F h_ch6
  have h_db1 : Has l.prog w K mg base 1 "doubled" ["rope"] S_dbl1 := d_doubled.has fun fd F => ok_doubled F
  have h_wd : Has l.prog w K mg base 2 "with_doubled" ["bundle", "chosen"] S_dbl := d_with_doubled.has fun fd F => ok_with_doubled T F h_db1
  have h_few : Has l.prog w K mg base 9 "fewest_doubled" ["bundle", "load"] S_few := d_fewest_doubled.has fun fd F => ok_fewest_doubled T F h_ch7 h_be h_wd
  have h_iw : Has l.prog w K mg base 1 "is_whole" ["thing"] S_isI := d_is_whole.has fun fd F => ok_is_whole T F
  have h_wi : Has l.prog w K mg base 2 "is_within" ["thing", "least", "most"] S_inB := d_is_within.has fun fd F => ok_is_within F h_iw
  have h_in : Has l.prog w K mg base 1 "is_name" ["thing"] S_name := d_is_name.has fun fd F => ok_is_name C T F
  have h_ir : Has l.prog w K mg base 3 "is_rope" ["thing"] S_isrope := d_is_rope.has fun fd F => ok_is_rope C T F h_in h_wi
  have h_ib : Has l.prog w K mg base 4 "is_bundle" ["thing"] S_isbun := d_is_bundle.has fun fd F => ok_is_bundle C T F h_ir
  have h_bag : Has l.prog w K mg base 1 "_law_bag" ["script", "k"] S_bag := d_law_bag.has fun fd F => ok_law_bag T F
  have h_take : Has l.prog w K mg base 1 "_law_take" ["bag", "many"] S_take := d_law_take.has fun fd F => ok_law_take F
  have h_of : Has l.prog w K mg base 2 "_law_of" ["bag", "some"] S_of := d_law_of.has fun fd F => ok_law_of T F h_take
  have h_low : Has l.prog w K mg base 1 "_law_lowest" ["top", "bottom"] S_lowest := d_law_lowest.has fun fd F => ok_law_lowest T F
  have h_rope : Has l.prog w K mg base 2 "_law_rope" ["bag", "name"] S_rope := d_law_rope.has fun fd F => ok_law_rope F h_take
  have h_bunN : Has l.prog w K mg base 3 "_law_bundle" ["bag", "most"] S_bundleN := d_law_bundle.has fun fd F => ok_law_bundle T F h_take h_of h_rope
  have h_bun := h_bunN.imp bunN_imp
  have h_load : Has l.prog w K mg base 2 "_law_load" ["bag"] S_load := d_law_load.has fun fd F => ok_law_load F h_take h_low
  have h_plus : Has l.prog w K mg base 2 "_law_plus" ["one", "other"] S_plus := d_law_plus.has fun fd F => ok_law_plus F h_low
  have h_less : Has l.prog w K mg base 1 "_law_less" ["one", "other"] S_less := d_law_less.has fun fd F => ok_law_less F
  have h_pull : Has l.prog w K mg base 2 "_law_pull" ["rope", "sunk"] S_pull := d_law_pull.has fun fd F => ok_law_pull T F h_low
  have h_end : Has l.prog w K mg base 2 "_law_end" ["rope"] S_end := d_law_end.has fun fd F => ok_law_end F h_low
  have h_marks : Has l.prog w K mg base 3 "_law_marks" ["bundle"] S_marks := d_law_marks.has fun fd F => ok_law_marks F h_end h_less h_plus h_pull
  have h_tms : Has l.prog w K mg base 2 "_law_times" ["part", "by"] S_times := d_law_times.has fun fd F => ok_law_times F h_low
  have h_tmsQ := h_tms.imp times_imp
  have h_chd : Has l.prog w K mg base 1 "_law_changed" ["bundle", "slacker", "stiffer", "sign"] S_changed := d_law_changed.has fun fd F => ok_law_changed T F
  have h_nmd : Has l.prog w K mg base 1 "_law_named" ["names", "sign"] S_named := d_law_named.has fun fd F => ok_law_named T F
  have h_goes : Has l.prog w K mg base 10 "_law_goes" ["bundle", "other", "scale", "sign", "load"] S_goes := d_law_goes.has fun fd F => ok_law_goes T F h_tms h_tmsQ h_nmd h_si h_puF h_wa h_ta h_gtS h_stp h_few h_gs
  exact ok_law T (fun_mk (st := s_law) l54 c54 k54) h_bag h_take h_bun h_chd h_ib h_load h_of h_marks h_goes
theorem walk {l : PySem.W.OpenLaw} {q : Program} {loose : List Str} {XP : (Str → Option Value) → Heap → Prop} {YP : World → Heap → Prop} {d : DefRec} {K : Params → PySem.W.Frag} (hn : l.most = some 63) (hdf : d.params.defaults = [])
    (hY : ∀ (w : World) (h : Heap), YP w h → (K w.params).In h)
    (F : ∀ (w : World) (mg : Str → Option Value) (fa : Addr) (h : Heap), (K w.params).In h → h.Ns mainGlobals mg → mg d.name = some (.ref fa) →
      ∃ fd : FuncData, (∀ (s : Shared) (u : Value), BindsTo s fd ⟨[u], []⟩ [("script", u)]) ∧ ∀ base : Heap, (K w.params).In base → base.Ns mainGlobals mg → FnOk l.prog w (K w.params) mg base CX0 11 fa fd ["script"] (spOf (K w.params) S_law)) :
    PySem.W.WalkO q loose XP YP l.row.toRowW d [] (fun f vs => PySem.call f vs) :=
  L2.walk_of (n := 63) (k := 11) (x := "script") (CX := fun _ => CX0) (sp := fun w => spOf (K w.params) S_law) hn (by decide) hdf ⟨rfl, by decide, by decide⟩ hY F
    (fun w H a ns hl _ hS => ⟨[.l ns], H, fun _ => none, fun r _ => r = .d (.bool true), ⟨Ex.refl H, fun b ds e => by cases e⟩, .cons ⟨a, rfl, hS⟩ .nil, ⟨ns, rfl, hl, rfl⟩, fun v r H' M' H2 p _ _ vv => by subst p; cases vv; rfl⟩) fun _ _ _ _ _ z => z
end K2

open PySem PySem.W PyProof.Rows in
set_option maxRecDepth 100000 in
set_option maxHeartbeats 0 in
theorem PySem.Challenge.cw_strandpull_k12_whole_measures_change_not_holds : PySem.Challenge.rw_strandpull_k12_whole_measures_change_not.Holds := by
  w_on; o_law; k_head; (case hw => w_witness2)
  k_fill
  refine K2.walk (l := PySem.Challenge.rw_strandpull_k12_whole_measures_change_not) rfl rfl (fun w h Y => PySem.W.kIn_of Y) ?F
  case F =>
    intro w mg fa h KX G hmg
    refine' K2.all_mk KX G hmg ?a0 ?l0 ?c0 ?k0 ?a1 ?l1 ?c1 ?k1 ?a2 ?l2 ?c2 ?k2 ?a3 ?l3 ?c3 ?k3 ?a4 ?l4 ?c4 ?k4 ?a5 ?l5 ?c5 ?k5 ?a6 ?l6 ?c6 ?k6 ?a7 ?l7 ?c7 ?k7 ?a8 ?l8 ?c8 ?k8 ?a9 ?l9 ?c9 ?k9 ?a10 ?l10 ?c10 ?k10 ?a11 ?l11 ?c11 ?k11 ?a12 ?l12 ?c12 ?k12 ?a13 ?l13 ?c13 ?k13 ?a14 ?l14 ?c14 ?k14 ?a15 ?l15 ?c15 ?k15 ?a16 ?l16 ?c16 ?k16 ?a17 ?l17 ?c17 ?k17 ?a18 ?l18 ?c18 ?k18 ?a19 ?l19 ?c19 ?k19 ?a20 ?l20 ?c20 ?k20 ?a21 ?l21 ?c21 ?k21 ?a22 ?l22 ?c22 ?k22 ?a23 ?l23 ?c23 ?k23 ?a24 ?l24 ?c24 ?k24 ?a25 ?l25 ?c25 ?k25 ?a26 ?l26 ?c26 ?k26 ?a27 ?l27 ?c27 ?k27 ?a28 ?l28 ?c28 ?k28 ?a29 ?l29 ?c29 ?k29 ?a30 ?l30 ?c30 ?k30 ?a31 ?l31 ?c31 ?k31 ?a32 ?l32 ?c32 ?k32 ?a33 ?l33 ?c33 ?k33 ?a34 ?l34 ?c34 ?k34 ?a35 ?l35 ?c35 ?k35 ?a36 ?l36 ?c36 ?k36 ?a37 ?l37 ?c37 ?k37 ?a38 ?l38 ?c38 ?k38 ?a39 ?l39 ?c39 ?k39 ?a40 ?l40 ?c40 ?k40 ?a41 ?l41 ?c41 ?k41 ?a42 ?l42 ?c42 ?k42 ?a43 ?l43 ?c43 ?k43 ?a44 ?l44 ?c44 ?k44 ?a45 ?l45 ?c45 ?k45 ?a46 ?l46 ?c46 ?k46 ?a47 ?l47 ?c47 ?k47 ?a48 ?l48 ?c48 ?k48 ?a49 ?l49 ?c49 ?k49 ?a50 ?l50 ?c50 ?k50 ?a51 ?l51 ?c51 ?k51 ?a52 ?l52 ?c52 ?k52 ?a53 ?l53 ?c53 ?k53 ?a54 ?l54 ?c54 ?k54 ?zN ?lN ?z_MOST_LETTERS ?z_MOST_SLACK ?z_MOST_STIFF ?z_MOST_STRONG ?z_MOST_ROPES ?z_len ?z_abs ?z_max ?z_min ?z_sum ?z_sorted ?z_tuple ?z_range ?z_list ?z_isinstance ?z_bool ?z_set ?z_dict ?z_int ?z_str ?z_all ?z_zip ?z_any ?z_enumerate
    (case a0 => k_is)
    (case l0 => k_is)
    (case c0 => k_is)
    (case k0 => k_is)
    (case a1 => k_is)
    (case l1 => k_is)
    (case c1 => k_is)
    (case k1 => k_is)
    (case a2 => k_is)
    (case l2 => k_is)
    (case c2 => k_is)
    (case k2 => k_is)
    (case a3 => k_is)
    (case l3 => k_is)
    (case c3 => k_is)
    (case k3 => k_is)
    (case a4 => k_is)
    (case l4 => k_is)
    (case c4 => k_is)
    (case k4 => k_is)
    (case a5 => k_is)
    (case l5 => k_is)
    (case c5 => k_is)
    (case k5 => k_is)
    (case a6 => k_is)
    (case l6 => k_is)
    (case c6 => k_is)
    (case k6 => k_is)
    (case a7 => k_is)
    (case l7 => k_is)
    (case c7 => k_is)
    (case k7 => k_is)
    (case a8 => k_is)
    (case l8 => k_is)
    (case c8 => k_is)
    (case k8 => k_is)
    (case a9 => k_is)
    (case l9 => k_is)
    (case c9 => k_is)
    (case k9 => k_is)
    (case a10 => k_is)
    (case l10 => k_is)
    (case c10 => k_is)
    (case k10 => k_is)
    (case a11 => k_is)
    (case l11 => k_is)
    (case c11 => k_is)
    (case k11 => k_is)
    (case a12 => k_is)
    (case l12 => k_is)
    (case c12 => k_is)
    (case k12 => k_is)
    (case a13 => k_is)
    (case l13 => k_is)
    (case c13 => k_is)
    (case k13 => k_is)
    (case a14 => k_is)
    (case l14 => k_is)
    (case c14 => k_is)
    (case k14 => k_is)
    (case a15 => k_is)
    (case l15 => k_is)
    (case c15 => k_is)
    (case k15 => k_is)
    (case a16 => k_is)
    (case l16 => k_is)
    (case c16 => k_is)
    (case k16 => k_is)
    (case a17 => k_is)
    (case l17 => k_is)
    (case c17 => k_is)
    (case k17 => k_is)
    (case a18 => k_is)
    (case l18 => k_is)
    (case c18 => k_is)
    (case k18 => k_is)
    (case a19 => k_is)
    (case l19 => k_is)
    (case c19 => k_is)
    (case k19 => k_is)
    (case a20 => k_is)
    (case l20 => k_is)
    (case c20 => k_is)
    (case k20 => k_is)
    (case a21 => k_is)
    (case l21 => k_is)
    (case c21 => k_is)
    (case k21 => k_is)
    (case a22 => k_is)
    (case l22 => k_is)
    (case c22 => k_is)
    (case k22 => k_is)
    (case a23 => k_is)
    (case l23 => k_is)
    (case c23 => k_is)
    (case k23 => k_is)
    (case a24 => k_is)
    (case l24 => k_is)
    (case c24 => k_is)
    (case k24 => k_is)
    (case a25 => k_is)
    (case l25 => k_is)
    (case c25 => k_is)
    (case k25 => k_is)
    (case a26 => k_is)
    (case l26 => k_is)
    (case c26 => k_is)
    (case k26 => k_is)
    (case a27 => k_is)
    (case l27 => k_is)
    (case c27 => k_is)
    (case k27 => k_is)
    (case a28 => k_is)
    (case l28 => k_is)
    (case c28 => k_is)
    (case k28 => k_is)
    (case a29 => k_is)
    (case l29 => k_is)
    (case c29 => k_is)
    (case k29 => k_is)
    (case a30 => k_is)
    (case l30 => k_is)
    (case c30 => k_is)
    (case k30 => k_is)
    (case a31 => k_is)
    (case l31 => k_is)
    (case c31 => k_is)
    (case k31 => k_is)
    (case a32 => k_is)
    (case l32 => k_is)
    (case c32 => k_is)
    (case k32 => k_is)
    (case a33 => k_is)
    (case l33 => k_is)
    (case c33 => k_is)
    (case k33 => k_is)
    (case a34 => k_is)
    (case l34 => k_is)
    (case c34 => k_is)
    (case k34 => k_is)
    (case a35 => k_is)
    (case l35 => k_is)
    (case c35 => k_is)
    (case k35 => k_is)
    (case a36 => k_is)
    (case l36 => k_is)
    (case c36 => k_is)
    (case k36 => k_is)
    (case a37 => k_is)
    (case l37 => k_is)
    (case c37 => k_is)
    (case k37 => k_is)
    (case a38 => k_is)
    (case l38 => k_is)
    (case c38 => k_is)
    (case k38 => k_is)
    (case a39 => k_is)
    (case l39 => k_is)
    (case c39 => k_is)
    (case k39 => k_is)
    (case a40 => k_is)
    (case l40 => k_is)
    (case c40 => k_is)
    (case k40 => k_is)
    (case a41 => k_is)
    (case l41 => k_is)
    (case c41 => k_is)
    (case k41 => k_is)
    (case a42 => k_is)
    (case l42 => k_is)
    (case c42 => k_is)
    (case k42 => k_is)
    (case a43 => k_is)
    (case l43 => k_is)
    (case c43 => k_is)
    (case k43 => k_is)
    (case a44 => k_is)
    (case l44 => k_is)
    (case c44 => k_is)
    (case k44 => k_is)
    (case a45 => k_is)
    (case l45 => k_is)
    (case c45 => k_is)
    (case k45 => k_is)
    (case a46 => k_is)
    (case l46 => k_is)
    (case c46 => k_is)
    (case k46 => k_is)
    (case a47 => k_is)
    (case l47 => k_is)
    (case c47 => k_is)
    (case k47 => k_is)
    (case a48 => k_is)
    (case l48 => k_is)
    (case c48 => k_is)
    (case k48 => k_is)
    (case a49 => k_is)
    (case l49 => k_is)
    (case c49 => k_is)
    (case k49 => k_is)
    (case a50 => k_is)
    (case l50 => k_is)
    (case c50 => k_is)
    (case k50 => k_is)
    (case a51 => k_is)
    (case l51 => k_is)
    (case c51 => k_is)
    (case k51 => k_is)
    (case a52 => k_is)
    (case l52 => k_is)
    (case c52 => k_is)
    (case k52 => k_is)
    (case a53 => k_is)
    (case l53 => k_is)
    (case c53 => k_is)
    (case k53 => k_is)
    (case a54 => k_is)
    (case l54 => k_is)
    (case c54 => k_is)
    (case k54 => k_is)
    (case zN => k_is)
    (case lN => k_is)
    (case z_MOST_LETTERS => k_is)
    (case z_MOST_SLACK => k_is)
    (case z_MOST_STIFF => k_is)
    (case z_MOST_STRONG => k_is)
    (case z_MOST_ROPES => k_is)
    (case z_len => k_is)
    (case z_abs => k_is)
    (case z_max => k_is)
    (case z_min => k_is)
    (case z_sum => k_is)
    (case z_sorted => k_is)
    (case z_tuple => k_is)
    (case z_range => k_is)
    (case z_list => k_is)
    (case z_isinstance => k_is)
    (case z_bool => k_is)
    (case z_set => k_is)
    (case z_dict => k_is)
    (case z_int => k_is)
    (case z_str => k_is)
    (case z_all => k_is)
    (case z_zip => k_is)
    (case z_any => k_is)
    (case z_enumerate => k_is)
