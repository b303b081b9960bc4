import PyProof.Rows.All
import Wide.All
import OpenK.AllK
import Wide.FinOn
import HandS.ForMost
import HandS.Wide
import HandS.SortKw
import KE.SortKeyHeap
import KE.SortData
import HandS.Head2
import HandS.Dict
import HandS.TupAny
import HandS.Style
import HandS.ForExc
import HandS.Finally
import HandS.TryMany
import HandS.ExcSuper
import HandS.ExcField
import HandS.ExcIs
import HandS.HotCalls
import HandS.Lambda
import HandS.CallSlots
import HandS.IsInst
import PyProof.AutoSeq1
import HandS.Set
import HandS.SetFor
import HandS.Strs
import HandS.SetBool
import HandS.Deep
import HandS.Star
import HandS.Text
import HandS.Zip
import PyProof.Rows.IntBool
import PyProof.CallStr
import PyProof.StrLawsIn
import KE.KExcSuper
import KE.KSuper
import KE.KExcIs
import HandS.EndTab
import KE.KNestM
import PySem.Challenge.RW_strandpull_k11_works_by_hand
set_option Elab.async false
set_option linter.all false
set_option maxRecDepth 100000
set_option maxHeartbeats 8000000
namespace K2
section
open PySem PySem.W PySem.Calls PyProof.Rows
abbrev hRow : OpenRow := OpenLaw.row PySem.Challenge.rw_strandpull_k11_works_by_hand
def hNames0 : List PySem.Str := ["PullError", "ToldError", "NoRope", "NoLoad", "NoName", "NoNumber", "Taken", "AskedError", "Full", "Hung", "NoRopes", "Whole", "MOST_LETTERS", "NOUGHT", "is_whole", "is_name", "is_fraction", "common_divisor", "fraction", "MOST_SLACK", "MOST_STIFF", "MOST_STRONG", "MOST_ROPES", "is_load", "is_rope", "is_within", "ropes_left", "sunk_by", "slack_of", "is_drawn"]
def hNames1 : List PySem.Str := ["pull_at", "waves", "giving_way", "is_too_much", "Works", "is_named", "slack_called", "tighter", "_law_bag", "_law_take", "_law_of", "_law_whole", "_law_within", "_law_is_name", "_law_odd", "_law_lowest", "_law_rope", "_law_load", "_law_plus", "_law_less", "_law_left", "_law_pull", "_law_sunk", "_law_waves", "_law_end", "_law_marks", "_law_new", "_law_is_part", "_law_good_rope", "_law_refusal_of"]
def hNames2 : List PySem.Str := ["_law_done", "_law_kinds", "_law_told", "_law_do", "_law_deed", "_law_works_so", "_law_strange"]
def hNames : List PySem.Str := hNames0 ++ hNames1 ++ hNames2
def hView : Program := view hRow.prog [73]
section
local macro_rules
  | `(tactic| o_head $_) => `(tactic| assumption)
theorem hMk (h : hRow.Holds) : hRow.Holds := by km_head
end
noncomputable def hP : Params := { strHash := fun _ => 0, shareClass := fun _ => 0, mergeTok := fun t => t, idOf := fun _ => 0, idOfShared := fun _ _ => 0, followText := fun _ => false, idOfImm := fun _ => 0 }
noncomputable def hAs : List Addr := (hMk.heap_1 hP).map (·.1)
theorem hEk : ∀ P, hAs = (hMk.heap_1 P).map (·.1) := fun P => by kernel_rfl
def hTs : List Addr := [612]
noncomputable abbrev hHook : Hook := kmHook hMk.heap_1 hAs hEk hTs
noncomputable abbrev hOb (s : SharedT) : hHook.α := (hAs.map (HandSHeadRun.getT s), hTs.map (HandSHeadRun.getT s))
theorem hOb_eq (s : SharedT) : hOb s = hHook.obs s.abs := by
  show _ = (hAs.map s.abs.heap.get?, hTs.map s.abs.heap.get?)
  rw [← List.map_congr_left fun a _ => HandSHeadRun.getT_eq s a, ← List.map_congr_left fun a _ => HandSHeadRun.getT_eq s a]
theorem hRun (w : World) : HandSHeadRun.RunEq hRow hView hHook hOb 12000 hNames w := by
  intro os
  kernel_rfl
end
end K2
namespace Sd
open PySem L2
def Ex (H H' : Hp) : Prop := ∀ a o, H a = some o → H' a = some o
theorem Ex.refl (H : Hp) : Ex H H := fun _ _ h => h
theorem Ex.trans {H H1 H2 : Hp} (a : Ex H H1) (b : Ex H1 H2) : Ex H H2 := fun x o h => b x o (a x o h)
theorem Ex.new {H : Hp} {p : Addr} {o : HO} (h : H p = none) : Ex H (upd H p o) := fun a u e => by
  rw [upd_ne (ne_of_none e h)]
  exact e
mutual
inductive Dq (K : PySem.W.Frag) (H : Hp) : V → PyData → Prop
  | non : Dq K H .non .none
  | bl (b : Bool) : Dq K H (.bl b) (.bool b)
  | int (i : Int) : Dq K H (.int i) (.int i)
  | str (x : Str) : Dq K H (.str x) (.str x)
  | lst {a : Addr} {xs : List V} {ds : List PyData} : H a = some (.lst xs) → DqAll K H xs ds → Dq K H (.ref a) (.list ds)
  | tup {a : Addr} {xs : List V} {ds : List PyData} : SqT K H a xs → DqAll K H xs ds → Dq K H (.ref a) (.tuple ds)
inductive DqAll (K : PySem.W.Frag) (H : Hp) : List V → List PyData → Prop
  | nil : DqAll K H [] []
  | cons {v : V} {vs : List V} {d : PyData} {ds : List PyData} : Dq K H v d → DqAll K H vs ds → DqAll K H (v :: vs) (d :: ds)
end
theorem sqTx {K : PySem.W.Frag} {H H' : Hp} {a : Addr} {xs : List V} (e : Ex H H') (h : SqT K H a xs) : SqT K H' a xs := by
  rcases h with (h | ⟨o, h⟩) | h
  · exact .inl (.inl (e _ _ h))
  · exact .inl (.inr ⟨o, e _ _ h⟩)
  · exact .inr h
mutual
theorem Dq.mono {H H' : Hp} (e : Ex H H') : ∀ (d : PyData) (v : V), Dq K H v d → Dq K H' v d
  | .none, _, h => by cases h; exact .non
  | .bool b, _, h => by cases h; exact .bl _
  | .int i, _, h => by cases h; exact .int _
  | .str x, _, h => by cases h; exact .str _
  | .list ds, _, h => by
    cases h with
    | lst h1 h2 => exact .lst (e _ _ h1) (DqAll.mono e ds _ h2)
  | .tuple ds, _, h => by
    cases h with
    | tup h1 h2 => exact .tup (sqTx e h1) (DqAll.mono e ds _ h2)
  | .dict _, _, h => by cases h
theorem DqAll.mono {H H' : Hp} (e : Ex H H') : ∀ (ds : List PyData) (vs : List V), DqAll K H vs ds → DqAll K H' vs ds
  | [], _, h => by cases h; exact .nil
  | d :: ds, _, h => by
    cases h with
    | cons h1 h2 => exact .cons (Dq.mono e d _ h1) (DqAll.mono e ds _ h2)
end
mutual
theorem Dq.dp {K : PySem.W.Frag} {H : Hp} : ∀ (d : PyData) (v : V), Dq K H v d → Dp K H v d
  | .none, _, h => by cases h; exact .non
  | .bool b, _, h => by cases h; exact .bl _
  | .int i, _, h => by cases h; exact .int _
  | .str x, _, h => by cases h; exact .str _
  | .list ds, _, h => by
    cases h with
    | lst h1 h2 => exact .lst (SqL.of h1) (DqAll.dp ds _ h2)
  | .tuple ds, _, h => by
    cases h with
    | tup h1 h2 => exact .tup h1 (DqAll.dp ds _ h2)
  | .dict _, _, h => by cases h
theorem DqAll.dp {K : PySem.W.Frag} {H : Hp} : ∀ (ds : List PyData) (vs : List V), DqAll K H vs ds → DpAll K H vs ds
  | [], _, h => by cases h; exact .nil
  | d :: ds, _, h => by
    cases h with
    | cons h1 h2 => exact .cons (Dq.dp d _ h1) (DqAll.dp ds _ h2)
end
theorem DqAll.length {H : Hp} : ∀ {ds : List PyData} {vs : List V}, DqAll K H vs ds → vs.length = ds.length
  | [], _, h => by cases h; rfl
  | d :: ds, _, h => by
    cases h with
    | cons h1 h2 => rw [List.length_cons, List.length_cons, DqAll.length h2]
theorem DqAll.get {H : Hp} : ∀ {ds : List PyData} {vs : List V} {i : Nat} {v : V}, DqAll K H vs ds → vs[i]? = some v → ∃ d, ds[i]? = some d ∧ Dq K H v d
  | [], _, _, _, h, e => by cases h; simp at e
  | d :: ds, _, i, v, h, e => by
    cases h with
    | cons h1 h2 =>
      cases i with
      | zero => simp at e; subst e; exact ⟨d, rfl, h1⟩
      | succ i => simp at e; obtain ⟨d', q1, q2⟩ := DqAll.get h2 e; exact ⟨d', by simpa using q1, q2⟩
theorem DqAll.getR {H : Hp} : ∀ {ds : List PyData} {vs : List V} {i : Nat} {d : PyData}, DqAll K H vs ds → ds[i]? = some d → ∃ v, vs[i]? = some v ∧ Dq K H v d
  | [], _, _, _, h, e => by simp at e
  | d0 :: ds, _, i, d, h, e => by
    cases h with
    | cons h1 h2 =>
      cases i with
      | zero => simp at e; subst e; exact ⟨_, rfl, h1⟩
      | succ i => simp at e; obtain ⟨d', q1, q2⟩ := DqAll.getR h2 e; exact ⟨d', by simpa using q1, q2⟩
theorem DqAll.append {H : Hp} : ∀ {xs ys : List V} {ds es : List PyData}, DqAll K H xs ds → DqAll K H ys es → DqAll K H (xs ++ ys) (ds ++ es)
  | _, _, [], _, h, k => by cases h; exact k
  | _, _, d :: ds, _, h, k => by
    cases h with
    | cons h1 h2 => exact .cons h1 (DqAll.append h2 k)
theorem DqAll.take {H : Hp} : ∀ (n : Nat) {xs : List V} {ds : List PyData}, DqAll K H xs ds → DqAll K H (xs.take n) (ds.take n)
  | 0, _, _, _ => by simp only [List.take_zero]; exact .nil
  | n + 1, _, [], h => by cases h; exact .nil
  | n + 1, _, d :: ds, h => by
    cases h with
    | cons h1 h2 => exact .cons h1 (DqAll.take n h2)
theorem DqAll.drop {H : Hp} : ∀ (n : Nat) {xs : List V} {ds : List PyData}, DqAll K H xs ds → DqAll K H (xs.drop n) (ds.drop n)
  | 0, _, _, h => h
  | n + 1, _, [], h => by cases h; exact .nil
  | n + 1, _, d :: ds, h => by
    cases h with
    | cons h1 h2 => exact DqAll.drop n h2
theorem DqAll.set {H : Hp} {v : V} {d : PyData} (hv : Dq K H v d) : ∀ (n : Nat) {xs : List V} {ds : List PyData}, DqAll K H xs ds → DqAll K H (xs.set n v) (ds.set n d)
  | _, _, [], h => by cases h; exact .nil
  | 0, _, d :: ds, h => by
    cases h with
    | cons h1 h2 => exact .cons hv h2
  | n + 1, _, d :: ds, h => by
    cases h with
    | cons h1 h2 => exact .cons h1 (DqAll.set hv n h2)
theorem DqAll.ints {H : Hp} : ∀ {xs : List V} {ns : List Int}, DqAll K H xs (ns.map .int) → xs = ns.map V.int
  | _, [], h => by cases h; rfl
  | _, n :: ns, h => by
    cases h with
    | cons h1 h2 =>
      cases h1
      rw [DqAll.ints h2]; rfl
/-- a value: data; a list that may change, by its address; the script, by its ints; a built-in class; a dict of texts that does not change -/
inductive SV where
  | d (x : PyData) | m (a : Addr) | l (ns : List Int) | t (n : String) | q (ps : List (Str × PyData)) | k (q : Int × Int)
/-- an object that may change: an instance by its attributes; a dict by texts; an error's own dict; a table of code objects -/
inductive Ob where
  | ins (C : Addr) (fs : List (Str × SV)) | dic (ps : List (Str × SV)) | exd (fs : List (Str × SV)) | tab (q : Str)
structure Mem where
  l : Addr → Option (List PyData)
  o : Addr → Option Ob
instance : CoeFun Mem fun _ => Addr → Option (List PyData) := ⟨Mem.l⟩
theorem Mem.ext' {M N : Mem} (h : ∀ a, M.l a = N.l a) (k : ∀ a, M.o a = N.o a) : M = N := by
  cases M; cases N; congr
  · exact funext h
  · exact funext k
def mset (M : Mem) (a : Addr) (ds : List PyData) : Mem := ⟨fun b => if b = a then some ds else M b, M.o⟩
theorem mset_same {M : Mem} {a : Addr} {ds : List PyData} : mset M a ds a = some ds := if_pos rfl
theorem mset_ne {M : Mem} {a b : Addr} {ds : List PyData} (h : b ≠ a) : mset M a ds b = M b := if_neg h
theorem mset_mset {M : Mem} {a : Addr} {ds es : List PyData} : mset (mset M a ds) a es = mset M a es := Mem.ext' (fun b => by
  show (if b = a then some es else (if b = a then some ds else M b)) = if b = a then some es else M b
  split <;> rfl) fun _ => rfl
@[simp] theorem mset_o {M : Mem} {a : Addr} {ds : List PyData} : (mset M a ds).o = M.o := rfl
def oset (M : Mem) (a : Addr) (ob : Ob) : Mem := ⟨M.l, fun b => if b = a then some ob else M.o b⟩
theorem oset_same {M : Mem} {a : Addr} {ob : Ob} : (oset M a ob).o a = some ob := if_pos rfl
theorem oset_ne {M : Mem} {a b : Addr} {ob : Ob} (h : b ≠ a) : (oset M a ob).o b = M.o b := if_neg h
theorem oset_oset {M : Mem} {a : Addr} {x y : Ob} : oset (oset M a x) a y = oset M a y := Mem.ext' (fun _ => rfl) fun b => by
  show (if b = a then some y else (if b = a then some x else M.o b)) = if b = a then some y else M.o b
  split <;> rfl
@[simp] theorem oset_l {M : Mem} {a : Addr} {ob : Ob} : (oset M a ob).l = M.l := rfl
def SVOk (K : PySem.W.Frag) (H : Hp) (v : V) : SV → Prop
  | .d x => Dq K H v x
  | .m a => v = .ref a
  | .l ns => ∃ a, v = .ref a ∧ SqL K H a (ns.map V.int)
  | .t n => v = .ty n
  | .q ps => ∃ a vs, v = .ref a ∧ H a = some (.dK ((ps.map fun p => (Sum.inr p.1 : Key)).zip vs)) ∧ DqAll K H vs (ps.map Prod.snd)
  | .k q => ∃ a, v = .ref a ∧ H a = some (.tup [.int q.1, .int q.2])
/-- something stands there, and it is no tuple -/
def NT (o : Option HO) : Prop := o ≠ none ∧ ∀ ys, o ≠ some (.tup ys)
@[simp] theorem nt_lst {vs : List V} : NT (some (.lst vs)) := ⟨by simp, by simp⟩
@[simp] theorem nt_set {S : Int → Bool} {n : Nat} : NT (some (.set S n)) := ⟨by simp, by simp⟩
@[simp] theorem nt_dT {kvs : List (List Key × V)} : NT (some (.dT kvs)) := ⟨by simp, by simp⟩
@[simp] theorem nt_frz {o : Obj} {u : HO} : NT (some (.frz o u)) := ⟨by simp, by simp⟩
theorem SVOk.mono {K : PySem.W.Frag} {H H' : Hp} {v : V} (e : Ex H H') : ∀ {r : SV}, SVOk K H v r → SVOk K H' v r
  | .d x, h => Dq.mono e x v h
  | .m a, h => h
  | .l ns, ⟨a, h1, h2⟩ => ⟨a, h1, Same.seq e h2⟩
  | .t n, h => h
  | .q ps, ⟨a, vs, h1, h2, h3⟩ => ⟨a, vs, h1, e _ _ h2, DqAll.mono e _ _ h3⟩
  | .k q, ⟨a, h1, h2⟩ => ⟨a, h1, e _ _ h2⟩
inductive SVsOk (K : PySem.W.Frag) (H : Hp) : List V → List SV → Prop
  | nil : SVsOk K H [] []
  | cons {v : V} {vs : List V} {r : SV} {rs : List SV} : SVOk K H v r → SVsOk K H vs rs → SVsOk K H (v :: vs) (r :: rs)
theorem SVsOk.mono {K : PySem.W.Frag} {H H' : Hp} (e : Ex H H') : ∀ {vs : List V} {rs : List SV}, SVsOk K H vs rs → SVsOk K H' vs rs
  | _, _, .nil => .nil
  | _, _, .cons h t => .cons (h.mono e) (SVsOk.mono e t)
theorem SVsOk.length {K : PySem.W.Frag} {H : Hp} : ∀ {vs : List V} {rs : List SV}, SVsOk K H vs rs → vs.length = rs.length
  | _, _, .nil => rfl
  | _, _, .cons _ t => by rw [List.length_cons, List.length_cons, SVsOk.length t]
@[simp] theorem nt_ins {C dx : Addr} {fs : List (Str × V)} : NT (some (.ins C dx fs)) := ⟨by simp, by simp⟩
@[simp] theorem nt_dK {kvs : List (Key × V)} : NT (some (.dK kvs)) := ⟨by simp, by simp⟩
@[simp] theorem nt_xd {fs : List (Str × V)} : NT (some (.xd fs)) := ⟨by simp, by simp⟩
@[simp] theorem nt_tbl {ps : Array Value} : NT (some (.tbl ps)) := ⟨by simp, by simp⟩
/-- what stands for an object -/
def ObRel (K : PySem.W.Frag) (H : Hp) : Ob → HO → Prop
  | .ins C fs, o => ∃ dx vs, o = .ins C dx ((fs.map Prod.fst).zip vs) ∧ SVsOk K H vs (fs.map Prod.snd)
  | .dic ps, o => ∃ vs, o = .dK ((ps.map fun p => (Sum.inr p.1 : Key)).zip vs) ∧ SVsOk K H vs (ps.map Prod.snd)
  | .exd fs, o => ∃ vs, o = .xd ((fs.map Prod.fst).zip vs) ∧ SVsOk K H vs (fs.map Prod.snd)
  | .tab q, o => ∃ ps : Array Value, o = .tbl ps ∧ TriplesOk ps.toList ∧ ∀ (pos : Pos) (cv : Value), codeAmong pos ps.toList = some cv → ∃ c, cv = .ref c ∧ H c = some (LamX.CodeO c q)
theorem ObRel.mono {K : PySem.W.Frag} {H H' : Hp} (e : Ex H H') : ∀ {ob : Ob} {o : HO}, ObRel K H ob o → ObRel K H' ob o
  | .ins C fs, o, ⟨dx, vs, h1, h2⟩ => ⟨dx, vs, h1, h2.mono e⟩
  | .dic ps, o, ⟨vs, h1, h2⟩ => ⟨vs, h1, h2.mono e⟩
  | .exd fs, o, ⟨vs, h1, h2⟩ => ⟨vs, h1, h2.mono e⟩
  | .tab q, o, ⟨ps, h1, h2, h3⟩ => ⟨ps, h1, h2, fun pos cv hc => let ⟨c, e1, e2⟩ := h3 pos cv hc; ⟨c, e1, e _ _ e2⟩⟩
theorem ObRel.nt {K : PySem.W.Frag} {H : Hp} : ∀ {ob : Ob} {o : HO}, ObRel K H ob o → NT (some o)
  | .ins C fs, o, ⟨dx, vs, h1, _⟩ => by rw [h1]; simp
  | .dic ps, o, ⟨vs, h1, _⟩ => by rw [h1]; simp
  | .exd fs, o, ⟨vs, h1, _⟩ => by rw [h1]; simp
  | .tab q, o, ⟨ps, h1, _⟩ => by rw [h1]; simp
theorem ObRel.nl {K : PySem.W.Frag} {H : Hp} : ∀ {ob : Ob} {o : HO}, ObRel K H ob o → ∀ xs, o ≠ .lst xs
  | .ins C fs, o, ⟨dx, vs, h1, _⟩, xs => by rw [h1]; simp
  | .dic ps, o, ⟨vs, h1, _⟩, xs => by rw [h1]; simp
  | .exd fs, o, ⟨vs, h1, _⟩, xs => by rw [h1]; simp
  | .tab q, o, ⟨ps, h1, _⟩, xs => by rw [h1]; simp
structure WOk (K : PySem.W.Frag) (H : Hp) (M : Mem) (H1 : Hp) : Prop where
  ex : Ex H H1
  cell : ∀ a ds, M a = some ds → H a = none ∧ ∃ vs, H1 a = some (.lst vs) ∧ DqAll K H vs ds
  obj : ∀ a ob, M.o a = some ob → H a = none ∧ ∃ o, H1 a = some o ∧ ObRel K H ob o
theorem WOk.freshM {K : PySem.W.Frag} {H H1 : Hp} {M : Mem} {p : Addr} (w : WOk K H M H1) (hp : H1 p = none) : M p = none := by
  cases q : M p with
  | none => rfl
  | some ds => obtain ⟨_, vs, h2, _⟩ := w.cell p ds q; rw [h2] at hp; cases hp
theorem WOk.freshO {K : PySem.W.Frag} {H H1 : Hp} {M : Mem} {p : Addr} (w : WOk K H M H1) (hp : H1 p = none) : M.o p = none := by
  cases q : M.o p with
  | none => rfl
  | some ds => obtain ⟨_, vs, h2, _⟩ := w.obj p ds q; rw [h2] at hp; cases hp
theorem WOk.freshH {K : PySem.W.Frag} {H H1 : Hp} {M : Mem} {p : Addr} (w : WOk K H M H1) (hp : H1 p = none) : H p = none := by
  cases q : H p with
  | none => rfl
  | some u => rw [w.ex p u q] at hp; cases hp
/-- no list is an object -/
theorem WOk.lo {K : PySem.W.Frag} {H H1 : Hp} {M : Mem} {p : Addr} {ds : List PyData} (w : WOk K H M H1) (hm : M p = some ds) : M.o p = none := by
  cases q : M.o p with
  | none => rfl
  | some ob =>
    obtain ⟨_, vs, h1, _⟩ := w.cell p ds hm
    obtain ⟨_, o, h2, h3⟩ := w.obj p ob q
    rw [h1] at h2
    cases h2
    exact absurd rfl (h3.nl vs)
theorem WOk.ol {K : PySem.W.Frag} {H H1 : Hp} {M : Mem} {p : Addr} {ob : Ob} (w : WOk K H M H1) (hm : M.o p = some ob) : M p = none := by
  cases q : M p with
  | none => rfl
  | some ds => rw [w.lo q] at hm; cases hm
structure Step (H H1 : Hp) (M : Mem) (H' H2 : Hp) (M' : Mem) : Prop where
  pure : Ex H H'
  keep : ∀ a o, H1 a = some o → M a = none → M.o a = none → H2 a = some o
  new : ∀ a, H a = none → M a = none → M.o a = none → NT (H1 a) → H' a = none ∧ M' a = none ∧ M'.o a = none
theorem Step.refl {H H1 : Hp} {M : Mem} : Step H H1 M H H1 M := ⟨Ex.refl _, fun _ _ h _ _ => h, fun _ h h' h2 _ => ⟨h, h', h2⟩⟩
theorem Step.trans {H H1 H' H2 H'' H3 : Hp} {M M' M'' : Mem} (w : WOk K H M H1) (w' : WOk K H' M' H2) (a : Step H H1 M H' H2 M') (b : Step H' H2 M' H'' H3 M'') : Step H H1 M H'' H3 M'' := by
  refine ⟨a.pure.trans b.pure, fun x o hx hm ho => ?_, fun x hx hm ho hn => ?_⟩
  · have h2 := a.keep x o hx hm ho
    have key : (M' x ≠ none ∨ M'.o x ≠ none) → H' x = none ∧ NT (H1 x) := fun q => by
      cases q3 : M' x with
      | some ds =>
        obtain ⟨hn, vs, hv, _⟩ := w'.cell x ds q3
        have hx' : H1 x = some (.lst vs) := by rw [hx, ← h2, hv]
        exact ⟨hn, by rw [hx']; simp⟩
      | none =>
        cases q4 : M'.o x with
        | none => rcases q with q | q
                  · exact absurd q3 q
                  · exact absurd q4 q
        | some ob =>
          obtain ⟨hn, o', hv, hr⟩ := w'.obj x ob q4
          have hx' : H1 x = some o' := by rw [hx, ← h2, hv]
          exact ⟨hn, by rw [hx']; exact hr.nt⟩
    have both : M' x = none ∧ M'.o x = none := by
      rcases Classical.em (M' x ≠ none ∨ M'.o x ≠ none) with q | q
      · exfalso
        obtain ⟨k1, k2⟩ := key q
        cases q2 : H x with
        | none =>
          obtain ⟨_, z1, z2⟩ := a.new x q2 hm ho k2
          rcases q with q | q
          · exact q z1
          · exact q z2
        | some u => rw [a.pure x u q2] at k1; cases k1
      · exact ⟨Classical.not_not.mp fun z => q (.inl z), Classical.not_not.mp fun z => q (.inr z)⟩
    exact b.keep x o h2 both.1 both.2
  · obtain ⟨h1, h2, h4⟩ := a.new x hx hm ho hn
    refine b.new x h1 h2 h4 ?_
    cases q : H1 x with
    | none => exact absurd q hn.1
    | some o => rw [a.keep x o q hm ho]; rw [q] at hn; exact hn
abbrev DSt := List (Option SV)
structure EnvOk (K : PySem.W.Frag) (H : Hp) (σ : St) (δ : DSt) : Prop where
  len : σ.length = δ.length
  at' : ∀ (i : Nat) (r : SV), δ[i]? = some (some r) → ∃ v, σ[i]? = some (some v) ∧ SVOk K H v r
theorem EnvOk.mono {K : PySem.W.Frag} {H H' : Hp} {σ : St} {δ : DSt} (e : Ex H H') (h : EnvOk K H σ δ) : EnvOk K H' σ δ := ⟨h.len, fun i r q => by
  obtain ⟨v, h1, h2⟩ := h.at' i r q
  exact ⟨v, h1, h2.mono e⟩⟩
theorem EnvOk.set {K : PySem.W.Frag} {H : Hp} {σ : St} {δ : DSt} {v : V} {r : SV} (h : EnvOk K H σ δ) (i : Nat) (hv : SVOk K H v r) : EnvOk K H (σ.set i (some v)) (δ.set i (some r)) := by
  refine ⟨by rw [List.length_set, List.length_set, h.len], fun j r' q => ?_⟩
  by_cases e : i = j
  · subst e
    have hl : i < δ.length := by
      have := (List.getElem?_eq_some_iff.mp q).1
      rwa [List.length_set] at this
    rw [List.getElem?_set_self hl] at q
    cases q
    exact ⟨v, by rw [List.getElem?_set_self (by rw [h.len]; exact hl)], hv⟩
  · rw [List.getElem?_set_ne e] at q ⊢
    exact h.at' j r' q
def wipeD (δ : DSt) : List Nat → DSt
  | [] => δ
  | v :: vs => (wipeD δ vs).set v none
theorem EnvOk.wipe {K : PySem.W.Frag} {H : Hp} {σ : St} {δ : DSt} (h : EnvOk K H σ δ) : ∀ vs : List Nat, EnvOk K H (wipe σ vs) (wipeD δ vs)
  | [] => h
  | v :: vs => by
    have ih := EnvOk.wipe h vs
    refine ⟨by unfold L2.wipe wipeD; rw [List.length_set, List.length_set, ih.len], fun j r q => ?_⟩
    unfold L2.wipe
    unfold wipeD at q
    by_cases e : v = j
    · subst e
      by_cases hl : v < (wipeD δ vs).length
      · rw [List.getElem?_set_self hl] at q; cases q
      · rw [List.getElem?_eq_none (by rw [List.length_set]; omega)] at q; cases q
    · rw [List.getElem?_set_ne e] at q ⊢
      exact ih.at' j r q
section
variable (K : PySem.W.Frag)
def dE (te : TE) (δ : DSt) (M : Mem) (P : SV → Mem → Prop) : Prop := ∀ (σ : St) (H H1 : Hp), EnvOk K H σ δ → WOk K H M H1 → ∀ Q : VK,
  (∀ v r H' M' H2, P r M' → Step H H1 M H' H2 M' → WOk K H' M' H2 → SVOk K H' v r → Q v H2) → te σ H1 Q
def dT (tt : TT) (δ : DSt) (M : Mem) (P : Bool → Mem → Prop) : Prop := ∀ (σ : St) (H H1 : Hp), EnvOk K H σ δ → WOk K H M H1 → ∀ Q : Bool → Hp → Prop,
  (∀ b H' M' H2, P b M' → Step H H1 M H' H2 M' → WOk K H' M' H2 → Q b H2) → tt σ H1 Q
def dA (ta : TA) (δ : DSt) (M : Mem) (P : List SV → Mem → Prop) : Prop := ∀ (σ : St) (H H1 : Hp), EnvOk K H σ δ → WOk K H M H1 → ∀ Q : List V → Hp → Prop,
  (∀ vs rs H' M' H2, P rs M' → Step H H1 M H' H2 M' → WOk K H' M' H2 → SVsOk K H' vs rs → Q vs H2) → ta σ H1 Q
def dO (to : TO) (δ : DSt) (M : Mem) (P : Option Int → Mem → Prop) : Prop := ∀ (σ : St) (H H1 : Hp), EnvOk K H σ δ → WOk K H M H1 → ∀ Q : Option Int → Hp → Prop,
  (∀ o H' M' H2, P o M' → Step H H1 M H' H2 M' → WOk K H' M' H2 → Q o H2) → to σ H1 Q
/-- an operation on two values; on a list of values -/
def dR (r : R2) (x y : SV) (M : Mem) (P : SV → Mem → Prop) : Prop := ∀ (v w : V) (H H1 : Hp), SVOk K H v x → SVOk K H w y → WOk K H M H1 → ∀ Q : VK,
  (∀ v r H' M' H2, P r M' → Step H H1 M H' H2 M' → WOk K H' M' H2 → SVOk K H' v r → Q v H2) → r v w H1 Q
def dU (r : V → Hp → VK → Prop) (x : SV) (M : Mem) (P : SV → Mem → Prop) : Prop := ∀ (v : V) (H H1 : Hp), SVOk K H v x → WOk K H M H1 → ∀ Q : VK,
  (∀ v r H' M' H2, P r M' → Step H H1 M H' H2 M' → WOk K H' M' H2 → SVOk K H' v r → Q v H2) → r v H1 Q
def dC (r : List V → Hp → VK → Prop) (xs : List SV) (M : Mem) (P : SV → Mem → Prop) : Prop := ∀ (vs : List V) (H H1 : Hp), SVsOk K H vs xs → WOk K H M H1 → ∀ Q : VK,
  (∀ v r H' M' H2, P r M' → Step H H1 M H' H2 M' → WOk K H' M' H2 → SVOk K H' v r → Q v H2) → r vs H1 Q
end
section
variable {K : PySem.W.Frag} {δ : DSt} {M : Mem} {P : SV → Mem → Prop} {PB : Bool → Mem → Prop} {PA : List SV → Mem → Prop}
theorem dE.mono {te : TE} {P' : SV → Mem → Prop} (h : dE K te δ M P) (k : ∀ r M', P r M' → P' r M') : dE K te δ M P' := fun σ H H1 e w Q q => h σ H H1 e w Q fun v r H' M' H2 p => q v r H' M' H2 (k r M' p)
theorem dT.mono {te : TT} {P' : Bool → Mem → Prop} (h : dT K te δ M PB) (k : ∀ r M', PB r M' → P' r M') : dT K te δ M P' := fun σ H H1 e w Q q => h σ H H1 e w Q fun v H' M' H2 p => q v H' M' H2 (k v M' p)
theorem dE_var {i : Nat} {r : SV} (h : δ[i]? = some (some r)) (p : P r M) : dE K (tVar i) δ M P := fun σ H H1 e w Q q => by
  obtain ⟨v, h1, h2⟩ := e.at' i r h
  exact ⟨v, h1, q v r H M H1 p Step.refl w h2⟩
theorem dE_int {i : Int} (p : P (.d (.int i)) M) : dE K (tC (.int i)) δ M P := fun σ H H1 e w Q q => q _ _ H M H1 p Step.refl w (.int i)
theorem dE_str {x : Str} (p : P (.d (.str x)) M) : dE K (tC (.str x)) δ M P := fun σ H H1 e w Q q => q _ _ H M H1 p Step.refl w (.str x)
theorem dE_bl {b : Bool} (p : P (.d (.bool b)) M) : dE K (tC (.bl b)) δ M P := fun σ H H1 e w Q q => q _ _ H M H1 p Step.refl w (.bl b)
theorem dE_non (p : P (.d .none) M) : dE K (tC .non) δ M P := fun σ H H1 e w Q q => q _ _ H M H1 p Step.refl w .non
theorem dE_op {r : R2} {ta tb : TE} (h : dE K ta δ M fun x M1 => dE K tb δ M1 fun y M2 => dR K r x y M2 P) : dE K (tOp r ta tb) δ M P := fun σ H H1 e w Q q =>
  h σ H H1 e w _ fun v x H' M' H2 hb s1 w1 vx => hb σ H' H2 (e.mono s1.pure) w1 _ fun u y H'' M'' H3 hr s2 w2 vy => hr v u H'' H3 (vx.mono s2.pure) vy w2 Q fun z r H3' M3 H4 p s3 w3 vz =>
    q z r H3' M3 H4 p ((s1.trans w w1 s2).trans w w2 s3) w3 vz
theorem dE_un {r : V → Hp → VK → Prop} {ta : TE} (h : dE K ta δ M fun x M1 => dU K r x M1 P) : dE K (tUn r ta) δ M P := fun σ H H1 e w Q q =>
  h σ H H1 e w _ fun v x H' M' H2 hb s1 w1 vx => hb v H' H2 vx w1 Q fun z r H3' M3 H4 p s3 w3 vz => q z r H3' M3 H4 p (s1.trans w w1 s3) w3 vz
theorem dA_nil (p : PA [] M) : dA K tNil δ M PA := fun σ H H1 e w Q q => q _ _ H M H1 p Step.refl w .nil
theorem dA_cons {ta : TE} {tr : TA} (h : dE K ta δ M fun x M1 => dA K tr δ M1 fun xs M2 => PA (x :: xs) M2) : dA K (tCons ta tr) δ M PA := fun σ H H1 e w Q q =>
  h σ H H1 e w _ fun v x H' M' H2 hb s1 w1 vx => hb σ H' H2 (e.mono s1.pure) w1 _ fun vs xs H'' M'' H3 p s2 w2 vxs => q _ _ H'' M'' H3 p (s1.trans w w1 s2) w2 (.cons (vx.mono s2.pure) vxs)
theorem dE_cb {r : List V → Hp → VK → Prop} {ta : TA} (h : dA K ta δ M fun xs M1 => dC K r xs M1 P) : dE K (tCB r ta) δ M P := fun σ H H1 e w Q q =>
  h σ H H1 e w _ fun vs xs H' M' H2 hc s1 w1 vxs => hc vs H' H2 vxs w1 Q fun z r H3' M3 H4 p s3 w3 vz => q z r H3' M3 H4 p (s1.trans w w1 s3) w3 vz
/-- what a new object brings -/
theorem laid_ok {H H1 : Hp} {p : Addr} {o : HO} (w : WOk K H M H1) (hp : H1 p = none) : WOk K (upd H p o) M (upd H1 p o) ∧ Step H H1 M (upd H p o) (upd H1 p o) M := by
  have hpH := w.freshH hp
  refine ⟨⟨fun a u h => ?_, fun a ds h => ?_, fun a ob h => ?_⟩, ⟨Ex.new hpH, fun a u h _ _ => ?_, fun a h1 h2 h4 h3 => ?_⟩⟩
  · by_cases e : a = p
    · subst e; rw [upd_same] at h ⊢; exact h
    · rw [upd_ne e] at h ⊢; exact w.ex a u h
  · obtain ⟨h1, vs, h2, h3⟩ := w.cell a ds h
    have e : a ≠ p := by rintro rfl; rw [h2] at hp; cases hp
    exact ⟨by rw [upd_ne e]; exact h1, vs, by rw [upd_ne e]; exact h2, h3.mono (Ex.new hpH)⟩
  · obtain ⟨h1, vs, h2, h3⟩ := w.obj a ob h
    have e : a ≠ p := by rintro rfl; rw [h2] at hp; cases hp
    exact ⟨by rw [upd_ne e]; exact h1, vs, by rw [upd_ne e]; exact h2, h3.mono (Ex.new hpH)⟩
  · rw [upd_ne (ne_of_none h hp)]; exact h
  · have e : a ≠ p := by rintro rfl; exact h3.1 hp
    exact ⟨by rw [upd_ne e]; exact h1, h2, h4⟩
/-- a new list that may still change -/
theorem laid_m {H H1 : Hp} {p : Addr} {vs : List V} {ds : List PyData} (w : WOk K H M H1) (hp : H1 p = none) (hd : DqAll K H vs ds) : M p = none ∧ WOk K H (mset M p ds) (upd H1 p (.lst vs)) ∧ Step H H1 M H (upd H1 p (.lst vs)) (mset M p ds) := by
  have hpH := w.freshH hp
  have hpM := w.freshM hp
  refine ⟨hpM, ⟨fun a u h => ?_, fun a es h => ?_, fun a ob h => ?_⟩, ⟨Ex.refl _, fun a u h _ _ => ?_, fun a h1 h2 h4 h3 => ?_⟩⟩
  · rw [upd_ne (ne_of_none h hpH)]; exact w.ex a u h
  · by_cases e : a = p
    · subst e; rw [mset_same] at h; cases h
      exact ⟨hpH, vs, upd_same, hd⟩
    · rw [mset_ne e] at h
      obtain ⟨h1, us, h2, h3⟩ := w.cell a es h
      exact ⟨h1, us, by rw [upd_ne e]; exact h2, h3⟩
  · obtain ⟨h1, vs, h2, h3⟩ := w.obj a ob h
    have e : a ≠ p := by rintro rfl; rw [h2] at hp; cases hp
    exact ⟨h1, vs, by rw [upd_ne e]; exact h2, h3⟩
  · rw [upd_ne (ne_of_none h hp)]; exact h
  · have e : a ≠ p := by rintro rfl; exact h3.1 hp
    exact ⟨h1, by rw [mset_ne e]; exact h2, h4⟩
/-- a list that changes -/
theorem wrote_ok {H H1 : Hp} {p : Addr} {vs : List V} {ds es : List PyData} (w : WOk K H M H1) (hm : M p = some ds) (hd : DqAll K H vs es) : WOk K H (mset M p es) (upd H1 p (.lst vs)) ∧ Step H H1 M H (upd H1 p (.lst vs)) (mset M p es) := by
  obtain ⟨hpH, us0, hp0, _⟩ := w.cell p ds hm
  have hpo := w.lo hm
  refine ⟨⟨fun a u h => ?_, fun a fs h => ?_, fun a ob h => ?_⟩, ⟨Ex.refl _, fun a u h hn _ => ?_, fun a h1 h2 h4 h3 => ?_⟩⟩
  · rw [upd_ne (ne_of_none h hpH)]; exact w.ex a u h
  · by_cases e : a = p
    · subst e; rw [mset_same] at h; cases h
      exact ⟨hpH, vs, upd_same, hd⟩
    · rw [mset_ne e] at h
      obtain ⟨h1, us, h2, h3⟩ := w.cell a fs h
      exact ⟨h1, us, by rw [upd_ne e]; exact h2, h3⟩
  · obtain ⟨h1, vs, h2, h3⟩ := w.obj a ob h
    have e : a ≠ p := by rintro rfl; rw [mset_o, hpo] at h; cases h
    exact ⟨h1, vs, by rw [upd_ne e]; exact h2, h3⟩
  · have e : a ≠ p := by rintro rfl; rw [hm] at hn; cases hn
    rw [upd_ne e]; exact h
  · have e : a ≠ p := by rintro rfl; rw [hm] at h2; cases h2
    exact ⟨h1, by rw [mset_ne e]; exact h2, h4⟩
/-- a new object that may change -/
theorem laid_o {H H1 : Hp} {p : Addr} {ob : Ob} {o : HO} (w : WOk K H M H1) (hp : H1 p = none) (hr : ObRel K H ob o) : M.o p = none ∧ WOk K H (oset M p ob) (upd H1 p o) ∧ Step H H1 M H (upd H1 p o) (oset M p ob) := by
  have hpH := w.freshH hp
  have hpM := w.freshM hp
  have hpO := w.freshO hp
  refine ⟨hpO, ⟨fun a u h => ?_, fun a es h => ?_, fun a ob' h => ?_⟩, ⟨Ex.refl _, fun a u h _ _ => ?_, fun a h1 h2 h4 h3 => ?_⟩⟩
  · rw [upd_ne (ne_of_none h hpH)]; exact w.ex a u h
  · obtain ⟨h1, us, h2, h3⟩ := w.cell a es h
    have e : a ≠ p := by rintro rfl; rw [h2] at hp; cases hp
    exact ⟨h1, us, by rw [upd_ne e]; exact h2, h3⟩
  · by_cases e : a = p
    · subst e; rw [oset_same] at h; cases h
      exact ⟨hpH, o, upd_same, hr⟩
    · rw [oset_ne e] at h
      obtain ⟨h1, vs, h2, h3⟩ := w.obj a ob' h
      exact ⟨h1, vs, by rw [upd_ne e]; exact h2, h3⟩
  · rw [upd_ne (ne_of_none h hp)]; exact h
  · have e : a ≠ p := by rintro rfl; exact h3.1 hp
    exact ⟨h1, h2, by rw [oset_ne e]; exact h4⟩
/-- an object that changes -/
theorem wrote_o {H H1 : Hp} {p : Addr} {ob ob' : Ob} {o : HO} (w : WOk K H M H1) (hm : M.o p = some ob) (hr : ObRel K H ob' o) : WOk K H (oset M p ob') (upd H1 p o) ∧ Step H H1 M H (upd H1 p o) (oset M p ob') := by
  obtain ⟨hpH, o0, hp0, _⟩ := w.obj p ob hm
  have hpl := w.ol hm
  refine ⟨⟨fun a u h => ?_, fun a fs h => ?_, fun a ob2 h => ?_⟩, ⟨Ex.refl _, fun a u h _ hn => ?_, fun a h1 h2 h4 h3 => ?_⟩⟩
  · rw [upd_ne (ne_of_none h hpH)]; exact w.ex a u h
  · obtain ⟨h1, us, h2, h3⟩ := w.cell a fs h
    have e : a ≠ p := by rintro rfl; rw [oset_l, hpl] at h; cases h
    exact ⟨h1, us, by rw [upd_ne e]; exact h2, h3⟩
  · by_cases e : a = p
    · subst e; rw [oset_same] at h; cases h
      exact ⟨hpH, o, upd_same, hr⟩
    · rw [oset_ne e] at h
      obtain ⟨h1, vs, h2, h3⟩ := w.obj a ob2 h
      exact ⟨h1, vs, by rw [upd_ne e]; exact h2, h3⟩
  · have e : a ≠ p := by rintro rfl; rw [hm] at hn; cases hn
    rw [upd_ne e]; exact h
  · have e : a ≠ p := by rintro rfl; rw [hm] at h4; cases h4
    exact ⟨h1, h2, by rw [oset_ne e]; exact h4⟩
end
end Sd
namespace Sd
open PySem L2
section
variable {K : PySem.W.Frag} {δ : DSt} {M : Mem} {P : SV → Mem → Prop} {PB : Bool → Mem → Prop} {PA : List SV → Mem → Prop} {ta tb te : TE} {tt tu : TT}
theorem dR_I0i {f : Int → Int → Int} {i j : Int} (p : P (.d (.int (f i j))) M) : dR K (rI0 fun i j => .int (f i j)) (.d (.int i)) (.d (.int j)) M P := fun v w H H1 hv hw wk Q q => by
  cases hv; cases hw
  exact ⟨i, j, rfl, rfl, q _ _ H M H1 p Step.refl wk (.int _)⟩
theorem dR_Ii {C : Int → Int → Prop} {f : Int → Int → Int} {i j : Int} (hc : C i j) (p : P (.d (.int (f i j))) M) : dR K (rI C fun i j => .int (f i j)) (.d (.int i)) (.d (.int j)) M P := fun v w H H1 hv hw wk Q q => by
  cases hv; cases hw
  exact ⟨i, j, rfl, rfl, hc, q _ _ H M H1 p Step.refl wk (.int _)⟩
theorem dU_neg {f : Int → Int} {i : Int} (p : P (.d (.int (f i))) M) : dU K (rU fun i => .int (f i)) (.d (.int i)) M P := fun v H H1 hv wk Q q => by
  cases hv
  exact ⟨i, rfl, q _ _ H M H1 p Step.refl wk (.int _)⟩
theorem dE_cmp {p : Int → Int → Bool} (h : dE K ta δ M fun x M1 => dE K tb δ M1 fun y M2 => ∃ i j, x = .d (.int i) ∧ y = .d (.int j) ∧ P (.d (.bool (p i j))) M2) : dE K (tCmp p ta tb) δ M P := fun σ H H1 e w Q q =>
  h σ H H1 e w _ fun v x H' M' H2 hb s1 w1 vx => hb σ H' H2 (e.mono s1.pure) w1 _ fun u y H'' M'' H3 hr s2 w2 vy => by
    obtain ⟨i, j, rfl, rfl, pp⟩ := hr
    cases vx; cases vy
    exact ⟨i, j, rfl, rfl, q _ _ H'' M'' H3 pp (s1.trans w w1 s2) w2 (.bl _)⟩
def isNon : SV → Bool
  | .d .none => true
  | _ => false
theorem isNon_ok {H : Hp} {v : V} : ∀ {x : SV}, SVOk K H v x → decide (v = .non) = isNon x
  | .d .none, h => by cases h; rfl
  | .d (.bool _), h => by cases h; rfl
  | .d (.int _), h => by cases h; rfl
  | .d (.str _), h => by cases h; rfl
  | .d (.list _), h => by cases h; rfl
  | .d (.tuple _), h => by cases h; rfl
  | .d (.dict _), h => by cases h
  | .m a, h => by cases h; rfl
  | .l ns, ⟨a, e, _⟩ => by subst e; rfl
  | .t n, h => by cases h; rfl
  | .q ps, ⟨a, vs, e, _⟩ => by subst e; rfl
  | .k q, ⟨a, e, _⟩ => by subst e; rfl
theorem dE_isN (h : dE K ta δ M fun x M1 => P (.d (.bool (isNon x))) M1) : dE K (tIsN ta) δ M P := fun σ H H1 e w Q q =>
  h σ H H1 e w _ fun v x H' M' H2 hb s1 w1 vx => by
    show Q (.bl (decide (v = .non))) H2
    rw [isNon_ok vx]
    exact q _ _ H' M' H2 hb s1 w1 (.bl _)
theorem dE_notN (h : dE K ta δ M fun x M1 => P (.d (.bool (!isNon x))) M1) : dE K (tNotN ta) δ M P := fun σ H H1 e w Q q =>
  h σ H H1 e w _ fun v x H' M' H2 hb s1 w1 vx => by
    show Q (.bl (!decide (v = .non))) H2
    rw [isNon_ok vx]
    exact q _ _ H' M' H2 hb s1 w1 (.bl _)
theorem dT_B (h : dE K te δ M fun x M1 => ∃ b, x = .d (.bool b) ∧ PB b M1) : dT K (tB te) δ M PB := fun σ H H1 e w Q q =>
  h σ H H1 e w _ fun v x H' M' H2 hb s1 w1 vx => by
    obtain ⟨b, rfl, p⟩ := hb
    cases vx
    exact ⟨b, rfl, q b H' M' H2 p s1 w1⟩
theorem dT_test (h : dE K te δ M fun x M1 => ∃ b, x = .d (.bool b) ∧ PB b M1) : dT K (tTest te) δ M PB := fun σ H H1 e w Q q =>
  h σ H H1 e w _ fun v x H' M' H2 hb s1 w1 vx => by
    obtain ⟨b, rfl, p⟩ := hb
    cases vx
    exact ⟨b, rfl, q b H' M' H2 p s1 w1⟩
theorem dT_and (h : dT K tt δ M fun b M1 => if b = true then dT K tu δ M1 PB else PB false M1) : dT K (tAnd tt tu) δ M PB := fun σ H H1 e w Q q =>
  h σ H H1 e w _ fun b H' M' H2 hb s1 w1 => by
    cases b with
    | true => exact hb σ H' H2 (e.mono s1.pure) w1 _ fun c H'' M'' H3 p s2 w2 => q c H'' M'' H3 p (s1.trans w w1 s2) w2
    | false => exact q false H' M' H2 hb s1 w1
theorem dT_or (h : dT K tt δ M fun b M1 => if b = true then PB true M1 else dT K tu δ M1 PB) : dT K (tOr tt tu) δ M PB := fun σ H H1 e w Q q =>
  h σ H H1 e w _ fun b H' M' H2 hb s1 w1 => by
    cases b with
    | false => exact hb σ H' H2 (e.mono s1.pure) w1 _ fun c H'' M'' H3 p s2 w2 => q c H'' M'' H3 p (s1.trans w w1 s2) w2
    | true => exact q true H' M' H2 hb s1 w1
theorem dT_not (h : dT K tt δ M fun b M1 => PB (!b) M1) : dT K (tNot tt) δ M PB := fun σ H H1 e w Q q =>
  h σ H H1 e w _ fun b H' M' H2 hb s1 w1 => q _ H' M' H2 hb s1 w1
theorem dE_if (h : dT K tt δ M fun b M1 => if b = true then dE K ta δ M1 P else dE K tb δ M1 P) : dE K (tIf tt ta tb) δ M P := fun σ H H1 e w Q q =>
  h σ H H1 e w _ fun b H' M' H2 hb s1 w1 => by
    cases b with
    | true => exact hb σ H' H2 (e.mono s1.pure) w1 _ fun v r H'' M'' H3 p s2 w2 vv => q v r H'' M'' H3 p (s1.trans w w1 s2) w2 vv
    | false => exact hb σ H' H2 (e.mono s1.pure) w1 _ fun v r H'' M'' H3 p s2 w2 vv => q v r H'' M'' H3 p (s1.trans w w1 s2) w2 vv
theorem dE_and (h : dE K ta δ M fun x M1 => ∃ b, x = .d (.bool b) ∧ if b = true then dE K tb δ M1 P else P (.d (.bool false)) M1) : dE K (tAndV ta tb) δ M P := fun σ H H1 e w Q q =>
  h σ H H1 e w _ fun v x H' M' H2 hb s1 w1 vx => by
    obtain ⟨b, rfl, p⟩ := hb
    cases vx
    refine ⟨b, rfl, ?_⟩
    cases b with
    | true => exact p σ H' H2 (e.mono s1.pure) w1 _ fun v r H'' M'' H3 p s2 w2 vv => q v r H'' M'' H3 p (s1.trans w w1 s2) w2 vv
    | false => exact q _ _ H' M' H2 p s1 w1 (.bl _)
theorem dE_or (h : dE K ta δ M fun x M1 => ∃ b, x = .d (.bool b) ∧ if b = true then P (.d (.bool true)) M1 else dE K tb δ M1 P) : dE K (tOrV ta tb) δ M P := fun σ H H1 e w Q q =>
  h σ H H1 e w _ fun v x H' M' H2 hb s1 w1 vx => by
    obtain ⟨b, rfl, p⟩ := hb
    cases vx
    refine ⟨b, rfl, ?_⟩
    cases b with
    | false => exact p σ H' H2 (e.mono s1.pure) w1 _ fun v r H'' M'' H3 p s2 w2 vv => q v r H'' M'' H3 p (s1.trans w w1 s2) w2 vv
    | true => exact q _ _ H' M' H2 p s1 w1 (.bl _)
theorem dE_not (h : dE K ta δ M fun x M1 => ∃ b, x = .d (.bool b) ∧ P (.d (.bool (!b))) M1) : dE K (tNotV ta) δ M P := fun σ H H1 e w Q q =>
  h σ H H1 e w _ fun v x H' M' H2 hb s1 w1 vx => by
    obtain ⟨b, rfl, p⟩ := hb
    cases vx
    exact ⟨b, rfl, q _ _ H' M' H2 p s1 w1 (.bl _)⟩
theorem ifT {a : Bool} {X Y : Prop} (h : a = true) (x : X) : if a = true then X else Y := by rw [if_pos h]; exact x
theorem ifF {a : Bool} {X Y : Prop} (h : a = false) (y : Y) : if a = true then X else Y := by rw [if_neg (by rw [h]; decide)]; exact y
theorem ifB {a : Bool} {X Y : Prop} (x : a = true → X) (y : a = false → Y) : if a = true then X else Y := by
  cases a with
  | true => exact x rfl
  | false => exact y rfl
/-- a list or tuple with these items -/
def Seq (M : Mem) (r : SV) (ds : List PyData) : Prop := r = .d (.list ds) ∨ r = .d (.tuple ds) ∨ ∃ a, r = .m a ∧ M a = some ds
theorem Seq.sq {H H1 : Hp} {v : V} {r : SV} {ds : List PyData} (s : Seq M r ds) (w : WOk K H M H1) (h : SVOk K H v r) : ∃ a vs, v = .ref a ∧ (H1 a = some (.lst vs) ∨ SqT K H1 a vs) ∧ DqAll K H vs ds := by
  rcases s with rfl | rfl | ⟨a, rfl, hm⟩
  · cases h with
    | lst h1 h2 => exact ⟨_, _, rfl, .inl (w.ex _ _ h1), h2⟩
  · cases h with
    | tup h1 h2 => exact ⟨_, _, rfl, .inr (sqTx w.ex h1), h2⟩
  · obtain ⟨_, vs, h1, h2⟩ := w.cell a ds hm
    exact ⟨a, vs, h, .inl h1, h2⟩
def SeqL (M : Mem) (r : SV) (ds : List PyData) : Prop := r = .d (.list ds) ∨ ∃ a, r = .m a ∧ M a = some ds
theorem SeqL.sq {H H1 : Hp} {v : V} {r : SV} {ds : List PyData} (s : SeqL M r ds) (w : WOk K H M H1) (h : SVOk K H v r) : ∃ a vs, v = .ref a ∧ H1 a = some (.lst vs) ∧ DqAll K H vs ds := by
  rcases s with rfl | ⟨a, rfl, hm⟩
  · cases h with
    | lst h1 h2 => exact ⟨_, _, rfl, w.ex _ _ h1, h2⟩
  · obtain ⟨_, vs, h1, h2⟩ := w.cell a ds hm
    exact ⟨a, vs, h, h1, h2⟩
theorem Seq.of_m {a : Addr} {ds : List PyData} (h : M a = some ds) : Seq M (.m a) ds := .inr (.inr ⟨a, rfl, h⟩)
theorem SeqL.of_m {a : Addr} {ds : List PyData} (h : M a = some ds) : SeqL M (.m a) ds := .inr ⟨a, rfl, h⟩
theorem atI_of {H : Hp} {vs : List V} {ds : List PyData} {i : Int} {d : PyData} (h : DqAll K H vs ds) (e : atI ds i = some d) : ∃ v, atI vs i = some v ∧ Dq K H v d := by
  unfold atI at e ⊢
  rw [h.length]
  cases q : ixN ds.length i with
  | none => rw [q] at e; cases e
  | some j =>
    rw [q] at e
    exact h.getR e
theorem dR_ixT {ds : List PyData} {i : Int} {d : PyData} (e : atI ds i = some d) (p : P (.d d) M) : dR K (rIxT K) (.d (.tuple ds)) (.d (.int i)) M P := fun v w H H1 hv hw wk Q q => by
  cases hw
  cases hv with
  | tup h1 h2 =>
    obtain ⟨u, e1, e2⟩ := atI_of h2 e
    exact ⟨_, _, i, u, rfl, rfl, sqTx wk.ex h1, e1, q _ _ H M H1 p Step.refl wk e2⟩
theorem dR_ixL {r : SV} {ds : List PyData} {i : Int} {d : PyData} (s : SeqL M r ds) (e : atI ds i = some d) (p : P (.d d) M) : dR K (rIxL K) r (.d (.int i)) M P := fun v w H H1 hv hw wk Q q => by
  cases hw
  obtain ⟨a, vs, rfl, h1, h2⟩ := s.sq wk hv
  obtain ⟨u, e1, e2⟩ := atI_of h2 e
  exact ⟨_, _, i, u, rfl, rfl, SqL.of h1, e1, q _ _ H M H1 p Step.refl wk e2⟩
theorem dR_ixS {ns : List Int} {i : Int} {n : Int} (e : atI ns i = some n) (p : P (.d (.int n)) M) : dR K (rIxL K) (.l ns) (.d (.int i)) M P := fun v w H H1 hv hw wk Q q => by
  cases hw
  obtain ⟨a, rfl, h1⟩ := hv
  refine ⟨a, _, i, .int n, rfl, rfl, Same.seq wk.ex h1, ?_, q _ _ H M H1 p Step.refl wk (.int _)⟩
  unfold atI at e ⊢
  rw [List.length_map]
  cases q : ixN ns.length i with
  | none => rw [q] at e; cases e
  | some j =>
    rw [q] at e
    show (ns.map V.int)[j]? = _
    have e' : ns[j]? = some n := e
    rw [List.getElem?_map, e']; rfl
def AsD (M : Mem) (r : SV) (d : PyData) : Prop := r = .d d ∨ ∃ a ds, r = .m a ∧ M a = some ds ∧ d = .list ds
theorem AsD.dp {H H1 : Hp} {v : V} {r : SV} {d : PyData} (s : AsD M r d) (w : WOk K H M H1) (h : SVOk K H v r) : Dp K H1 v d := by
  rcases s with rfl | ⟨a, ds, rfl, hm, rfl⟩
  · exact Dq.dp _ _ (Dq.mono w.ex _ _ h)
  · obtain ⟨_, vs, h1, h2⟩ := w.cell a ds hm
    cases h
    exact .lst (SqL.of h1) (DqAll.dp _ _ (DqAll.mono w.ex _ _ h2))
theorem AsD.of {d : PyData} : AsD M (.d d) d := .inl rfl
theorem dR_ne {x y : SV} {d e : PyData} (hx : AsD M x d) (hy : AsD M y e) (s1 : SeqAt.shaped d = true) (s2 : SeqAt.shaped e = true) (p : P (.d (.bool (!PyData.eqv d e))) M) : dR K (rNeD K) x y M P := fun v w H H1 hv hw wk Q q =>
  ⟨d, e, hx.dp wk hv, hy.dp wk hw, s1, s2, q _ _ H M H1 p Step.refl wk (.bl _)⟩
theorem dR_eq {x y : SV} {d e : PyData} (hx : AsD M x d) (hy : AsD M y e) (s1 : SeqAt.shaped d = true) (s2 : SeqAt.shaped e = true) (p : P (.d (.bool (PyData.eqv d e))) M) : dR K (rEqD K) x y M P := fun v w H H1 hv hw wk Q q =>
  ⟨d, e, hx.dp wk hv, hy.dp wk hw, s1, s2, q _ _ H M H1 p Step.refl wk (.bl _)⟩
theorem shaped_eqv {d : PyData} (s : SeqAt.shaped d = true) : PyData.eqv d d = true := SeqAt.eqv_refl d (by
  unfold SeqAt.shaped at s
  rw [Bool.and_eq_true] at s
  exact s.1)
theorem dR_ne_same {x y : SV} {d : PyData} (hx : AsD M x d) (hy : AsD M y d) (s1 : SeqAt.shaped d = true) (p : P (.d (.bool false)) M) : dR K (rNeD K) x y M P := dR_ne hx hy s1 s1 (by rw [shaped_eqv s1]; exact p)
theorem strs_of {H : Hp} : ∀ {vs : List V} {ns : List Str}, DqAll K H vs (ns.map .str) → vs = ns.map V.str
  | _, [], h => by cases h; rfl
  | _, n :: ns, h => by
    cases h with
    | cons h1 h2 =>
      cases h1
      rw [strs_of h2]; rfl
theorem inV_strs (x : Str) : ∀ ns : List Str, inV (.str x) (ns.map V.str) = ns.contains x
  | [] => rfl
  | n :: ns => by
    have ih := inV_strs x ns
    unfold inV at ih ⊢
    rw [List.map_cons, List.any_cons, ih, List.contains_cons]
    show (n == x || _) = _
    rw [BEq.comm]
theorem flat_strs : ∀ ns : List Str, (ns.map V.str).all flatV = true
  | [] => rfl
  | n :: ns => by rw [List.map_cons, List.all_cons, flat_strs ns]; rfl
theorem dR_in {neg : Bool} {x : Str} {y : SV} {ns : List Str} (hy : Seq M y (ns.map .str)) (p : P (.d (.bool (if neg then !ns.contains x else ns.contains x))) M) : dR K (rIn K neg) (.d (.str x)) y M P := fun v w H H1 hv hw wk Q q => by
  cases hv
  obtain ⟨a, vs, rfl, h1, h2⟩ := hy.sq wk hw
  have e := strs_of h2
  subst e
  refine ⟨a, _, rfl, h1.imp SqL.of id, rfl, flat_strs ns, ?_⟩
  rw [inV_strs]
  exact q _ _ H M H1 p Step.refl wk (.bl _)
def cutD (xs : List PyData) (lo hi : Option Int) : List PyData := (xs.drop (HT.sIx xs.length 0 lo)).take (HT.sIx xs.length xs.length hi - HT.sIx xs.length 0 lo)
theorem cut_of {H : Hp} {vs : List V} {ds : List PyData} (h : DqAll K H vs ds) (lo hi : Option Int) : DqAll K H (cutV vs lo hi) (cutD ds lo hi) := by
  unfold cutV cutD
  rw [h.length]
  exact (h.drop _).take _
theorem dO_none {PO : Option Int → Mem → Prop} (p : PO none M) : dO K tNoPart δ M PO := fun σ H H1 e w Q q => q none H M H1 p Step.refl w
theorem dO_some {PO : Option Int → Mem → Prop} (h : dE K te δ M fun x M1 => ∃ i, x = .d (.int i) ∧ PO (some i) M1) : dO K (tPart te) δ M PO := fun σ H H1 e w Q q =>
  h σ H H1 e w _ fun v x H' M' H2 hb s1 w1 vx => by
    obtain ⟨i, rfl, p⟩ := hb
    cases vx
    exact ⟨i, rfl, q _ H' M' H2 p s1 w1⟩
theorem dE_sl {r : V → Option Int → Option Int → Hp → VK → Prop} {tl th : TO} (h : dE K te δ M fun x M1 => dO K tl δ M1 fun lo M2 => dO K th δ M2 fun hi M3 => dU K (fun v => r v lo hi) x M3 P) : dE K (tSl r te tl th) δ M P := fun σ H H1 e w Q q =>
  h σ H H1 e w _ fun v x H' M' H2 hb s1 w1 vx => hb σ H' H2 (e.mono s1.pure) w1 _ fun lo Ha Ma H3 hc s2 w2 => hc σ Ha H3 ((e.mono s1.pure).mono s2.pure) w2 _ fun hi Hb Mb H4 hd s3 w3 =>
    hd v Hb H4 ((vx.mono s2.pure).mono s3.pure) w3 Q fun z r Hz Mz H5 p s4 w4 vz => q z r Hz Mz H5 p (((s1.trans w w1 s2).trans w w2 s3).trans w w3 s4) w4 vz
/-- a slice of a list: a new list, told as data -/
theorem dU_slL {lo hi : Option Int} {x : SV} {ds : List PyData} (s : SeqL M x ds) (p : P (.d (.list (cutD ds lo hi))) M) : dU K (fun v => rSlL K v lo hi) x M P := fun v H H1 hv wk Q q => by
  obtain ⟨a, vs, rfl, h1, h2⟩ := s.sq wk hv
  refine ⟨a, vs, rfl, SqL.of h1, fun l hl => ?_⟩
  obtain ⟨w2, s2⟩ := laid_ok (o := .lst (cutV vs lo hi)) wk hl
  exact q _ _ _ M _ p s2 w2 (.lst upd_same (DqAll.mono s2.pure _ _ (cut_of h2 lo hi)))
theorem dU_slT {lo hi : Option Int} {ds : List PyData} (hn : ¬ (HT.sIx ds.length 0 lo = 0 ∧ HT.sIx ds.length ds.length hi = ds.length)) (p : P (.d (.tuple (cutD ds lo hi))) M) : dU K (fun v => rSlT K v lo hi) (.d (.tuple ds)) M P := fun v H H1 hv wk Q q => by
  cases hv with
  | tup h1 h2 =>
    refine ⟨_, _, rfl, sqTx wk.ex h1, by rw [h2.length]; exact hn, fun l hl => ?_⟩
    obtain ⟨w2, s2⟩ := laid_ok (o := .tup (cutV _ lo hi)) wk hl
    exact q _ _ _ M _ p s2 w2 (.tup (SqT.of upd_same) (DqAll.mono s2.pure _ _ (cut_of h2 lo hi)))
theorem dR_catT {ds es : List PyData} (h0 : ds ≠ []) (h1 : es ≠ []) (hz : ds.length + es.length ≤ 100000) (p : P (.d (.tuple (ds ++ es))) M) : dR K (rCatT K) (.d (.tuple ds)) (.d (.tuple es)) M P := fun v w H H1 hv hw wk Q q => by
  cases hv with
  | tup a1 a2 =>
    cases hw with
    | tup b1 b2 =>
      have l1 := a2.length
      have l2 := b2.length
      refine ⟨_, _, _, _, rfl, rfl, sqTx wk.ex a1, sqTx wk.ex b1, fun z => h0 (by rw [z] at l1; exact List.length_eq_zero_iff.mp l1.symm), by rw [l1, l2]; exact Nat.le_trans hz (by decide), fun z => absurd (by rw [z] at l2; exact List.length_eq_zero_iff.mp l2.symm) h1, fun _ l hl => ?_⟩
      obtain ⟨w2, s2⟩ := laid_ok (o := .tup (_ ++ _)) wk hl
      exact q _ _ _ M _ p s2 w2 (.tup (SqT.of upd_same) (DqAll.mono s2.pure _ _ (a2.append b2)))
theorem dR_cat {x y : SV} {ds es : List PyData} (hx : SeqL M x ds) (hy : SeqL M y es) (hz : ds.length + es.length ≤ 100000) (p : P (.d (.list (ds ++ es))) M) : dR K rCat x y M P := fun v w H H1 hv hw wk Q q => by
  obtain ⟨a, vs, rfl, a1, a2⟩ := hx.sq wk hv
  obtain ⟨b, us, rfl, b1, b2⟩ := hy.sq wk hw
  refine ⟨a, b, vs, us, rfl, rfl, a1, b1, by rw [a2.length, b2.length]; exact Nat.le_trans hz (by decide), fun l hl => ?_⟩
  obtain ⟨w2, s2⟩ := laid_ok (o := .lst (vs ++ us)) wk hl
  exact q _ _ _ M _ p s2 w2 (.lst upd_same (DqAll.mono s2.pure _ _ (a2.append b2)))
def datAll : List SV → Option (List PyData)
  | [] => some []
  | .d x :: r => (datAll r).map (x :: ·)
  | .k q :: r => (datAll r).map (.tuple [.int q.1, .int q.2] :: ·)
  | _ => none
theorem k_dat {K : PySem.W.Frag} {H : Hp} {v : V} {q : Int × Int} (h : SVOk K H v (.k q)) : Dq K H v (.tuple [.int q.1, .int q.2]) := by
  obtain ⟨a, rfl, h⟩ := h
  exact .tup (SqT.of h) (.cons (.int _) (.cons (.int _) .nil))
theorem dat_ok {H : Hp} : ∀ {vs : List V} {rs : List SV} {ds : List PyData}, SVsOk K H vs rs → datAll rs = some ds → DqAll K H vs ds
  | _, _, ds, .nil, e => by cases e; exact .nil
  | _, _, ds, .cons (r := r) (rs := rs) h t, e => by
    cases r with
    | d x =>
      cases q : datAll rs with
      | none => rw [show datAll (.d x :: rs) = (datAll rs).map (x :: ·) from rfl, q] at e; cases e
      | some es =>
        rw [show datAll (.d x :: rs) = (datAll rs).map (x :: ·) from rfl, q] at e
        cases e
        exact .cons h (dat_ok t q)
    | k x =>
      cases q : datAll rs with
      | none => rw [show datAll (.k x :: rs) = (datAll rs).map (.tuple [.int x.1, .int x.2] :: ·) from rfl, q] at e; cases e
      | some es =>
        rw [show datAll (.k x :: rs) = (datAll rs).map (.tuple [.int x.1, .int x.2] :: ·) from rfl, q] at e
        cases e
        exact .cons (k_dat h) (dat_ok t q)
    | m a => cases e
    | l ns => cases e
    | t n => cases e
    | q ps => cases e
theorem dE_tup {ts : TA} (h : dA K ts δ M fun rs M1 => ∃ ds, datAll rs = some ds ∧ ds.length ≤ 1000 ∧ P (.d (.tuple ds)) M1) : dE K (tTup ts) δ M P := fun σ H H1 e w Q q =>
  h σ H H1 e w _ fun vs rs H' M' H2 hb s1 w1 vx => by
    obtain ⟨ds, e1, e2, p⟩ := hb
    have hd := dat_ok vx e1
    refine ⟨by rw [hd.length]; exact Nat.le_trans e2 (by decide), fun l hl => ?_⟩
    obtain ⟨w2, s2⟩ := laid_ok (o := .tup vs) w1 hl
    exact q _ _ _ M' _ p (s1.trans w w1 s2) w2 (.tup (SqT.of upd_same) (DqAll.mono s2.pure _ _ hd))
theorem dE_lst {ts : TA} (h : dA K ts δ M fun rs M1 => ∃ ds, datAll rs = some ds ∧ ds.length ≤ 1000 ∧ P (.d (.list ds)) M1) : dE K (tLst ts) δ M P := fun σ H H1 e w Q q =>
  h σ H H1 e w _ fun vs rs H' M' H2 hb s1 w1 vx => by
    obtain ⟨ds, e1, e2, p⟩ := hb
    have hd := dat_ok vx e1
    refine ⟨by rw [hd.length]; exact Nat.le_trans e2 (by decide), fun l hl => ?_⟩
    obtain ⟨w2, s2⟩ := laid_ok (o := .lst vs) w1 hl
    exact q _ _ _ M' _ p (s1.trans w w1 s2) w2 (.lst upd_same (DqAll.mono s2.pure _ _ hd))
/-- a new list that will change -/
theorem dE_lstM {ts : TA} (h : dA K ts δ M fun rs M1 => ∃ ds, datAll rs = some ds ∧ ds.length ≤ 1000 ∧ ∀ a, M1 a = none → P (.m a) (mset M1 a ds)) : dE K (tLst ts) δ M P := fun σ H H1 e w Q q =>
  h σ H H1 e w _ fun vs rs H' M' H2 hb s1 w1 vx => by
    obtain ⟨ds, e1, e2, p⟩ := hb
    have hd := dat_ok vx e1
    refine ⟨by rw [hd.length]; exact Nat.le_trans e2 (by decide), fun l hl => ?_⟩
    obtain ⟨hm, w2, s2⟩ := laid_m w1 hl hd
    exact q _ _ _ _ _ (p l hm) (s1.trans w w1 s2) w2 rfl
theorem dC_abs {i : Int} (p : P (.d (.int (if i < 0 then -i else i))) M) : dC K (fun xs H Q => ∃ i, xs = [.int i] ∧ Q (.int (if i < 0 then -i else i)) H) [.d (.int i)] M P := fun vs H H1 hv wk Q q => by
  cases hv with
  | cons h t => cases t; cases h; exact ⟨i, rfl, q _ _ H M H1 p Step.refl wk (.int _)⟩
theorem dC_max2 {i j : Int} (p : P (.d (.int (if j > i then j else i))) M) : dC K (fun xs H Q => ∃ i j, xs = [.int i, .int j] ∧ Q (.int (if j > i then j else i)) H) [.d (.int i), .d (.int j)] M P := fun vs H H1 hv wk Q q => by
  cases hv with
  | cons h t => cases t with
    | cons h' t => cases t; cases h; cases h'; exact ⟨i, j, rfl, q _ _ H M H1 p Step.refl wk (.int _)⟩
theorem dC_min2 {i j : Int} (p : P (.d (.int (if j < i then j else i))) M) : dC K (fun xs H Q => ∃ i j, xs = [.int i, .int j] ∧ Q (.int (if j < i then j else i)) H) [.d (.int i), .d (.int j)] M P := fun vs H H1 hv wk Q q => by
  cases hv with
  | cons h t => cases t with
    | cons h' t => cases t; cases h; cases h'; exact ⟨i, j, rfl, q _ _ H M H1 p Step.refl wk (.int _)⟩
theorem dC_len {x : SV} {ds : List PyData} (s : Seq M x ds) (p : P (.d (.int ds.length)) M) : dC K (fun xs H Q => ∃ p ys, xs = [.ref p] ∧ (SqL K H p ys ∨ SqT K H p ys) ∧ Q (.int ys.length) H) [x] M P := fun vs H H1 hv wk Q q => by
  cases hv with
  | cons h t =>
    cases t
    obtain ⟨a, vs, rfl, h1, h2⟩ := s.sq wk h
    refine ⟨a, vs, rfl, h1.imp SqL.of id, ?_⟩
    rw [h2.length]
    exact q _ _ H M H1 p Step.refl wk (.int _)
theorem dC_lenS {ns : List Int} (p : P (.d (.int ns.length)) M) : dC K (fun xs H Q => ∃ p ys, xs = [.ref p] ∧ (SqL K H p ys ∨ SqT K H p ys) ∧ Q (.int ys.length) H) [.l ns] M P := fun vs H H1 hv wk Q q => by
  cases hv with
  | cons h t =>
    cases t
    obtain ⟨a, rfl, h1⟩ := h
    refine ⟨a, _, rfl, .inl (Same.seq wk.ex h1), ?_⟩
    rw [List.length_map]
    exact q _ _ H M H1 p Step.refl wk (.int _)
theorem dC_sum {x : SV} {ns : List Int} (s : SeqL M x (ns.map .int)) (p : P (.d (.int ns.sum)) M) : dC K (rSum K) [x] M P := fun vs H H1 hv wk Q q => by
  cases hv with
  | cons h t =>
    cases t
    obtain ⟨a, vs, rfl, h1, h2⟩ := s.sq wk h
    rw [h2.ints] at h1
    exact ⟨a, ns, rfl, SqL.of h1, q _ _ H M H1 p Step.refl wk (.int _)⟩
theorem dC_tuple {x : SV} {ds : List PyData} (s : SeqL M x ds) (p : P (.d (.tuple ds)) M) :
    dC K (fun xs H Q => ∃ p ys, xs = [.ref p] ∧ ((SqL K H p ys ∧ ∀ l, H l = none → Q (.ref l) (upd H l (.tup ys))) ∨ (SqT K H p ys ∧ Q (.ref p) H))) [x] M P := fun vs H H1 hv wk Q q => by
  cases hv with
  | cons h t =>
    cases t
    obtain ⟨a, vs, rfl, h1, h2⟩ := s.sq wk h
    refine ⟨a, vs, rfl, .inl ⟨SqL.of h1, fun l hl => ?_⟩⟩
    obtain ⟨w2, s2⟩ := laid_ok (o := .tup vs) wk hl
    exact q _ _ _ M _ p s2 w2 (.tup (SqT.of upd_same) (DqAll.mono s2.pure _ _ h2))
theorem dC_list {x : SV} {ds : List PyData} (s : Seq M x ds) (p : P (.d (.list ds)) M) :
    dC K (fun xs H Q => ∃ p ys, xs = [.ref p] ∧ (SqL K H p ys ∨ SqT K H p ys) ∧ ∀ l, H l = none → Q (.ref l) (upd H l (.lst ys))) [x] M P := fun vs H H1 hv wk Q q => by
  cases hv with
  | cons h t =>
    cases t
    obtain ⟨a, vs, rfl, h1, h2⟩ := s.sq wk h
    refine ⟨a, vs, rfl, h1.imp SqL.of id, fun l hl => ?_⟩
    obtain ⟨w2, s2⟩ := laid_ok (o := .lst vs) wk hl
    exact q _ _ _ M _ p s2 w2 (.lst upd_same (DqAll.mono s2.pure _ _ h2))
theorem dC_listM {x : SV} {ds : List PyData} (s : Seq M x ds) (p : ∀ a, M a = none → P (.m a) (mset M a ds)) :
    dC K (fun xs H Q => ∃ p ys, xs = [.ref p] ∧ (SqL K H p ys ∨ SqT K H p ys) ∧ ∀ l, H l = none → Q (.ref l) (upd H l (.lst ys))) [x] M P := fun vs H H1 hv wk Q q => by
  cases hv with
  | cons h t =>
    cases t
    obtain ⟨a, vs, rfl, h1, h2⟩ := s.sq wk h
    refine ⟨a, vs, rfl, h1.imp SqL.of id, fun l hl => ?_⟩
    obtain ⟨hm, w2, s2⟩ := laid_m wk hl h2
    exact q _ _ _ _ _ (p l hm) s2 w2 rfl
end
end Sd
namespace Sd
open PySem L2
/-- a promise over data: what is asked of the arguments, and what is wanted behind -/
abbrev SpD := List SV → Mem → (SV → Mem → Prop) → Prop
def spOf (K : PySem.W.Frag) (S : SpD) : Sp := fun vs H1 Q _ => ∃ (rs : List SV) (H : Hp) (M : Mem) (P : SV → Mem → Prop), WOk K H M H1 ∧ SVsOk K H vs rs ∧ S rs M P ∧
  ∀ v r H' M' H2, P r M' → Step H H1 M H' H2 M' → WOk K H' M' H2 → SVOk K H' v r → Q v H2
structure DEnds where
  nx : DSt → Mem → Prop
  rt : SV → Mem → Prop
  bk : DSt → Mem → Prop := fun _ _ => False
  ct : DSt → Mem → Prop := fun _ _ => False
  xs : Value → Option Addr → DSt → Mem → Prop := fun _ _ _ _ => False
  wx : WX := fun _ _ _ _ => False
section
variable (K : PySem.W.Frag)
structure DEnds.Ok (D : DEnds) (D' : Ends) (H H1 : Hp) (M : Mem) : Prop where
  nx : ∀ δ' M' σ' H' H2, D.nx δ' M' → Step H H1 M H' H2 M' → EnvOk K H' σ' δ' → WOk K H' M' H2 → D'.nx σ' H2
  rt : ∀ r v H' M' H2, D.rt r M' → Step H H1 M H' H2 M' → WOk K H' M' H2 → SVOk K H' v r → D'.rt v H2
  bk : ∀ δ' M' σ' H' H2, D.bk δ' M' → Step H H1 M H' H2 M' → EnvOk K H' σ' δ' → WOk K H' M' H2 → D'.bk σ' H2
  ct : ∀ δ' M' σ' H' H2, D.ct δ' M' → Step H H1 M H' H2 M' → EnvOk K H' σ' δ' → WOk K H' M' H2 → D'.ct σ' H2
  xs : ∀ cls d δ' M' σ' H' H2, D.xs cls d δ' M' → Step H H1 M H' H2 M' → EnvOk K H' σ' δ' → WOk K H' M' H2 → D.wx cls d σ' H2
def dS (t : TS) (D : DEnds) (δ : DSt) (M : Mem) : Prop := ∀ (D' : Ends) (σ : St) (H H1 : Hp), EnvOk K H σ δ → WOk K H M H1 → DEnds.Ok K D D' H H1 M → t D' σ H1
def dG (g : TG) (x : SV) (δ : DSt) (M : Mem) (P : DSt → Mem → Prop) : Prop := ∀ (v : V) (σ : St) (H H1 : Hp), EnvOk K H σ δ → WOk K H M H1 → SVOk K H v x → ∀ Q : St → Hp → Prop,
  (∀ δ' M' σ' H' H2, P δ' M' → Step H H1 M H' H2 M' → EnvOk K H' σ' δ' → WOk K H' M' H2 → Q σ' H2) → g v σ H1 Q
def dGs (g : TGs) (xs : List SV) (δ : DSt) (M : Mem) (P : DSt → Mem → Prop) : Prop := ∀ (vs : List V) (σ : St) (H H1 : Hp), EnvOk K H σ δ → WOk K H M H1 → SVsOk K H vs xs → ∀ Q : St → Hp → Prop,
  (∀ δ' M' σ' H' H2, P δ' M' → Step H H1 M H' H2 M' → EnvOk K H' σ' δ' → WOk K H' M' H2 → Q σ' H2) → g vs σ H1 Q
end
section
variable {K : PySem.W.Frag} {δ : DSt} {M : Mem} {P : SV → Mem → Prop} {PB : Bool → Mem → Prop} {PD : DSt → Mem → Prop} {ta tb te : TE} {tt : TT} {t u : TS} {D : DEnds}
theorem DEnds.Ok.after {D' : Ends} {H H1 H' H2 : Hp} {M' : Mem} (o : DEnds.Ok K D D' H H1 M) (w : WOk K H M H1) (w' : WOk K H' M' H2) (s : Step H H1 M H' H2 M') : DEnds.Ok K D D' H' H2 M' :=
  ⟨fun δ' M2 σ' H3 H4 p s2 e2 w2 => o.nx δ' M2 σ' H3 H4 p (s.trans w w' s2) e2 w2, fun r v H3 M2 H4 p s2 w2 vv => o.rt r v H3 M2 H4 p (s.trans w w' s2) w2 vv,
   fun δ' M2 σ' H3 H4 p s2 e2 w2 => o.bk δ' M2 σ' H3 H4 p (s.trans w w' s2) e2 w2, fun δ' M2 σ' H3 H4 p s2 e2 w2 => o.ct δ' M2 σ' H3 H4 p (s.trans w w' s2) e2 w2, fun cls d δ' M2 σ' H3 H4 p s2 e2 w2 => o.xs cls d δ' M2 σ' H3 H4 p (s.trans w w' s2) e2 w2⟩
theorem dE_call {S : SpD} {E : XK} {ts : TA} (h : dA K ts δ M fun rs M1 => S rs M1 P) : dE K (tCall (spOf K S) [] E ts) δ M P := fun σ H H1 e w Q q =>
  h σ H H1 e w _ fun vs rs H' M' H2 hb s1 w1 vx => ⟨rs, H', M', P, w1, by rw [List.append_nil]; exact vx, hb, fun v r H3' M3 H4 p s3 w3 vz => q v r H3' M3 H4 p (s1.trans w w1 s3) w3 vz⟩
theorem dS_seq (h : dS K t { D with nx := fun δ' M' => dS K u D δ' M' } δ M) : dS K (tSeq t u) D δ M := fun D' σ H H1 e w o =>
  h { D' with nx := u D' } σ H H1 e w ⟨fun δ' M' σ' H' H2 p s e' w' => p D' σ' H' H2 e' w' (o.after w w' s), o.rt, o.bk, o.ct, o.xs⟩
theorem dS_next (h : D.nx δ M) : dS K tNext D δ M := fun D' σ H H1 e w o => o.nx δ M σ H H1 h Step.refl e w
theorem dS_ret (h : dE K te δ M D.rt) : dS K (tRet te) D δ M := fun D' σ H H1 e w o => h σ H H1 e w _ fun v r H' M' H2 p s w' vv => o.rt r v H' M' H2 p s w' vv
theorem dS_drop (h : dE K te δ M fun _ M' => D.nx δ M') : dS K (tDrop te) D δ M := fun D' σ H H1 e w o => h σ H H1 e w _ fun v r H' M' H2 p s w' vv => o.nx δ M' σ H' H2 p s (e.mono s.pure) w'
theorem dS_if (h : dT K tt δ M fun b M' => if b = true then dS K t D δ M' else dS K u D δ M') : dS K (tIfS tt t u) D δ M := fun D' σ H H1 e w o =>
  h σ H H1 e w _ fun b H' M' H2 p s w' => by
    cases b with
    | true => exact p D' σ H' H2 (e.mono s.pure) w' (o.after w w' s)
    | false => exact p D' σ H' H2 (e.mono s.pure) w' (o.after w w' s)
theorem dS_asg {g : TG} (h : dE K te δ M fun r M' => dG K g r δ M' D.nx) : dS K (tAsg te g) D δ M := fun D' σ H H1 e w o =>
  h σ H H1 e w _ fun v r H' M' H2 p s w' vv => p v σ H' H2 (e.mono s.pure) w' vv _ fun δ' M2 σ' H3 H4 p2 s2 e2 w2 => o.nx δ' M2 σ' H3 H4 p2 (s.trans w w' s2) e2 w2
theorem dG_name {i : Nat} {r : SV} (h : PD (δ.set i (some r)) M) : dG K (gName i) r δ M PD := fun v σ H H1 e w hv Q q => q _ M _ H H1 h Step.refl (e.set i hv) w
theorem dGs_nil (h : PD δ M) : dGs K gNil [] δ M PD := fun vs σ H H1 e w hv Q q => by
  cases hv
  exact ⟨rfl, q δ M σ H H1 h Step.refl e w⟩
theorem dGs_cons {g : TG} {gs : TGs} {x : SV} {xs : List SV} (h : dG K g x δ M fun δ' M' => dGs K gs xs δ' M' PD) : dGs K (gCons g gs) (x :: xs) δ M PD := fun vs σ H H1 e w hv Q q => by
  cases hv with
  | cons h1 h2 => exact ⟨_, _, rfl, h _ σ H H1 e w h1 _ fun δ' M' σ' H' H2 p s e' w' => p _ σ' H' H2 e' w' (h2.mono s.pure) Q fun δ2 M2 σ2 H3 H4 p2 s2 e2 w2 => q δ2 M2 σ2 H3 H4 p2 (s.trans w w' s2) e2 w2⟩
theorem SVsOk.ofDq {H : Hp} : ∀ {vs : List V} {ds : List PyData}, DqAll K H vs ds → SVsOk K H vs (ds.map SV.d)
  | _, [], h => by cases h; exact .nil
  | _, d :: ds, h => by
    cases h with
    | cons h1 h2 => exact .cons h1 (SVsOk.ofDq h2)
theorem dG_tup {n : Nat} {gs : TGs} {ds : List PyData} (hn : ds.length = n) (h : dGs K gs (ds.map SV.d) δ M PD) : dG K (gTup K n gs) (.d (.tuple ds)) δ M PD := fun v σ H H1 e w hv Q q => by
  cases hv with
  | tup h1 h2 => exact ⟨_, _, rfl, sqTx w.ex h1, by rw [h2.length]; exact hn, h _ σ H H1 e w (SVsOk.ofDq h2) Q q⟩
/-- a[i] = e -/
theorem dG_sub {a : Addr} {j : Nat} {ds : List PyData} {d : PyData} (h : dE K ta δ M fun r M1 => r = .m a ∧ dE K tb δ M1 fun s M2 => s = .d (.int (j : Int)) ∧ M2 a = some ds ∧ j < ds.length ∧ PD δ (mset M2 a (ds.set j d))) : dG K (gSub ta tb rSetL) (.d d) δ M PD := fun v σ H H1 e w hv Q q =>
  h σ H H1 e w _ fun va ra H' M' H2 ⟨ea, hb⟩ s w' vva => hb σ H' H2 (e.mono s.pure) w' _ fun vb rb H'' M'' H3 ⟨eb, hm, hj, pp⟩ s2 w2 vvb => by
    subst ea; subst eb
    cases vva; cases vvb
    obtain ⟨_, vs, h1, h2⟩ := w2.cell a ds hm
    have hv' : Dq K H'' v d := Dq.mono s2.pure _ _ (Dq.mono s.pure _ _ hv)
    obtain ⟨w3, s3⟩ := wrote_ok w2 hm (DqAll.set hv' j h2)
    refine ⟨a, vs, (j : Int), j, rfl, rfl, h1, ?_, q δ _ σ _ _ pp ((s.trans w w' s2).trans w w2 s3) (((e.mono s.pure).mono s2.pure).mono s3.pure) w3⟩
    unfold ixN
    rw [if_pos (by omega), if_pos (by rw [h2.length]; omega)]
    simp
/-- a, b = e1, e2 -/
theorem dS_par {i j : Nat} {ts : TA} (h : dA K ts δ M fun rs M' => ∃ r s, rs = [r, s] ∧ D.nx ((δ.set i (some r)).set j (some s)) M') : dS K (tPar i j ts) D δ M := fun D' σ H H1 e w o =>
  h σ H H1 e w _ fun vs rs H' M' H2 p s w' vv => by
    obtain ⟨r, s', rfl, p⟩ := p
    cases vv with
    | cons h1 h2 => cases h2 with
      | cons h2 h3 => cases h3; exact ⟨_, _, rfl, o.nx _ M' _ H' H2 p s (((e.mono s.pure).set i h1).set j h2) w'⟩
theorem dS_aug {i : Nat} {f : Int → Int → Int} {a : Int} (hx : δ[i]? = some (some (.d (.int a)))) (h : dE K te δ M fun r M' => ∃ b, r = .d (.int b) ∧ D.nx (δ.set i (some (.d (.int (f a b))))) M') : dS K (tAug i te (ipI f)) D δ M := fun D' σ H H1 e w o => by
  obtain ⟨v, h1, h2⟩ := e.at' i _ hx
  cases h2
  refine ⟨_, h1, h σ H H1 e w _ fun v r H' M' H2 p s w' vv => ?_⟩
  obtain ⟨b, rfl, p⟩ := p
  cases vv
  exact ⟨a, b, rfl, rfl, o.nx _ M' _ H' H2 p s ((e.mono s.pure).set i (r := .d (.int (f a b))) (.int _)) w'⟩
/-- xs.append(e) -/
theorem dE_app (h : dE K ta δ M fun r M1 => ∃ a, r = .m a ∧ (∃ ds, M1 a = some ds) ∧ dE K te δ M1 fun s M2 => ∃ d ds, s = .d d ∧ M2 a = some ds ∧ ds.length < 100000 ∧ P (.d .none) (mset M2 a (ds ++ [d]))) :
    dE K (tBM K "list" rAppend ta (tCons te tNil)) δ M P := fun σ H H1 e w Q q =>
  h σ H H1 e w _ fun va ra H' M' H2 ⟨a, ea, ⟨ds0, hm0⟩, hb⟩ s w' vva => by
    subst ea
    cases vva
    obtain ⟨_, vs0, g1, _⟩ := w'.cell a ds0 hm0
    refine ⟨Or.inl ⟨rfl, vs0, SqL.of g1⟩, hb σ H' H2 (e.mono s.pure) w' _ fun vb rb H'' M'' H3 hp s2 w2 vvb => ?_⟩
    obtain ⟨d, ds, eb, hm, hl, pp⟩ := hp
    subst eb
    obtain ⟨_, vs, h1, h2⟩ := w2.cell a ds hm
    obtain ⟨w3, s3⟩ := wrote_ok (vs := vs ++ [vb]) w2 hm (h2.append (.cons vvb .nil))
    exact ⟨a, vs, vb, rfl, rfl, h1, by rw [h2.length]; exact Nat.lt_of_lt_of_le hl (by decide), q _ _ _ _ _ pp ((s.trans w w' s2).trans w w2 s3) w3 .non⟩
/-- the heap's side of a loop's word -/
def LoopW (K : PySem.W.Frag) (H H1 : Hp) (M : Mem) (Inv : DSt → Mem → Prop) (σ : St) (H2 : Hp) : Prop := ∃ δ' M' H', Inv δ' M' ∧ Step H H1 M H' H2 M' ∧ EnvOk K H' σ δ' ∧ WOk K H' M' H2
theorem body_ok {g : TG} {x : SV} {D' : Ends} {H H1 : Hp} {I I' : DSt → Mem → Prop} {v : V} {σ' : St} {H' H2 : Hp} {δ' : DSt} {M' : Mem} (w : WOk K H M H1) (o : DEnds.Ok K D D' H H1 M)
    (s : Step H H1 M H' H2 M') (e' : EnvOk K H' σ' δ') (w' : WOk K H' M' H2) (vv : SVOk K H' v x)
    (h : dG K g x δ' M' fun δ2 M2 => dS K t { D with nx := I', ct := I', bk := D.nx } δ2 M2) :
    g v σ' H2 fun σ2 H3 => t { D' with nx := LoopW K H H1 M I', ct := LoopW K H H1 M I', bk := D'.nx } σ2 H3 :=
  h v σ' H' H2 e' w' vv _ fun δ2 M2 σ2 Ha Hb hS s2 e2 w2 => hS _ σ2 Ha Hb e2 w2
    ⟨fun δ3 M3 σ3 Hc Hd p s3 e3 w3 => ⟨δ3, M3, Hc, p, (s.trans w w' s2).trans w w2 s3, e3, w3⟩, fun r v Hc M3 Hd p s3 w3 vv => o.rt r v Hc M3 Hd p ((s.trans w w' s2).trans w w2 s3) w3 vv,
     fun δ3 M3 σ3 Hc Hd p s3 e3 w3 => o.nx δ3 M3 σ3 Hc Hd p ((s.trans w w' s2).trans w w2 s3) e3 w3, fun δ3 M3 σ3 Hc Hd p s3 e3 w3 => ⟨δ3, M3, Hc, p, (s.trans w w' s2).trans w w2 s3, e3, w3⟩, fun cls d δ3 M3 σ3 Hc Hd p s3 e3 w3 => o.xs cls d δ3 M3 σ3 Hc Hd p ((s.trans w w' s2).trans w w2 s3) e3 w3⟩
theorem dS_range1 {ts : TA} {g : TG} (h : dA K ts δ M fun rs M1 => ∃ n : Int, rs = [.d (.int n)] ∧ (-100000 ≤ n ∧ n ≤ 100000) ∧ ∃ I : Nat → DSt → Mem → Prop, I 0 δ M1 ∧
      (∀ (i : Nat) δ' M', (i : Int) < n → I i δ' M' → dG K g (.d (.int (i : Int))) δ' M' fun δ2 M2 => dS K t { D with nx := I (i + 1), ct := I (i + 1), bk := D.nx } δ2 M2) ∧ ∀ δ' M', I n.toNat δ' M' → D.nx δ' M') :
    dS K (tFor (iRng1 ts) g t) D δ M := fun D' σ H H1 e w o =>
  h σ H H1 e w _ fun vs rs H' M' H2 hb s w' vv => by
    obtain ⟨n, rfl, hn, I, i0, it, ie⟩ := hb
    cases vv with
    | cons h1 h2 =>
      cases h2; cases h1
      refine ⟨n, rfl, by omega, by omega, for_range (lo := 0) (n := n.toNat) (fun i => LoopW K H H1 M (I i)) ⟨δ, M', H', i0, s, e.mono s.pure, w'⟩ (fun i σ' H3 hi p => ?_) fun σ' H3 p => ?_⟩
      · obtain ⟨δ', M2, Ha, p, s2, e2, w2⟩ := p
        rw [show (0 : Int) + (i : Int) = (i : Int) from Int.zero_add _]
        exact body_ok (I := I i) w o s2 e2 w2 (x := .d (.int (i : Int))) (.int _) (it i δ' M2 (by omega) p)
      · obtain ⟨δ', M2, Ha, p, s2, e2, w2⟩ := p
        exact o.nx δ' M2 σ' Ha H3 (ie _ _ p) s2 e2 w2
end
end Sd
namespace Sd
open PySem L2
section
variable {K : PySem.W.Frag} {δ : DSt} {M : Mem} {P : SV → Mem → Prop} {PB : Bool → Mem → Prop} {PD : DSt → Mem → Prop} {ta tb te : TE} {tt : TT} {t u : TS} {D : DEnds} {g : TG}
theorem dS_range2 {ts : TA} (h : dA K ts δ M fun rs M1 => ∃ lo n : Int, rs = [.d (.int lo), .d (.int n)] ∧ (-100000 ≤ lo ∧ lo ≤ 100000 ∧ -100000 ≤ n ∧ n ≤ 100000) ∧ ∃ I : Nat → DSt → Mem → Prop, I 0 δ M1 ∧
      (∀ (i : Nat) δ' M', lo + (i : Int) < n → I i δ' M' → dG K g (.d (.int (lo + (i : Int)))) δ' M' fun δ2 M2 => dS K t { D with nx := I (i + 1), ct := I (i + 1), bk := D.nx } δ2 M2) ∧ ∀ δ' M', I (n - lo).toNat δ' M' → D.nx δ' M') :
    dS K (tFor (iRng2 ts) g t) D δ M := fun D' σ H H1 e w o =>
  h σ H H1 e w _ fun vs rs H' M' H2 hb s w' vv => by
    obtain ⟨lo, n, rfl, hn, I, i0, it, ie⟩ := hb
    cases vv with
    | cons h1 h2 => cases h2 with
      | cons h2 h3 =>
        cases h3; cases h1; cases h2
        refine ⟨lo, n, rfl, ⟨by omega, by omega, by omega, by omega⟩, for_range (lo := lo) (n := (n - lo).toNat) (fun i => LoopW K H H1 M (I i)) ⟨δ, M', H', i0, s, e.mono s.pure, w'⟩ (fun i σ' H3 hi p => ?_) fun σ' H3 p => ?_⟩
        · obtain ⟨δ', M2, Ha, p, s2, e2, w2⟩ := p
          exact body_ok (I := I i) w o s2 e2 w2 (x := .d (.int (lo + (i : Int)))) (.int _) (it i δ' M2 (by omega) p)
        · obtain ⟨δ', M2, Ha, p, s2, e2, w2⟩ := p
          exact o.nx δ' M2 σ' Ha H3 (ie _ _ p) s2 e2 w2
theorem dS_forL {tl : TE} (h : dE K tl δ M fun r M1 => ∃ ds, r = .d (.list ds) ∧ ∃ I : Nat → DSt → Mem → Prop, I 0 δ M1 ∧
      (∀ (i : Nat) x δ' M', ds[i]? = some x → I i δ' M' → dG K g (.d x) δ' M' fun δ2 M2 => dS K t { D with nx := I (i + 1), ct := I (i + 1), bk := D.nx } δ2 M2) ∧ ∀ δ' M', I ds.length δ' M' → D.nx δ' M') :
    dS K (tFor (iList K tl) g t) D δ M := fun D' σ H H1 e w o =>
  h σ H H1 e w _ fun v r H' M' H2 hb s w' vv => by
    obtain ⟨ds, rfl, I, i0, it, ie⟩ := hb
    cases vv with
    | lst h1 h2 =>
      rename_i a xs
      refine ⟨a, rfl, ⟨xs, SqL.of (w'.ex _ _ h1)⟩, for_list (xs := xs) (fun i σ' H3 => ∃ δ' M2 Ha, I i δ' M2 ∧ Step H H1 M Ha H3 M2 ∧ EnvOk K Ha σ' δ' ∧ WOk K Ha M2 H3 ∧ Ex H' Ha) ⟨δ, M', H', i0, s, e.mono s.pure, w', Ex.refl _⟩ (fun i σ' H3 _ p => ?_) (fun i x σ' H3 hx p => ?_) fun σ' H3 p => ?_⟩
      · obtain ⟨δ', M2, Ha, p, s2, e2, w2, ex⟩ := p
        exact SqL.of (w2.ex _ _ (ex _ _ h1))
      · obtain ⟨δ', M2, Ha, p, s2, e2, w2, ex⟩ := p
        obtain ⟨d, hd, vd⟩ := h2.get hx
        refine (it i d δ' M2 hd p) x σ' Ha H3 e2 w2 (Dq.mono ex _ _ vd) _ fun δ2 M3 σ2 Hb Hc hS s3 e3 w3 => hS _ σ2 Hb Hc e3 w3
          ⟨fun δ3 M4 σ3 Hd He p s4 e4 w4 => ⟨δ3, M4, Hd, p, (s2.trans w w2 s3).trans w w3 s4, e4, w4, (ex.trans s3.pure).trans s4.pure⟩, fun r v Hd M4 He p s4 w4 vv => o.rt r v Hd M4 He p ((s2.trans w w2 s3).trans w w3 s4) w4 vv,
           fun δ3 M4 σ3 Hd He p s4 e4 w4 => o.nx δ3 M4 σ3 Hd He p ((s2.trans w w2 s3).trans w w3 s4) e4 w4, fun δ3 M4 σ3 Hd He p s4 e4 w4 => ⟨δ3, M4, Hd, p, (s2.trans w w2 s3).trans w w3 s4, e4, w4, (ex.trans s3.pure).trans s4.pure⟩, fun cls d δ3 M4 σ3 Hd He p s4 e4 w4 => o.xs cls d δ3 M4 σ3 Hd He p ((s2.trans w w2 s3).trans w w3 s4) e4 w4⟩
      · obtain ⟨δ', M2, Ha, p, s2, e2, w2, ex⟩ := p
        rw [h2.length] at p
        exact o.nx δ' M2 σ' Ha H3 (ie _ _ p) s2 e2 w2
/-- over a list that may change, but does not while it is walked -/
def mdel (M : Mem) (a : Addr) : Mem := ⟨fun b => if b = a then none else M b, M.o⟩
theorem mdel_same {a : Addr} : mdel M a a = none := if_pos rfl
theorem mdel_ne {a b : Addr} (h : b ≠ a) : mdel M a b = M b := if_neg h
@[simp] theorem mdel_o {a : Addr} : (mdel M a).o = M.o := rfl
/-- while, by a word that falls -/
theorem dS_while (W : Nat → DSt → Mem → Prop) (m0 : Nat) (h0 : W m0 δ M)
    (h : ∀ m δ' M', W m δ' M' → dT K tt δ' M' fun b M2 => if b = true then dS K t { D with nx := fun δ3 M3 => ∃ m', m' < m ∧ W m' δ3 M3, ct := fun δ3 M3 => ∃ m', m' < m ∧ W m' δ3 M3, bk := D.nx } δ' M2 else D.nx δ' M2) :
    dS K (tWhile tt t) D δ M := fun D' σ H H1 e w o => by
  refine ⟨fun m σ' H2 => LoopW K H H1 M (W m) σ' H2, ⟨m0, δ, M, H, h0, Step.refl, e, w⟩, fun m σ' H2 p => ?_⟩
  obtain ⟨δ', M', H', p, s, e', w'⟩ := p
  refine h m δ' M' p σ' H' H2 e' w' _ fun b Ha M2 H3 q s2 w2 => ?_
  cases b with
  | true =>
    refine ⟨fun σ3 H4 => ∃ m', m' < m ∧ LoopW K H H1 M (W m') σ3 H4, fun σ3 H4 ⟨m', a, b⟩ => ⟨m', a, b⟩, q _ σ' Ha H3 (e'.mono s2.pure) w2
      ⟨fun δ3 M3 σ3 Hb H4 p s3 e3 w3 => ?_, fun r v Hb M3 H4 p s3 w3 vv => o.rt r v Hb M3 H4 p ((s.trans w w' s2).trans w w2 s3) w3 vv, fun δ3 M3 σ3 Hb H4 p s3 e3 w3 => o.nx δ3 M3 σ3 Hb H4 p ((s.trans w w' s2).trans w w2 s3) e3 w3, fun δ3 M3 σ3 Hb H4 p s3 e3 w3 => ?_, fun cls d δ3 M3 σ3 Hb H4 p s3 e3 w3 => o.xs cls d δ3 M3 σ3 Hb H4 p ((s.trans w w' s2).trans w w2 s3) e3 w3⟩⟩
    · obtain ⟨m', hm, p⟩ := p
      exact ⟨m', hm, δ3, M3, Hb, p, (s.trans w w' s2).trans w w2 s3, e3, w3⟩
    · obtain ⟨m', hm, p⟩ := p
      exact ⟨m', hm, δ3, M3, Hb, p, (s.trans w w' s2).trans w w2 s3, e3, w3⟩
  | false => exact o.nx δ' M2 σ' Ha H3 q (s.trans w w' s2) (e'.mono s2.pure) w2
theorem dT_tru (h : dE K ta δ M fun x M1 => ∃ ds, Seq M1 x ds ∧ PB (!ds.isEmpty) M1) : dT K (fun σ H Q => ta σ H fun x H' => ∃ k, TruV K x H' k ∧ Q k H') δ M PB := fun σ H H1 e w Q q =>
  h σ H H1 e w _ fun v x H' M' H2 hb s1 w1 vx => by
    obtain ⟨ds, sq, p⟩ := hb
    obtain ⟨a, vs, rfl, h1, h2⟩ := sq.sq w1 vx
    have el : vs.isEmpty = ds.isEmpty := by
      cases h2 <;> rfl
    refine ⟨!vs.isEmpty, ?_, by rw [el]; exact q _ H' M' H2 p s1 w1⟩
    rcases h1 with h1 | h1
    · exact .inl ⟨vs, SqL.of h1, rfl⟩
    · exact .inr (.inl ⟨vs, h1, rfl⟩)
def GW (g : TG) (vs : List Nat) : Prop := ∀ x σ H Q, g x (wipe σ vs) H Q → g x (wipe σ vs) H fun σ2 H2 => wipe σ2 vs = wipe σ vs ∧ Q σ2 H2
theorem gw_name (j : Nat) : GW (gName j) [j] := fun x σ H Q h => ⟨by
  show (((σ.set j none).set j (some x)).set j none) = σ.set j none
  rw [List.set_set, List.set_set], h⟩
def LcW (K : PySem.W.Frag) (H H1 : Hp) (M : Mem) (Dl : Addr) (I : List PyData → Mem → Prop) (n : Nat) (H2 : Hp) : Prop :=
  ∃ acc ds M' H', I ds M' ∧ ds.length ≤ n ∧ Step H H1 M H' H2 M' ∧ WOk K H' M' H2 ∧ H2 Dl = some (.lst acc) ∧ DqAll K H' acc ds ∧ H' Dl = none ∧ M' Dl = none ∧ M'.o Dl = none
theorem lcw_start {H H1 : Hp} {Dl : Addr} {I : List PyData → Mem → Prop} (w : WOk K H M H1) (hD : H1 Dl = none) (i0 : I [] M) : LcW K H H1 M Dl I 0 (upd H1 Dl (.lst [])) := by
  obtain ⟨hm, w2, s2⟩ := laid_m w hD (ds := []) .nil
  have hH := w.freshH hD
  have hO := w.freshO hD
  refine ⟨[], [], M, H, i0, Nat.le_refl _, ⟨s2.pure, s2.keep, fun a h1 h2 h4 h3 => ⟨h1, h2, h4⟩⟩, ⟨w2.ex, fun a ds h => ?_, w2.obj⟩, upd_same, .nil, hH, hm, hO⟩
  have e : a ≠ Dl := by rintro rfl; rw [hm] at h; cases h
  exact w2.cell a ds (by rw [mset_ne e]; exact h)
theorem lcw_turn {H H1 H2 : Hp} {Dl : Addr} {I I' : List PyData → Mem → Prop} {n : Nat} {vs : List Nat} {x : SV} {v : V} {σ : St} (hg : GW g vs) (hn : n < 50000) (w : WOk K H M H1) (e : EnvOk K H σ δ) (hD : H1 Dl = none) (p : LcW K H H1 M Dl I n H2)
    (vv : ∀ H', Ex H H' → SVOk K H' v x)
    (h : ∀ acc M', I acc M' → dG K g x (wipeD δ vs) M' fun δ2 M2 => dT K tt δ2 M2 fun b M3 => if b = true then dE K te δ2 M3 fun y M4 => ∃ d, y = .d d ∧ I' (acc ++ [d]) M4 else I' acc M3) :
    g v (wipe σ vs) H2 fun σ2 H3 => wipe σ2 vs = wipe σ vs ∧ tt σ2 H3 fun b H4 => if b = true then te σ2 H4 fun y H5 => ∃ acc, H5 Dl = some (.lst acc) ∧ acc.length < sizeLine ∧ LcW K H H1 M Dl I' (n + 1) (upd H5 Dl (.lst (acc ++ [y]))) else LcW K H H1 M Dl I' (n + 1) H4 := by
  obtain ⟨acc, ds, M', H', pi, hl, s, w', hDl, hacc, f1, f2, f3⟩ := p
  refine hg v σ H2 _ ?_
  refine h ds M' pi v _ H' H2 ((e.mono s.pure).wipe vs) w' (vv H' s.pure) _ fun δ2 M2 σ2 Ha H3 ht s2 e2 w2 => ?_
  have k2 := s2.keep Dl _ hDl f2 f3
  have n2 := s2.new Dl f1 f2 f3 (by rw [hDl]; simp)
  refine ht σ2 Ha H3 e2 w2 _ fun b Hb M3 H4 hb s3 w3 => ?_
  have k3 := s3.keep Dl _ k2 n2.2.1 n2.2.2
  have n3 := s3.new Dl n2.1 n2.2.1 n2.2.2 (by rw [k2]; simp)
  cases b with
  | false => exact ⟨acc, ds, M3, Hb, hb, Nat.le_succ_of_le hl, (s.trans w w' s2).trans w w2 s3, w3, k3, hacc.mono (s2.pure.trans s3.pure), n3.1, n3.2.1, n3.2.2⟩
  | true =>
    refine hb σ2 Hb H4 (e2.mono s3.pure) w3 _ fun y r Hc M4 H5 hy s4 w4 vy => ?_
    have k4 := s4.keep Dl _ k3 n3.2.1 n3.2.2
    have n4 := s4.new Dl n3.1 n3.2.1 n3.2.2 (by rw [k3]; simp)
    obtain ⟨d, rfl, hI⟩ := hy
    have ha : DqAll K Hc acc ds := hacc.mono ((s2.pure.trans s3.pure).trans s4.pure)
    have st := ((s.trans w w' s2).trans w w2 s3).trans w w3 s4
    refine ⟨acc, k4, by rw [ha.length]; exact Nat.lt_of_le_of_lt hl (Nat.lt_of_lt_of_le hn (by decide)), acc ++ [y], ds ++ [d], M4, Hc, hI, by rw [List.length_append]; show ds.length + 1 ≤ n + 1; omega, ⟨st.pure, fun a o h1 h2 h3 => ?_, st.new⟩, ⟨fun a o h1 => ?_, fun a es h1 => ?_, fun a ob h1 => ?_⟩, upd_same, ha.append (.cons vy .nil), n4.1, n4.2.1, n4.2.2⟩
    · rw [upd_ne (ne_of_none h1 hD)]; exact st.keep a o h1 h2 h3
    · rw [upd_ne (ne_of_none h1 n4.1)]; exact w4.ex a o h1
    · have e : a ≠ Dl := by rintro rfl; rw [n4.2.1] at h1; cases h1
      obtain ⟨q1, us, q2, q3⟩ := w4.cell a es h1
      exact ⟨q1, us, by rw [upd_ne e]; exact q2, q3⟩
    · have e : a ≠ Dl := by rintro rfl; rw [n4.2.2] at h1; cases h1
      obtain ⟨q1, us, q2, q3⟩ := w4.obj a ob h1
      exact ⟨q1, us, by rw [upd_ne e]; exact q2, q3⟩
/-- what a comprehension's list may be taken for -/
def Res (P : SV → Mem → Prop) (acc : List PyData) (M' : Mem) : Prop := P (.d (.list acc)) M' ∨ ∀ a, M' a = none → P (.m a) (mset M' a acc)
theorem lcw_end {H H1 H2 : Hp} {Dl : Addr} {I : List PyData → Mem → Prop} {n : Nat} {Q : VK} (w : WOk K H M H1) (hD : H1 Dl = none) (p : LcW K H H1 M Dl I n H2) (ie : ∀ acc M', I acc M' → Res P acc M')
    (q : ∀ v r H' M' H2, P r M' → Step H H1 M H' H2 M' → WOk K H' M' H2 → SVOk K H' v r → Q v H2) : Q (.ref Dl) H2 := by
  obtain ⟨acc, ds, M', H', pi, hl, s, w', hDl, hacc, f1, f2, f3⟩ := p
  rcases ie ds M' pi with pp | pp
  · refine q _ _ (upd H' Dl (.lst acc)) M' H2 pp ⟨s.pure.trans (Ex.new f1), s.keep, fun a h1 h2 h4 h3 => ?_⟩ ⟨fun a o h => ?_, fun a es h => ?_, fun a ob h => ?_⟩ (.lst upd_same (hacc.mono (Ex.new f1)))
    · have e : a ≠ Dl := by rintro rfl; exact h3.1 hD
      rw [upd_ne e]; exact s.new a h1 h2 h4 h3
    · by_cases e : a = Dl
      · subst e; rw [upd_same] at h; cases h; exact hDl
      · rw [upd_ne e] at h; exact w'.ex a o h
    · have e : a ≠ Dl := by rintro rfl; rw [f2] at h; cases h
      obtain ⟨q1, us, q2, q3⟩ := w'.cell a es h
      exact ⟨by rw [upd_ne e]; exact q1, us, q2, q3.mono (Ex.new f1)⟩
    · have e : a ≠ Dl := by rintro rfl; rw [f3] at h; cases h
      obtain ⟨q1, us, q2, q3⟩ := w'.obj a ob h
      exact ⟨by rw [upd_ne e]; exact q1, us, q2, q3.mono (Ex.new f1)⟩
  · refine q _ _ H' (mset M' Dl ds) H2 (pp Dl f2) ⟨s.pure, s.keep, fun a h1 h2 h4 h3 => ?_⟩ ⟨w'.ex, fun a es h => ?_, w'.obj⟩ rfl
    · have e : a ≠ Dl := by rintro rfl; exact h3.1 hD
      rw [mset_ne e]; exact s.new a h1 h2 h4 h3
    · by_cases e : a = Dl
      · subst e; rw [mset_same] at h; cases h; exact ⟨f1, acc, hDl, hacc⟩
      · rw [mset_ne e] at h; exact w'.cell a es h
theorem dE_lcL {tl : TE} {vs : List Nat} (hg : GW g vs) (h : dE K tl δ M fun r M1 => ∃ ds, r = .d (.list ds) ∧ ds.length ≤ 40000 ∧ ∃ I : Nat → List PyData → Mem → Prop, I 0 [] M1 ∧
      (∀ (i : Nat) x acc M', ds[i]? = some x → I i acc M' → dG K g (.d x) (wipeD δ vs) M' fun δ2 M2 => dT K tt δ2 M2 fun b M3 => if b = true then dE K te δ2 M3 fun y M4 => ∃ d, y = .d d ∧ I (i + 1) (acc ++ [d]) M4 else I (i + 1) acc M3) ∧ ∀ acc M', I ds.length acc M' → Res P acc M') :
    dE K (tLc (iList K tl) g tt te vs) δ M P := fun σ H H1 e w Q q =>
  h σ H H1 e w _ fun v r H' M' H2 hb s w' vv => by
    obtain ⟨ds, rfl, hz, I, i0, it, ie⟩ := hb
    cases vv with
    | lst h1 h2 =>
      rename_i a xs
      refine ⟨a, rfl, ⟨xs, SqL.of (w'.ex _ _ h1)⟩, fun Dl hD => lc_list (xs := xs) (fun i => LcW K H' H2 M' Dl (I i) i) (lcw_start w' hD i0) (fun i H3 _ p => ?_) (fun i x H3 hx p => ?_) fun H3 p => ?_⟩
      · obtain ⟨_, _, _, _, _, _, s3, w3, _⟩ := p
        exact SqL.of (w3.ex _ _ (s3.pure _ _ h1))
      · obtain ⟨d, hd, vd⟩ := h2.get hx
        have hi := (List.getElem?_eq_some_iff.mp hd).1
        exact lcw_turn (x := .d d) hg (by omega) w' (e.mono s.pure) hD p (fun H' ex => Dq.mono ex _ _ vd) (fun acc M' hI => it i d acc M' hd hI)
      · rw [h2.length] at p
        exact lcw_end w' hD p ie fun v r Ha Ma Hb pp s3 w3 vr => q v r Ha Ma Hb pp (s.trans w w' s3) w3 vr
theorem dE_lcT {tl : TE} {vs : List Nat} (hg : GW g vs) (h : dE K tl δ M fun r M1 => ∃ ds, r = .d (.tuple ds) ∧ ds.length ≤ 40000 ∧ ∃ I : Nat → List PyData → Mem → Prop, I 0 [] M1 ∧
      (∀ (i : Nat) x acc M', ds[i]? = some x → I i acc M' → dG K g (.d x) (wipeD δ vs) M' fun δ2 M2 => dT K tt δ2 M2 fun b M3 => if b = true then dE K te δ2 M3 fun y M4 => ∃ d, y = .d d ∧ I (i + 1) (acc ++ [d]) M4 else I (i + 1) acc M3) ∧ ∀ acc M', I ds.length acc M' → Res P acc M') :
    dE K (tLc (iTup K tl) g tt te vs) δ M P := fun σ H H1 e w Q q =>
  h σ H H1 e w _ fun v r H' M' H2 hb s w' vv => by
    obtain ⟨ds, rfl, hz, I, i0, it, ie⟩ := hb
    cases vv with
    | tup h1 h2 =>
      rename_i a xs
      refine ⟨a, rfl, ⟨xs, sqTx w'.ex h1⟩, fun Dl hD => lc_tup (xs := xs) (fun i => LcW K H' H2 M' Dl (I i) i) (lcw_start w' hD i0) (fun i H3 _ p => ?_) (fun i x H3 hx p => ?_) fun H3 p => ?_⟩
      · obtain ⟨_, _, _, _, _, _, s3, w3, _⟩ := p
        exact sqTx w3.ex (sqTx s3.pure h1)
      · obtain ⟨d, hd, vd⟩ := h2.get hx
        have hi := (List.getElem?_eq_some_iff.mp hd).1
        exact lcw_turn (x := .d d) hg (by omega) w' (e.mono s.pure) hD p (fun H' ex => Dq.mono ex _ _ vd) (fun acc M' hI => it i d acc M' hd hI)
      · rw [h2.length] at p
        exact lcw_end w' hD p ie fun v r Ha Ma Hb pp s3 w3 vr => q v r Ha Ma Hb pp (s.trans w w' s3) w3 vr
theorem dE_lcR {ts : TA} {vs : List Nat} (hg : GW g vs) (h : dA K ts δ M fun rs M1 => ∃ n : Int, rs = [.d (.int n)] ∧ (-100000 ≤ n ∧ n ≤ 40000) ∧ ∃ I : Nat → List PyData → Mem → Prop, I 0 [] M1 ∧
      (∀ (i : Nat) acc M', (i : Int) < n → I i acc M' → dG K g (.d (.int (i : Int))) (wipeD δ vs) M' fun δ2 M2 => dT K tt δ2 M2 fun b M3 => if b = true then dE K te δ2 M3 fun y M4 => ∃ d, y = .d d ∧ I (i + 1) (acc ++ [d]) M4 else I (i + 1) acc M3) ∧ ∀ acc M', I n.toNat acc M' → Res P acc M') :
    dE K (tLc (iRng1 ts) g tt te vs) δ M P := fun σ H H1 e w Q q =>
  h σ H H1 e w _ fun vs' rs H' M' H2 hb s w' vv => by
    obtain ⟨n, rfl, hz, I, i0, it, ie⟩ := hb
    cases vv with
    | cons h1 h2 =>
      cases h2; cases h1
      refine ⟨n, rfl, by omega, by omega, fun Dl hD => lc_range (lo := 0) (n := n.toNat) (fun i => LcW K H' H2 M' Dl (I i) i) (lcw_start w' hD i0) (fun i H3 hx p => ?_) fun H3 p => ?_⟩
      · rw [show (0 : Int) + (i : Int) = (i : Int) from Int.zero_add _]
        exact lcw_turn (x := .d (.int (i : Int))) hg (by omega) w' (e.mono s.pure) hD p (fun H' ex => .int _) (fun acc M' hI => it i acc M' (by omega) hI)
      · exact lcw_end w' hD p ie fun v r Ha Ma Hb pp s3 w3 vr => q v r Ha Ma Hb pp (s.trans w w' s3) w3 vr
theorem dT_yes (h : PB true M) : dT K tYes δ M PB := fun σ H H1 e w Q q => q true H M H1 h Step.refl w
def startD (n : Nat) (rs : List SV) : DSt := rs.map some ++ List.replicate (n - rs.length) none
theorem SVsOk.get {H : Hp} : ∀ {vs : List V} {rs : List SV} {i : Nat} {r : SV}, SVsOk K H vs rs → rs[i]? = some r → ∃ v, vs[i]? = some v ∧ SVOk K H v r
  | _, _, _, _, .nil, e => by simp at e
  | _, _, 0, _, .cons h _, e => by simp at e; subst e; exact ⟨_, rfl, h⟩
  | _, _, i + 1, r, .cons _ t, e => by
    simp at e
    obtain ⟨v, q1, q2⟩ := SVsOk.get t e
    exact ⟨v, by simpa using q1, q2⟩
theorem start_ok {H : Hp} {vs : List V} {rs : List SV} {N : List Str} (h : SVsOk K H vs rs) : EnvOk K H (L2.start N vs) (startD N.length rs) := by
  refine ⟨?_, fun i r q => ?_⟩
  · unfold L2.start startD
    rw [List.length_append, List.length_append, List.length_map, List.length_map, List.length_replicate, List.length_replicate, h.length]
  · unfold startD at q
    unfold L2.start
    by_cases hi : i < rs.length
    · rw [List.getElem?_append_left (by rw [List.length_map]; exact hi), List.getElem?_map] at q
      cases q2 : rs[i]? with
      | none => rw [q2] at q; cases q
      | some r' =>
        rw [q2] at q
        cases q
        obtain ⟨v, e1, e2⟩ := h.get q2
        refine ⟨v, ?_, e2⟩
        rw [List.getElem?_append_left (by rw [List.length_map, h.length]; exact hi), List.getElem?_map, e1]
        rfl
    · rw [List.getElem?_append_right (by rw [List.length_map]; omega)] at q
      have := List.mem_of_getElem? q
      rw [List.mem_replicate] at this
      cases this.2
structure MSub (M0 M' : Mem) : Prop where
  l : ∀ a ds, M0 a = some ds → M' a = some ds
  o : ∀ a ob, M0.o a = some ob → M'.o a = some ob
instance {M0 M' : Mem} : CoeFun (MSub M0 M') fun _ => ∀ a ds, M0 a = some ds → M' a = some ds := ⟨MSub.l⟩
theorem MSub.refl : MSub M M := ⟨fun _ _ h => h, fun _ _ h => h⟩
theorem MSub.trans {A B C : Mem} (h : MSub A B) (k : MSub B C) : MSub A C := ⟨fun a ds e => k.l a ds (h.l a ds e), fun a ds e => k.o a ds (h.o a ds e)⟩
/-- back, the def's own lists forgotten -/
def rtOf (P : SV → Mem → Prop) (r : SV) (M' : Mem) : Prop := ∃ M0, P r M0 ∧ MSub M0 M'
theorem rtOf.of {r : SV} (h : P r M) : rtOf P r M := ⟨M, h, MSub.refl⟩
theorem msub_set {M0 : Mem} {a : Addr} {ds : List PyData} (s : MSub M0 M) (h : M0 a = none) : MSub M0 (mset M a ds) := ⟨fun b es e => by
  have n : b ≠ a := by rintro rfl; rw [h] at e; cases e
  rw [mset_ne n]
  exact s.l b es e, s.o⟩
theorem msub_oset {M0 : Mem} {a : Addr} {ob : Ob} (s : MSub M0 M) (h : M0.o a = none) : MSub M0 (oset M a ob) := ⟨s.l, fun b es e => by
  have n : b ≠ a := by rintro rfl; rw [h] at e; cases e
  rw [oset_ne n]
  exact s.o b es e⟩
/-- the def's own lists and objects forgotten -/
theorem cut_ok {H' H H2 H3 : Hp} {M M0 M' : Mem} (ms : MSub M0 M') (st : Step H' H M H2 H3 M') (wk : WOk K H2 M' H3) : Step H' H M H2 H3 M0 ∧ WOk K H2 M0 H3 := by
  refine ⟨⟨st.pure, st.keep, fun a h1 h2 h4 h3 => ⟨(st.new a h1 h2 h4 h3).1, ?_, ?_⟩⟩, ⟨wk.ex, fun a ds h => wk.cell a ds (ms.l a ds h), fun a ob h => wk.obj a ob (ms.o a ob h)⟩⟩
  · cases q : M0 a with
    | none => rfl
    | some ds =>
      have z := (st.new a h1 h2 h4 h3).2.1
      rw [ms.l a ds q] at z; cases z
  · cases q : M0.o a with
    | none => rfl
    | some ds =>
      have z := (st.new a h1 h2 h4 h3).2.2
      rw [ms.o a ds q] at z; cases z
theorem ok_of {P0 : Program} {w0 : World} {mg : Str → Option Value} {base : Heap} {x qual : Str} {st : Stmt} {f : Addr} {fd : FuncData} {N ps : List Str} {k : Nat} {S : SpD} (F : Fun K x qual st f fd) (sc : FnScope N ps (defScope st)) (len : ∀ rs M P, S rs M P → rs.length = ps.length)
    (hbody : ∀ (cdv : Value) (A : Around) (outer : List Env) (s : Shared) (H : Hp) (E : XK), Room k (A.deeper (PyProof.Rows.envOfC qual (defScope st) s.heap.objs.size f cdv)) →
      ∃ t, PSs (cxOf CX0 P0 w0 K mg base N qual (defScope st) f cdv A outer s H E).nox (defBody st) t ∧ ∀ rs M P, S rs M P → dS K t { nx := fun _ M' => rtOf P (.d .none) M', rt := rtOf P } (startD N.length rs) M) :
    FnOk P0 w0 K mg base CX0 (k + 1) f fd ps (spOf K S) := by
  refine F.ok sc (fun vs H Q E h => ?_) (fun cdv A outer s H vs Q E hr h => ?_)
  · obtain ⟨rs, H', M, P, _, v, hS, _⟩ := h
    rw [v.length]
    exact len rs M P hS
  · obtain ⟨rs, H', M, P, wk, v, hS, q⟩ := h
    obtain ⟨t, h1, h2⟩ := hbody cdv A outer s H E hr
    refine ⟨t, h1, h2 rs M P hS _ (L2.start N vs) H' H (start_ok v) wk ⟨fun δ' M' σ' H2 H3 p st e w' => ?_, fun r v H2 M' H3 p st w' vv => ?_, fun _ _ _ _ _ p => p.elim, fun _ _ _ _ _ p => p.elim, fun _ _ _ _ _ _ _ p => p.elim⟩⟩
    · obtain ⟨M0, p, ms⟩ := p
      obtain ⟨s1, w1⟩ := cut_ok ms st w'
      exact q _ _ H2 M0 H3 p s1 w1 .non
    · obtain ⟨M0, p, ms⟩ := p
      obtain ⟨s1, w1⟩ := cut_ok ms st w'
      exact q _ _ H2 M0 H3 p s1 w1 vv
/-- a promise that asks more, or wants less -/
theorem spOf.imp {S S' : SpD} (h : ∀ rs M P, S' rs M P → S rs M P) : ∀ vs H Q E, spOf K S' vs H Q E → spOf K S vs H Q E := fun vs H Q E ⟨rs, H', M, P, a, b, c, d⟩ => ⟨rs, H', M, P, a, b, h _ _ _ c, d⟩
end
end Sd
namespace Sd
open PySem L2 PyProof.Rows
structure Has (P : Program) (w : World) (K : PySem.W.Frag) (mg : Str → Option Value) (base : Heap) (k : Nat) (x : Str) (ps : List Str) (S : SpD) : Prop where
  ex : ∃ f fd, FnOk P w K mg base CX0 k f fd ps (spOf K S) ∧ mg x = some (.ref f) ∧ PySem.W.keepIn K (.ref f) = true ∧ Binds K fd ps []
theorem Has.imp {P : Program} {w : World} {K : PySem.W.Frag} {mg : Str → Option Value} {base : Heap} {k : Nat} {x : Str} {ps : List Str} {S S' : SpD} (h : Has P w K mg base k x ps S) (i : ∀ rs M P, S' rs M P → S rs M P) : Has P w K mg base k x ps S' := by
  obtain ⟨f, fd, a, b, c, d⟩ := h.ex
  exact ⟨f, fd, a.imp (spOf.imp i), b, c, d⟩
theorem pe_callH {X : Cx} {k : Nat} {x : Str} {ps : List Str} {S : SpD} {p pos : Pos} {e : Expr} {es : List Expr} {t : TA} (h : Has X.prog X.w X.K X.mg X.base k x ps S) (hr : Room k X.A) (hg : Gl X x) (ha : PA X (e :: es) t)
    (hdb : (x == ("__debug__" : Str)) = false := by decide) (he : starEach (e :: es) X.env = (false, eval e X.env) :: starEach es X.env := by rfl) (hpl : (backTo pos (starEach es X.env)).any (·.1) = false := by rfl) :
    PE X (.Call (.Name x p) (e :: es) [] pos) (tCall (spOf X.K S) [] E0 t) := by
  obtain ⟨f, fd, a, b, c, d⟩ := h.ex
  exact pe_call a hr hg b c d .nil pass0 ha hdb he hpl
def rSortedD (K : PySem.W.Frag) : List V → Hp → VK → Prop := fun vs H Q => ∃ (a : Addr) (zs : List (V × PyData)), vs = [V.ref a] ∧ SqL K H a (zs.map Prod.fst) ∧ (∀ z ∈ zs, Dp K H z.1 z.2) ∧ PySem.W.AllAlike (zs.map Prod.snd) ∧ PySem.W.Sortable (zs.map Prod.snd) ∧
  (∀ z ∈ zs, z.2.depth ≤ 60) ∧ ∀ p, H p = none → Q (.ref p) (upd H p (.lst ((zs.mergeSort (PySem.W.dataLe false Prod.snd)).map Prod.fst)))
theorem each_vals : ∀ {us : List Value} {zs : List (V × PyData)}, Vals (zs.map Prod.fst) us → PySem.W.EachIs (fun v (z : V × PyData) => RelV z.1 v) us zs
  | _, [], h => by cases h; exact .nil
  | _, z :: zs, h => by
    cases h with
    | cons h1 h2 => exact .cons h1 (each_vals h2)
theorem vals_each : ∀ {us : List Value} {zs : List (V × PyData)}, PySem.W.EachIs (fun v (z : V × PyData) => RelV z.1 v) us zs → Vals (zs.map Prod.fst) us
  | _, _, .nil => .nil
  | _, _, .cons h t => .cons h (vals_each t)
theorem each_reads {X : Cx} {pins : List (Addr × Obj)} {σ : L2.St} {H : Hp} {s : Shared} (I : L2.Inv X pins σ H s) : ∀ {us : List Value} {zs : List (V × PyData)}, Vals (zs.map Prod.fst) us → (∀ z ∈ zs, Dp X.K H z.1 z.2) → PySem.W.EachIs (fun v (z : V × PyData) => ∃ as, Reads s.heap v z.2 as) us zs
  | _, [], h, _ => by cases h; exact .nil
  | _, z :: zs, h, hd => by
    cases h with
    | cons h1 h2 => exact .cons (Dp.reads I z.2 z.1 _ (hd z List.mem_cons_self) h1) (each_reads I h2 fun y hy => hd y (List.mem_cons_of_mem _ hy))
theorem cr_sortedD {X : Cx} {k : Nat} (hr : Room k X.A) : CallR X (.builtin "sorted") (rSortedD X.K) := by
  intro pins s σ H vs us Q I r h
  obtain ⟨a, zs, rfl, hs, hd, hal, hso, hdp, q⟩ := h
  obtain ⟨its, rv, hl, hz⟩ := I.list hs
  rw [Vals.ref1 r]
  have hz' : zs.length ≤ sizeLine := by rw [List.length_map] at hz; exact hz
  refine PySem.W.sorted_data (enc := Prod.snd) (R := fun v (z : V × PyData) => RelV z.1 v) (bs := zs) hl.isList (each_vals rv) (each_reads I rv hd) hal hso hz' (fun b hb => ?_) fun out h1 h2 => ?_
  · have := hr.un
    have := hdp b hb
    omega
  · obtain ⟨ep, he'⟩ := PyProof.Rows.sortedAll_at s.heap its out.toArray
    have rv2 := vals_each h2
    have hlen : ((zs.mergeSort (PySem.W.dataLe false Prod.snd)).map Prod.fst).length ≤ sizeLine := by rw [List.length_map, List.length_mergeSort]; exact hz'
    exact ⟨.ref _, upd H (s.heap.objs.size + 1) (.lst ((zs.mergeSort (PySem.W.dataLe false Prod.snd)).map Prod.fst)), I.laid (t' := s.toks) (fun _ _ => PyProof.Rows.sortedAll_old) (Nat.le_succ _) ⟨hlen, out, ep, rv2, he'⟩, rfl, q _ (I.hok.fresh (Nat.le_succ _))⟩
/-- a call of f keeps all and gives the key -/
def KeyFn (P : Program) (w : World) (K : PySem.W.Frag) (f : Addr) (key : PyData → Option Int) : Prop := ∀ (A : Around) (s : Shared) (v : Value) (d : PyData) (as : List Addr) (n : Int), Room 1 A → K.In s.heap → s.heap.NoLimit → Reads s.heap v d as → key d = some n →
  wpAny (model P w) A (call (.ref f) [v]) (PySem.W.KeyPure (.int n) s) (fun _ _ => False) s
def rSortedF (K : PySem.W.Frag) (f : Addr) (key : PyData → Option Int) : List V → List V → Hp → VK → Prop := fun vs ks H Q => ∃ (a : Addr) (zs : List (V × PyData × Int)), vs = [V.ref a] ∧ ks = [V.ref f] ∧ SqL K H a (zs.map Prod.fst) ∧ (∀ z ∈ zs, Dp K H z.1 z.2.1 ∧ key z.2.1 = some z.2.2) ∧
  ∀ p, H p = none → Q (.ref p) (upd H p (.lst ((zs.mergeSort (PySem.W.dataLe false fun z => .int z.2.2)).map Prod.fst)))
theorem each_vals3 : ∀ {us : List Value} {zs : List (V × PyData × Int)}, Vals (zs.map Prod.fst) us → PySem.W.EachIs (fun v (z : V × PyData × Int) => RelV z.1 v) us zs
  | _, [], h => by cases h; exact .nil
  | _, z :: zs, h => by
    cases h with
    | cons h1 h2 => exact .cons h1 (each_vals3 h2)
theorem vals_each3 : ∀ {us : List Value} {zs : List (V × PyData × Int)}, PySem.W.EachIs (fun v (z : V × PyData × Int) => RelV z.1 v) us zs → Vals (zs.map Prod.fst) us
  | _, _, .nil => .nil
  | _, _, .cons h t => .cons h (vals_each3 t)
theorem cr_sortedF {X : Cx} {k : Nat} {f : Addr} {key : PyData → Option Int} (hf : KeyFn X.prog X.w X.K f key) (hr : Room k X.A) (hk : 3 ≤ k) : CallRK X (.builtin "sorted") [Str.ofString "key"] (rSortedF X.K f key) := by
  intro pins s σ H vs ks us ws Q I r rk h
  obtain ⟨a, zs, rfl, rfl, hs, hd, q⟩ := h
  obtain ⟨its, rv, hl, hz⟩ := I.list hs
  obtain ⟨u, rfl, ru⟩ := vals1 r
  obtain ⟨w1, rfl, rw1⟩ := vals1 rk
  cases ru
  cases rw1
  have hz' : zs.length ≤ sizeLine := by rw [List.length_map] at hz; exact hz
  have hr3 : Room 3 X.A := hr.mono hk
  refine PySem.W.sorted_key_data (b := false) (R := fun v (z : V × PyData × Int) => RelV z.1 v) (bs := zs) (fun z => .int z.2.2) hl.isList (each_vals3 rv) ?_ ?_ hz' (fun z hz => ?_) (PyProof.Rows.ksk_s1 _ _) (fun _ => PyProof.Rows.ksk_l1 _ _) (fun _ => PyProof.Rows.ksk_t1 _ _) (fun v z hv hzm h tk kp => ?_) fun out c h' tk kp hfr hat hlen he => ?_
  · intro d hd1 d' hd2
    obtain ⟨z1, _, rfl⟩ := List.mem_map.mp hd1
    obtain ⟨z2, _, rfl⟩ := List.mem_map.mp hd2
    rfl
  · refine .inr fun d hd1 => ?_
    obtain ⟨z1, _, rfl⟩ := List.mem_map.mp hd1
    exact ⟨fun e => PyData.noConfusion e, fun xs e => PyData.noConfusion e⟩
  · have := hr.un
    show X.A.units + 2 + 0 < cLine
    omega
  · obtain ⟨hd1, hd2⟩ := hd z hzm
    obtain ⟨as, hrd⟩ := Dp.reads I z.2.1 z.1 v hd1 hv
    exact hf X.A.in1.in1 _ v z.2.1 as z.2.2 (Room.in1 (Room.in1 hr3)) (I.kIn.keeps kp) (I.nolimit.keeps kp) (PyProof.Rows.Reads.keeps kp hrd) hd2
  · have rv2 := vals_each3 he
    have hlen2 : ((zs.mergeSort (PySem.W.dataLe false fun z => .int z.2.2)).map Prod.fst).length ≤ sizeLine := by rw [List.length_map, List.length_mergeSort]; exact hz'
    exact ⟨.ref _, upd H (s.heap.objs.size + 1) (.lst ((zs.mergeSort (PySem.W.dataLe false fun z => .int z.2.2)).map Prod.fst)), I.laid (t' := tk) kp (Nat.le_succ _) ⟨hlen2, out, c, rv2, hat⟩, rfl, q _ (I.hok.fresh (Nat.le_succ _))⟩
theorem reads_len {h : Heap} : ∀ {vs : List Value} {ds : List PyData} {as : List Addr}, ReadsAll h vs ds as → vs.length = ds.length
  | [], _, _, r => by cases r; rfl
  | v :: vs, _, _, r => by
    cases r with
    | cons _ r2 => rw [List.length_cons, List.length_cons, reads_len r2]
theorem reads_at {h : Heap} {n : Int} : ∀ {vs : List Value} {ds : List PyData} {as : List Addr} {i : Nat}, ReadsAll h vs ds as → ds[i]? = some (.int n) → ∃ u, vs[i]? = some u ∧ ∃ t, u = .int n t
  | [], _, _, _, r, e => by cases r; simp at e
  | v :: vs, _, _, i, r, e => by
    cases r with
    | cons r1 r2 =>
      cases i with
      | zero =>
        simp at e
        subst e
        cases r1
        exact ⟨_, rfl, _, rfl⟩
      | succ i =>
        simp at e
        obtain ⟨u, q1, q2⟩ := reads_at r2 e
        exact ⟨u, by simpa using q1, q2⟩
def asInt : PyData → Option Int
  | .int n => some n
  | _ => none
def itemKey (i : Nat) : PyData → Option Int
  | .tuple ds => ds[i]?.bind asInt
  | _ => none
/-- def f(x): return x[i], a tuple's item -/
theorem key_item {P : Program} {w : World} {K : PySem.W.Frag} {x qual a : Str} {st : Stmt} {f : Addr} {fd : FuncData} {i : Nat} {pn pc pb pr : Pos} {kc : Nat} (F : Fun K x qual st f fd) (S : FnScope [a] [a] (defScope st)) (hb : Binds K fd [a] [])
    (body : defBody st = [.Return (some (.Subscript (.Name a pn) (.Constant (.int (i : Int)) kc pc) pb)) pr]) (hloc : (defScope st).names.lookup a = some .local) (hi : (i : Int) < 1000) (hda : (a == ("__debug__" : Str)) = false) (hcd' : (a == ("__classdict__" : Str)) = false) :
    KeyFn P w K f (itemKey i) := by
  intro A s v d as n hr KX lim hrd hkey
  obtain ⟨oc, od, kV, doc, pm, an, cdv, ct, osl, rfl, lk, hcd⟩ := F.ex
  cases d with
  | tuple ds =>
    have hkey' : ds[i]?.bind asInt = some n := hkey
    have hn : ds[i]? = some (.int n) := by
      revert hkey'
      cases ds[i]? with
      | none => intro h; cases h
      | some e => cases e <;> intro h <;> first | (cases h; rfl) | cases h
    have hkind : ∀ y ∈ ([a] : List Str).zip [v], (defScope st).names.lookup y.1 = some .local ∨ ((defScope st).names.lookup y.1 = some .cell ∧ ((cellsFrom (s.heap.objs.size + 1) (defScope st).names []).lookup y.1).isSome = true) := fun y hy => by
      simp at hy
      subst hy
      exact .inl hloc
    refine wpAny_call (codeAny_call_function hr.depth (KX _ _ lk) rfl S.co S.gen rfl (PySem.W.codeRec_of KX hcd) (hb s [v] KX rfl _ _ _ _ ?_))
    refine wpAny_newFunctionEnv_cells S.kind hkind fun env he s1 x => ?_
    subst he
    refine ⟨lim.keeps x.toInCall.keep, codeAny_func ?_⟩
    rw [body]
    obtain ⟨h1, tk1, e1, hk1⟩ := x.done
    have hns := x.toInCall.ns
    have hm : bindL (PyProof.Rows.envOfC qual (defScope st) s.heap.objs.size f cdv).kindOf ([a].zip [v]) (fun _ => none) a = some v := bindL_get (P := [a]) (vs := [v]) (i := 0) S.nd rfl rfl hloc
    cases hrd with
    | tuple ho hc hd hra =>
      rename_i ad o vs nn
      have ht : PyProof.Rows.IsTup s1.heap ad vs := ⟨o, x.toInCall.keep _ _ ho, hc, nn, hd⟩
      obtain ⟨u, hu, t, hut⟩ := reads_at hra hn
      subst hut
      have hl : vs.size = ds.length := by rw [← Array.length_toList]; exact reads_len hra
      have hil : i < ds.length := (List.getElem?_eq_some_iff.mp hn).1
      refine wpAny_execs_cons (wpAny_Return_some (Subscript_ (wpAny_Name (wpAny_loadName_local S.kind hloc hns hm ?_) hda)))
      refine wpAny_Constant_int ?_
      refine subscriptTail_builtinR (x := .int n t) (T := "tuple") (PyProof.Rows.IsTup.typeIs (s := { s1 with toks := s1.toks + 1 }) ht) PyProof.Rows.slot_tuple_getitem.lookup (getItem_tuple (j := i) (x := .int n t) (s := { s1 with toks := s1.toks + 1 }) ht (by omega) (by omega) ?_ ?_ ⟨rfl, ?_⟩) (by rfl)
      · show seqIndex? (i : Int) vs.size = some i
        rw [hl]
        refine (ixN_seq (n := ds.length) (i := (i : Int)) (j := i) ?_).1
        unfold ixN
        rw [if_pos (by omega), if_pos (by omega)]
        simp
      · rw [← Array.getElem?_toList]; exact hu
      · subst e1
        exact ⟨h1, tk1 + 1, rfl, hk1, .int n t⟩
  | _ => cases hkey
end Sd
namespace Sd
open PySem L2
section
variable {K : PySem.W.Frag} {δ : DSt} {M : Mem} {P : SV → Mem → Prop} {ta te : TE}
theorem dE_ref {f : Addr} (p : P (.m f) M) : dE K (tC (.ref f)) δ M P := fun σ H H1 e w Q q => q _ _ H M H1 p Step.refl w rfl
theorem zip_fst {H : Hp} : ∀ {vs : List V} {ds : List PyData}, DqAll K H vs ds → (vs.zip ds).map Prod.fst = vs
  | _, [], h => by cases h; rfl
  | _, d :: ds, h => by
    cases h with
    | cons h1 h2 => rw [List.zip_cons_cons, List.map_cons, zip_fst h2]
theorem zip_snd {H : Hp} : ∀ {vs : List V} {ds : List PyData}, DqAll K H vs ds → (vs.zip ds).map Prod.snd = ds
  | _, [], h => by cases h; rfl
  | _, d :: ds, h => by
    cases h with
    | cons h1 h2 => rw [List.zip_cons_cons, List.map_cons, zip_snd h2]
theorem zip_dq {H : Hp} : ∀ {vs : List V} {ds : List PyData}, DqAll K H vs ds → ∀ z ∈ vs.zip ds, Dq K H z.1 z.2
  | _, [], h, z, hz => by cases h; simp at hz
  | _, d :: ds, h, z, hz => by
    cases h with
    | cons h1 h2 =>
      rw [List.zip_cons_cons] at hz
      rcases List.mem_cons.mp hz with rfl | hz
      · exact h1
      · exact zip_dq h2 z hz
theorem dq_of_zip {H : Hp} : ∀ {zs : List (V × PyData)}, (∀ z ∈ zs, Dq K H z.1 z.2) → DqAll K H (zs.map Prod.fst) (zs.map Prod.snd)
  | [], _ => .nil
  | z :: zs, h => .cons (h z List.mem_cons_self) (dq_of_zip fun y hy => h y (List.mem_cons_of_mem _ hy))
theorem dC_sortedD {x : SV} {ds : List PyData} (s : SeqL M x ds) (hal : PySem.W.AllAlike ds) (hso : PySem.W.Sortable ds) (hdp : ∀ d ∈ ds, d.depth ≤ 60) (p : P (.d (.list (ds.mergeSort (PySem.W.dataLe false id)))) M) : dC K (rSortedD K) [x] M P := fun vs H H1 hv wk Q q => by
  cases hv with
  | cons h t =>
    cases t
    obtain ⟨a, vs, rfl, h1, h2⟩ := s.sq wk h
    refine ⟨a, vs.zip ds, rfl, by rw [zip_fst h2]; exact SqL.of h1, fun z hz => Dq.dp _ _ (Dq.mono wk.ex _ _ (zip_dq h2 z hz)), by rw [zip_snd h2]; exact hal, by rw [zip_snd h2]; exact hso, fun z hz => hdp z.2 (by rw [← zip_snd h2]; exact List.mem_map.mpr ⟨z, hz, rfl⟩), fun l hl => ?_⟩
    obtain ⟨w2, s2⟩ := laid_ok (o := .lst (((vs.zip ds).mergeSort (PySem.W.dataLe false Prod.snd)).map Prod.fst)) wk hl
    have hd := dq_of_zip (H := H) (zs := (vs.zip ds).mergeSort (PySem.W.dataLe false Prod.snd)) fun z hz => zip_dq h2 z (List.mem_mergeSort.mp hz)
    rw [List.map_mergeSort (f := Prod.snd) (r := PySem.W.dataLe false Prod.snd) (s := PySem.W.dataLe false id) (fun a _ b _ => rfl), zip_snd h2] at hd
    exact q _ _ _ M _ p s2 w2 (.lst upd_same (DqAll.mono s2.pure _ _ hd))
def dK (K : PySem.W.Frag) (r : List V → List V → Hp → VK → Prop) (xs ks : List SV) (M : Mem) (P : SV → Mem → Prop) : Prop := ∀ (vs ws : List V) (H H1 : Hp), SVsOk K H vs xs → SVsOk K H ws ks → WOk K H M H1 → ∀ Q : VK,
  (∀ v r H' M' H2, P r M' → Step H H1 M H' H2 M' → WOk K H' M' H2 → SVOk K H' v r → Q v H2) → r vs ws H1 Q
theorem dE_kw {r : List V → List V → Hp → VK → Prop} {ts tk : TA} (h : dA K ts δ M fun xs M1 => dA K tk δ M1 fun ks M2 => dK K r xs ks M2 P) : dE K (tCKw r ts tk) δ M P := fun σ H H1 e w Q q =>
  h σ H H1 e w _ fun vs xs H' M' H2 hc s1 w1 vxs => hc σ H' H2 (e.mono s1.pure) w1 _ fun ws ks H'' M'' H3 hk s2 w2 vks => hk vs ws H'' H3 (vxs.mono s2.pure) vks w2 Q fun z r H3' M3 H4 p s3 w3 vz => q z r H3' M3 H4 p ((s1.trans w w1 s2).trans w w2 s3) w3 vz
theorem dK_sortedF {f : Addr} {key : PyData → Option Int} {kv : PyData → Int} {x : SV} {ds : List PyData} (s : SeqL M x ds) (hk : ∀ d ∈ ds, key d = some (kv d)) (p : P (.d (.list (ds.mergeSort fun a b => decide (kv a ≤ kv b)))) M) : dK K (rSortedF K f key) [x] [.m f] M P := fun vs ws H H1 hv hw wk Q q => by
  cases hv with
  | cons h t =>
    cases t
    cases hw with
    | cons h' t' =>
      cases t'
      cases h'
      obtain ⟨a, vs, rfl, h1, h2⟩ := s.sq wk h
      have hm : ((vs.zip ds).map fun z => (z.1, z.2, kv z.2)).map Prod.fst = vs := by rw [List.map_map]; exact zip_fst h2
      refine ⟨a, (vs.zip ds).map fun z => (z.1, z.2, kv z.2), rfl, rfl, by rw [hm]; exact SqL.of h1, fun z hz => ?_, fun l hl => ?_⟩
      · obtain ⟨y, hy, rfl⟩ := List.mem_map.mp hz
        exact ⟨Dq.dp _ _ (Dq.mono wk.ex _ _ (zip_dq h2 y hy)), hk y.2 (by rw [← zip_snd h2]; exact List.mem_map.mpr ⟨y, hy, rfl⟩)⟩
      · have e1 : (((vs.zip ds).map fun z => (z.1, z.2, kv z.2)).mergeSort (PySem.W.dataLe false fun z => .int z.2.2)).map Prod.fst = ((vs.zip ds).mergeSort fun a b => decide (kv a.2 ≤ kv b.2)).map Prod.fst := by
          rw [PySem.W.dataLe_int (fun z : V × PyData × Int => z.2.2), ← List.map_mergeSort (f := fun z : V × PyData => (z.1, z.2, kv z.2)) (r := fun a b => decide (kv a.2 ≤ kv b.2)) (fun a _ b _ => rfl), List.map_map]
          rfl
        rw [e1]
        obtain ⟨w2, s2⟩ := laid_ok (o := .lst (((vs.zip ds).mergeSort fun a b => decide (kv a.2 ≤ kv b.2)).map Prod.fst)) wk hl
        have hd := dq_of_zip (H := H) (zs := (vs.zip ds).mergeSort fun a b => decide (kv a.2 ≤ kv b.2)) fun z hz => zip_dq h2 z (List.mem_mergeSort.mp hz)
        rw [List.map_mergeSort (f := Prod.snd) (s := fun a b => decide (kv a ≤ kv b)) (fun a _ b _ => rfl), zip_snd h2] at hd
        exact q _ _ _ M _ p s2 w2 (.lst upd_same (DqAll.mono s2.pure _ _ hd))
end
end Sd
namespace Sd
open PySem L2
section
variable {X : Cx} {e : Expr} {es : List Expr} {t : TA} {te : TE}
theorem kix_tup (K : PySem.W.Frag) (h : X.K = K := by rfl) : IxR X (rIxT K) := h ▸ ix_tup
theorem kix_list (K : PySem.W.Frag) (h : X.K = K := by rfl) : IxR X (rIxL K) := h ▸ ix_list
theorem ksl_list (K : PySem.W.Frag) (h : X.K = K := by rfl) : SlR X (rSlL K) := h ▸ sl_list
theorem ksl_tup (K : PySem.W.Frag) (h : X.K = K := by rfl) : SlR X (rSlT K) := h ▸ sl_tup
theorem kop_catT (K : PySem.W.Frag) (h : X.K = K := by rfl) : OpR X (binaryOp .Add) (rCatT K) := h ▸ op_catT
theorem kop_in (K : PySem.W.Frag) (h : X.K = K := by rfl) : OpR X (compareOp .In) (rIn K false) := h ▸ op_in_seq
theorem kop_notIn (K : PySem.W.Frag) (h : X.K = K := by rfl) : OpR X (compareOp .NotIn) (rIn K true) := h ▸ op_notIn_seq
theorem kop_eqD (K : PySem.W.Frag) (hu : X.A.units + 64 < cLine) (h : X.K = K := by rfl) : OpR X (compareOp .Eq) (rEqD K) := h ▸ op_eqD hu
theorem kop_neD (K : PySem.W.Frag) (hu : X.A.units + 64 < cLine) (h : X.K = K := by rfl) : OpR X (compareOp .NotEq) (rNeD K) := h ▸ op_neD hu
theorem kcall_len (K : PySem.W.Frag) (h : X.K = K := by rfl) : CallR X (.builtin "len") (fun xs H Q => ∃ p ys, xs = [.ref p] ∧ (SqL K H p ys ∨ SqT K H p ys) ∧ Q (.int ys.length) H) := by subst h; exact call_len_seq
theorem kcall_tuple (K : PySem.W.Frag) (h : X.K = K := by rfl) : CallR X (.type "tuple") (fun xs H Q => ∃ p ys, xs = [.ref p] ∧ ((SqL K H p ys ∧ ∀ l, H l = none → Q (.ref l) (upd H l (.tup ys))) ∨ (SqT K H p ys ∧ Q (.ref p) H))) := by subst h; exact call_tuple_of
theorem kcall_list (K : PySem.W.Frag) (h : X.K = K := by rfl) : CallR X (.type "list") (fun xs H Q => ∃ p ys, xs = [.ref p] ∧ (SqL K H p ys ∨ SqT K H p ys) ∧ ∀ l, H l = none → Q (.ref l) (upd H l (.lst ys))) := by subst h; exact call_list_of
theorem kcr_sum (K : PySem.W.Frag) (hc : X.calm = true := by rfl) (h : X.K = K := by rfl) : CallR X (.builtin "sum") (rSum K) := h ▸ cr_sum hc
theorem kcr_sortedD (K : PySem.W.Frag) {k : Nat} (hr : Room k X.A) (h : X.K = K := by rfl) : CallR X (.builtin "sorted") (rSortedD K) := h ▸ cr_sortedD hr
theorem kcr_sortedF (K : PySem.W.Frag) {k : Nat} {f : Addr} {key : PyData → Option Int} (hf : KeyFn X.prog X.w K f key) (hr : Room k X.A) (hk : 3 ≤ k) (h : X.K = K := by rfl) : CallRK X (.builtin "sorted") [Str.ofString "key"] (rSortedF K f key) := by subst h; exact cr_sortedF hf hr hk
theorem kpi_list (K : PySem.W.Frag) {tg iter : Expr} (he : PE X iter te) (h : X.K = K := by rfl) : PI X tg iter (iList K te) := h ▸ pi_list he
theorem kpi_tup (K : PySem.W.Frag) {tg iter : Expr} (he : PE X iter te) (h : X.K = K := by rfl) : PI X tg iter (iTup K te) := h ▸ pi_tup he
theorem kpg_tup (K : PySem.W.Frag) {k : Nat} {ts : TGs} {n : Nat} {pos : Pos} (hc : X.calm = true) (hh : PGs X es ts) (h : X.K = K := by rfl) (hn : (assignEach es X.env).length = n := by rfl) (hst : (assignEach es X.env).findIdx? (·.1) = none := by rfl) : PG X (.Tuple es k pos) (gTup K n ts) := h ▸ pg_tup hc hh hn hst
theorem kpt_truth (K : PySem.W.Frag) (he : PE X e te) (h1 : ∀ whole, isTrue e X.env whole = (do let v ← whole; standAt e.pos; holding [v] (truthy v)) := by intro _; rfl) (h : X.K = K := by rfl) : PT X e (fun σ H Q => te σ H fun x H' => ∃ k, TruV K x H' k ∧ Q k H') := by subst h; exact pt_truth he h1
theorem kpe_bm (K : PySem.W.Frag) {T : String} {r : V → List V → Hp → VK → Prop} {to : TE} (hh : PE X e (tBM X.K T r to t)) (h : X.K = K := by rfl) : PE X e (tBM K T r to t) := h ▸ hh
theorem pe_callH' {K : PySem.W.Frag} {k : Nat} {x : Str} {ps : List Str} {S : SpD} {p pos : Pos} (hh : Has X.prog X.w K X.mg X.base k x ps S) (hr : Room k X.A) (hg : Gl X x) (ha : PA X (e :: es) t) (h : X.K = K := by rfl)
    (hdb : (x == ("__debug__" : Str)) = false := by decide) (he : starEach (e :: es) X.env = (false, eval e X.env) :: starEach es X.env := by rfl) (hpl : (backTo pos (starEach es X.env)).any (·.1) = false := by rfl) :
    PE X (.Call (.Name x p) (e :: es) [] pos) (tCall (spOf K S) [] E0 t) := by subst h; exact pe_callH hh hr hg ha hdb he hpl
variable {K : PySem.W.Frag} {M : Mem} {P : SV → Mem → Prop}
theorem dR_is {x : Str} {y : SV} {ns : List Str} (hy : Seq M y (ns.map .str)) (p : P (.d (.bool (ns.contains x))) M) : dR K (rIn K false) (.d (.str x)) y M P := dR_in hy p
theorem dR_no {x : Str} {y : SV} {ns : List Str} (hy : Seq M y (ns.map .str)) (p : P (.d (.bool (!ns.contains x))) M) : dR K (rIn K true) (.d (.str x)) y M P := dR_in hy p
variable {δ : DSt} {tl : TE} {tt : TT}
theorem map_at {α β : Type} {f : α → β} {l : List α} {i : Nat} {y : β} (h : (l.map f)[i]? = some y) : ∃ x, l[i]? = some x ∧ y = f x := by
  rw [List.getElem?_map] at h
  cases q : l[i]? with
  | none => rw [q] at h; cases h
  | some x => rw [q] at h; exact ⟨x, rfl, (Option.some.inj h).symm⟩
/-- [e for x in xs if t], nothing drawn in it -/
theorem lc_turns {α : Type} {enc out : α → PyData} {pt : α → Bool} {xs : List α} {j : Nat}
    (ht : ∀ x ∈ xs, dT K tt ((wipeD δ [j]).set j (some (.d (enc x)))) M fun b M2 => b = pt x ∧ M2 = M)
    (he : ∀ x ∈ xs, pt x = true → dE K te ((wipeD δ [j]).set j (some (.d (enc x)))) M fun y M2 => y = .d (out x) ∧ M2 = M) :
    ∀ (i : Nat) (d : PyData) (acc : List PyData) (M' : Mem), (xs.map enc)[i]? = some d → (M' = M ∧ acc = ((xs.take i).filter pt).map out) →
      dG K (gName j) (.d d) (wipeD δ [j]) M' fun δ2 M2 => dT K tt δ2 M2 fun b M3 => if b = true then dE K te δ2 M3 fun y M4 => ∃ d, y = .d d ∧ (M4 = M ∧ acc ++ [d] = ((xs.take (i + 1)).filter pt).map out) else (M3 = M ∧ acc = ((xs.take (i + 1)).filter pt).map out) := by
  intro i d acc M' hx hI
  obtain ⟨rfl, rfl⟩ := hI
  obtain ⟨x, hx1, rfl⟩ := map_at hx
  have hm := List.mem_of_getElem? hx1
  have e : (xs.take (i + 1)).filter pt = (xs.take i).filter pt ++ [x].filter pt := by rw [List.take_succ, hx1, List.filter_append]; rfl
  refine dG_name ((ht x hm).mono fun b M3 hb => ?_)
  obtain ⟨rfl, rfl⟩ := hb
  refine ifB (fun h => (he x hm h).mono fun y M4 hy => ?_) (fun h => ⟨rfl, ?_⟩)
  · obtain ⟨rfl, rfl⟩ := hy
    refine ⟨_, rfl, rfl, ?_⟩
    rw [e, List.map_append, List.filter_cons, if_pos h]
    rfl
  · rw [e, List.filter_cons, if_neg (by rw [h]; decide)]
    simp
theorem dE_lcLf {α : Type} {enc out : α → PyData} {pt : α → Bool} {xs : List α} {j : Nat} (h : dE K tl δ M fun r M1 => r = .d (.list (xs.map enc)) ∧ M1 = M ∧ xs.length ≤ 40000 ∧
    (∀ x ∈ xs, dT K tt ((wipeD δ [j]).set j (some (.d (enc x)))) M fun b M2 => b = pt x ∧ M2 = M) ∧
    (∀ x ∈ xs, pt x = true → dE K te ((wipeD δ [j]).set j (some (.d (enc x)))) M fun y M2 => y = .d (out x) ∧ M2 = M) ∧ Res P ((xs.filter pt).map out) M) : dE K (tLc (iList K tl) (gName j) tt te [j]) δ M P := by
  refine dE_lcL (gw_name j) (h.mono fun r M1 hh => ?_)
  obtain ⟨rfl, rfl, hl, ht, he, hr⟩ := hh
  refine ⟨_, rfl, by rw [List.length_map]; exact hl, fun i acc M' => M' = M1 ∧ acc = ((xs.take i).filter pt).map out, ⟨rfl, rfl⟩, fun i d acc M' => lc_turns ht he i d acc M', fun acc M' hI => ?_⟩
  obtain ⟨rfl, rfl⟩ := hI
  rw [List.length_map, List.take_length]
  exact hr
theorem dE_lcTf {α : Type} {enc out : α → PyData} {pt : α → Bool} {xs : List α} {j : Nat} (h : dE K tl δ M fun r M1 => r = .d (.tuple (xs.map enc)) ∧ M1 = M ∧ xs.length ≤ 40000 ∧
    (∀ x ∈ xs, dT K tt ((wipeD δ [j]).set j (some (.d (enc x)))) M fun b M2 => b = pt x ∧ M2 = M) ∧
    (∀ x ∈ xs, pt x = true → dE K te ((wipeD δ [j]).set j (some (.d (enc x)))) M fun y M2 => y = .d (out x) ∧ M2 = M) ∧ Res P ((xs.filter pt).map out) M) : dE K (tLc (iTup K tl) (gName j) tt te [j]) δ M P := by
  refine dE_lcT (gw_name j) (h.mono fun r M1 hh => ?_)
  obtain ⟨rfl, rfl, hl, ht, he, hr⟩ := hh
  refine ⟨_, rfl, by rw [List.length_map]; exact hl, fun i acc M' => M' = M1 ∧ acc = ((xs.take i).filter pt).map out, ⟨rfl, rfl⟩, fun i d acc M' => lc_turns ht he i d acc M', fun acc M' hI => ?_⟩
  obtain ⟨rfl, rfl⟩ := hI
  rw [List.length_map, List.take_length]
  exact hr
theorem dE_lcLm {α : Type} {enc out : α → PyData} {xs : List α} {j : Nat} (h : dE K tl δ M fun r M1 => r = .d (.list (xs.map enc)) ∧ M1 = M ∧ xs.length ≤ 40000 ∧
    (∀ x ∈ xs, dE K te ((wipeD δ [j]).set j (some (.d (enc x)))) M fun y M2 => y = .d (out x) ∧ M2 = M) ∧ Res P (xs.map out) M) : dE K (tLc (iList K tl) (gName j) tYes te [j]) δ M P := by
  refine dE_lcLf (pt := fun _ => true) (enc := enc) (out := out) (xs := xs) (h.mono fun r M1 hh => ?_)
  obtain ⟨h1, h2, h3, h4, h5⟩ := hh
  exact ⟨h1, h2, h3, fun x _ => dT_yes ⟨rfl, rfl⟩, fun x hx _ => h4 x hx, by rw [List.filter_eq_self.mpr fun _ _ => rfl]; exact h5⟩
theorem dE_lcTm {α : Type} {enc out : α → PyData} {xs : List α} {j : Nat} (h : dE K tl δ M fun r M1 => r = .d (.tuple (xs.map enc)) ∧ M1 = M ∧ xs.length ≤ 40000 ∧
    (∀ x ∈ xs, dE K te ((wipeD δ [j]).set j (some (.d (enc x)))) M fun y M2 => y = .d (out x) ∧ M2 = M) ∧ Res P (xs.map out) M) : dE K (tLc (iTup K tl) (gName j) tYes te [j]) δ M P := by
  refine dE_lcTf (pt := fun _ => true) (enc := enc) (out := out) (xs := xs) (h.mono fun r M1 hh => ?_)
  obtain ⟨h1, h2, h3, h4, h5⟩ := hh
  exact ⟨h1, h2, h3, fun x _ => dT_yes ⟨rfl, rfl⟩, fun x hx _ => h4 x hx, by rw [List.filter_eq_self.mpr fun _ _ => rfl]; exact h5⟩
end
theorem ex_cmp {i j : Int} {R : Int → Int → Prop} (h : R i j) : ∃ i' j', SV.d (.int i) = SV.d (.int i') ∧ SV.d (.int j) = SV.d (.int j') ∧ R i' j' := ⟨i, j, rfl, rfl, h⟩
theorem ex_bool {b : Bool} {R : Bool → Prop} (h : R b) : ∃ b', SV.d (.bool b) = SV.d (.bool b') ∧ R b' := ⟨b, rfl, h⟩
theorem ex_int {i : Int} {R : Int → Prop} (h : R i) : ∃ i', SV.d (.int i) = SV.d (.int i') ∧ R i' := ⟨i, rfl, h⟩
theorem ex_d {d : PyData} {R : PyData → Prop} (h : R d) : ∃ d', SV.d d = SV.d d' ∧ R d' := ⟨d, rfl, h⟩
theorem ex_list {ds : List PyData} {R : List PyData → Prop} (h : R ds) : ∃ ds', SV.d (.list ds) = SV.d (.list ds') ∧ R ds' := ⟨ds, rfl, h⟩
theorem ex_tup {ds : List PyData} {R : List PyData → Prop} (h : R ds) : ∃ ds', SV.d (.tuple ds) = SV.d (.tuple ds') ∧ R ds' := ⟨ds, rfl, h⟩
theorem ex_m {a : Addr} {R : Addr → Prop} (h : R a) : ∃ a', SV.m a = SV.m a' ∧ R a' := ⟨a, rfl, h⟩
theorem ex_par {x y : SV} {R : SV → SV → Prop} (h : R x y) : ∃ r s, [x, y] = [r, s] ∧ R r s := ⟨x, y, rfl, h⟩
theorem ex_rg1 {i : Int} {R : Int → Prop} (h : R i) : ∃ i', [SV.d (.int i)] = [SV.d (.int i')] ∧ R i' := ⟨i, rfl, h⟩
theorem ex_rg2 {i j : Int} {R : Int → Int → Prop} (h : R i j) : ∃ i' j', [SV.d (.int i), SV.d (.int j)] = [SV.d (.int i'), SV.d (.int j')] ∧ R i' j' := ⟨i, j, rfl, h⟩
theorem ex_dat {rs : List SV} {ds : List PyData} {R : List PyData → Prop} (e : datAll rs = some ds) (l : ds.length ≤ 1000) (h : R ds) : ∃ ds', datAll rs = some ds' ∧ ds'.length ≤ 1000 ∧ R ds' := ⟨ds, e, l, h⟩
end Sd
namespace Sd
open PySem L2
/-- a def of the top, as the head leaves it -/
structure Df (K : PySem.W.Frag) (mg : Str → Option Value) (x : Str) (st : Stmt) (f : Addr) (ps : List Str) : Prop where
  ex : ∃ fd, Fun K x x st f fd ∧ mg x = some (.ref f) ∧ Binds K fd ps []
theorem Df.has {P : Program} {w : World} {K : PySem.W.Frag} {mg : Str → Option Value} {base : Heap} {x : Str} {st : Stmt} {f : Addr} {ps : List Str} {k : Nat} {S : SpD} (d : Df K mg x st f ps)
    (h : ∀ fd, Fun K x x st f fd → FnOk P w K mg base CX0 k f fd ps (spOf K S)) : Has P w K mg base k x ps S := by
  obtain ⟨fd, h1, h2, h3⟩ := d.ex
  exact ⟨f, fd, h fd h1, h2, h1.kp, h3⟩
theorem Df.mk' {K : PySem.W.Frag} {h : Heap} {mg : Str → Option Value} {x : Str} {st : Stmt} {f : Addr} {ps : List Str} {oc : Value} {od an : Option Addr} {osl : Array (Option Value)} {kV doc pm cdv ct : Value} (X : K.In h) (G : h.Ns mainGlobals mg)
    (a : PySem.W.nsIn K mainGlobals x = some (some (.ref f))) (l : K.lookup f = some ⟨oc, od, .func (PySem.W.fnOf x x (defArgs st) (defBody st) (defScope st) .none kV doc pm an cdv ct), osl⟩)
    (c : PySem.W.codeIn K cdv x = true) (k : PySem.W.keepIn K (.ref f) = true)
    (b : ∀ (kV doc pm : Value) (an : Option Addr) (cdv ct : Value) (us : List Value), us.length = ps.length → bindArgs (PySem.W.fnOf x x (defArgs st) (defBody st) (defScope st) .none kV doc pm an cdv ct) ⟨us, []⟩ = pure (ps.zip us)) : Df K mg x st f ps :=
  ⟨_, fun_mk l c k, PySem.W.mg_of X G a, (fun_mk (st := st) l c k).binds b⟩
/-- the module's nought -/
structure Nt (K : PySem.W.Frag) (mg : Str → Option Value) (a : Addr) : Prop where
  m : mg "NOUGHT" = some (.ref a)
  d : ∀ H, Dq K H (.ref a) (.tuple [.int 0, .int 1])
theorem Nt.mk' {K : PySem.W.Frag} {h : Heap} {mg : Str → Option Value} {a : Addr} {od : Option Addr} {t0 t1 : Tok} {n : Nat} {sl : Array (Option Value)} (X : K.In h) (G : h.Ns mainGlobals mg)
    (z : PySem.W.nsIn K mainGlobals "NOUGHT" = some (some (.ref a))) (l : K.lookup a = some ⟨.type "tuple", od, .seq #[.int 0 t0, .int 1 t1] n, sl⟩) : Nt K mg a :=
  ⟨PySem.W.mg_of X G z, fun H => .tup (xs := [.int 0, .int 1]) (.inr ⟨_, _, n, l, rfl, rfl, (by decide : 2 ≤ sizeLine), .cons ⟨_, rfl⟩ (.cons ⟨_, rfl⟩ .nil)⟩) (.cons (.int 0) (.cons (.int 1) .nil))⟩
theorem dE_nt {K : PySem.W.Frag} {δ : DSt} {M : Mem} {P : SV → Mem → Prop} {mg : Str → Option Value} {a : Addr} (n : Nt K mg a) (p : P (.d (.tuple [.int 0, .int 1])) M) : dE K (tC (.ref a)) δ M P := fun σ H H1 e w Q q => q _ _ H M H1 p Step.refl w (n.d H)
end Sd
namespace Sd
open PySem L2 PyProof.Rows
set_option maxRecDepth 8000 in
theorem extend_tup (l : Addr) (items : Array Value) (n : Nat) (b : Addr) (items2 : Array Value) (n2 : Nat) (dd : Option Addr) (sl : Array (Option Value))
    (hs0 : ¬(!items.isEmpty && Builtin.List.listTooLong (items.size + items2.size)) = true) (hs1 : items.size ≤ sizeLine) (hs2 : items.size + items2.size ≤ sizeLine + 1) :
    Meets (Builtin.«list.extend» ⟨[.ref l, .ref b], []⟩) (fun _ R s => s.heap.get? l = some { cls := .type "list", dict := none, data := .seq items n, slots := #[] } ∧ s.heap.get? b = some { cls := .type "tuple", dict := dd, data := .seq items2 n2, slots := sl } ∧
      R (.ok (.ret Value.none)) { s with heap := s.heap.update l (Obj.mapSeq fun x => x ++ items2), toks := s.toks }) :=
  .of_wp fun prog w A R s h => by
    obtain ⟨hp, g, d, tk, os⟩ := s
    obtain ⟨hl, hb, h⟩ := h
    have f1 := PySem.AutoSeq1.idx_int
    have f2 := PySem.AutoSeq1.sub_tuple_tuple
    have f3 := PySem.AutoSeq1.sub_list_list
    have f4 := PySem.AutoSeq1.sub_tuple_list
    have f5 := PySem.AutoSeq1.sub_list_tuple
    have hz' : (items ++ items2).size ≤ sizeLine + 1 := by rw [Array.size_append]; exact hs2
    wp_walk using (wpAny_updateSeq hl rfl (hz := hs1) (_hz' := hz')), (PySem.AutoSeq1.wpAny_loadPart' hl), (PySem.AutoSeq1.wpAny_loadPart' hb)
    exact ⟨_, rfl, h⟩
/-- xs.extend(t), t a tuple -/
def rExtT (K : PySem.W.Frag) : V → List V → Hp → VK → Prop := fun x vs H Q => ∃ l b xs zs, x = .ref l ∧ vs = [.ref b] ∧ H l = some (.lst xs) ∧ SqT K H b zs ∧ xs.length + zs.length ≤ sizeLine ∧ Q .non (upd H l (.lst (xs ++ zs)))
theorem mt_extT {X : Cx} (K : PySem.W.Frag) (hK : X.K = K := by rfl) : MtM X "list.extend" (rExtT K) := by
  subst hK
  intro pins s σ H x vs v us Q I rx rv h
  obtain ⟨l, b, xs, zs, rfl, rfl, hH, hB, hz, q⟩ := h
  cases rx
  obtain ⟨u, rfl, ru⟩ := rv.one
  cases ru
  obtain ⟨z, its, n, r, hl, e⟩ := I.lstM hH
  obtain ⟨its2, r2, ⟨⟨cls, dd, data, sl⟩, e2, hc, n2, hd⟩, z2⟩ := I.tuple hB
  obtain rfl : cls = .type "tuple" := hc
  obtain rfl : data = .seq its2.toArray n2 := hd
  have hl2 := r2.length
  have hsz : its.toArray.size + its2.toArray.size ≤ sizeLine := by rw [List.size_toArray, List.size_toArray]; omega
  have hlong : ¬ (!its.toArray.isEmpty && Builtin.List.listTooLong (its.toArray.size + its2.toArray.size)) = true := by
    rw [notLongL hsz, Bool.and_false]
    exact Bool.false_ne_true
  refine call_meets F.slot_list_extend ⟨_, e, rfl⟩ F.entry_list_extend (F.args_list_extend_2 _ _)
    (extend_tup l its.toArray n b its2.toArray n2 dd sl hlong (by rw [List.size_toArray]; omega) (by omega)) ⟨e, e2, ?_⟩
  refine ⟨.non, _, I.lset (its' := its ++ its2) hH e (by simp) (r.append r2) ?_, rfl, q⟩
  rw [List.length_append]
  omega
section
variable {K : PySem.W.Frag} {δ : DSt} {M : Mem} {P : SV → Mem → Prop} {ta te : TE}
theorem dE_extT (h : dE K ta δ M fun r M1 => ∃ a, r = .m a ∧ (∃ ds, M1 a = some ds) ∧ dE K te δ M1 fun s M2 => ∃ ds es, s = .d (.tuple es) ∧ M2 a = some ds ∧ ds.length + es.length < 100000 ∧ P (.d .none) (mset M2 a (ds ++ es))) :
    dE K (tBM K "list" (rExtT K) ta (tCons te tNil)) δ M P := fun σ H H1 e w Q q =>
  h σ H H1 e w _ fun va ra H' M' H2 ⟨a, ea, ⟨ds0, hm0⟩, hb⟩ s w' vva => by
    subst ea
    cases vva
    obtain ⟨_, vs0, g1, _⟩ := w'.cell a ds0 hm0
    refine ⟨Or.inl ⟨rfl, vs0, SqL.of g1⟩, hb σ H' H2 (e.mono s.pure) w' _ fun vb rb H'' M'' H3 hp s2 w2 vvb => ?_⟩
    obtain ⟨ds, es, rfl, hm, hl, pp⟩ := hp
    obtain ⟨_, vs, h1, h2⟩ := w2.cell a ds hm
    cases vvb with
    | tup k1 k2 =>
      obtain ⟨w3, s3⟩ := wrote_ok (vs := vs ++ _) w2 hm (h2.append k2)
      exact ⟨a, _, vs, _, rfl, rfl, h1, sqTx w2.ex k1, by rw [h2.length, k2.length]; exact Nat.le_trans (Nat.le_of_lt hl) (by decide), q _ _ _ _ _ pp ((s.trans w w' s2).trans w w2 s3) w3 .non⟩
/-- a list that will not change any more -/
theorem dE_varF {i : Nat} {a : Addr} {ds : List PyData} (h : δ[i]? = some (some (.m a))) (hm : M a = some ds) (p : P (.d (.list ds)) (mdel M a)) : dE K (tVar i) δ M P := fun σ H H1 e w Q q => by
  obtain ⟨v, h1, h2⟩ := e.at' i _ h
  obtain rfl : v = .ref a := h2
  obtain ⟨hn, vs, k1, k2⟩ := w.cell a ds hm
  have hao := w.lo hm
  refine ⟨_, h1, q _ _ (upd H a (.lst vs)) (mdel M a) H1 p ⟨Ex.new hn, fun b o e _ _ => e, fun b h1 h2 h4 h3 => ?_⟩ ⟨fun b o e => ?_, fun b es e => ?_, fun b ob e => ?_⟩ (.lst upd_same (k2.mono (Ex.new hn)))⟩
  · have n : b ≠ a := by rintro rfl; rw [hm] at h2; cases h2
    exact ⟨by rw [upd_ne n]; exact h1, by rw [mdel_ne n]; exact h2, h4⟩
  · by_cases n : b = a
    · subst n; rw [upd_same] at e; cases e; exact k1
    · rw [upd_ne n] at e; exact w.ex b o e
  · by_cases n : b = a
    · subst n; rw [mdel_same] at e; cases e
    · rw [mdel_ne n] at e
      obtain ⟨g1, us, g2, g3⟩ := w.cell b es e
      exact ⟨by rw [upd_ne n]; exact g1, us, g2, g3.mono (Ex.new hn)⟩
  · have n : b ≠ a := by rintro rfl; rw [mdel_o, hao] at e; cases e
    obtain ⟨g1, us, g2, g3⟩ := w.obj b ob e
    exact ⟨by rw [upd_ne n]; exact g1, us, g2, g3.mono (Ex.new hn)⟩
theorem mdel_mset {a : Addr} {ds : List PyData} (h : M a = none) : mdel (mset M a ds) a = M := Mem.ext' (fun c => by
  show (if c = a then none else (if c = a then some ds else M c)) = M c
  split
  · rename_i e; rw [e, h]
  · rfl) fun _ => rfl
theorem dE_ty {n : String} (p : P (.t n) M) : dE K (tC (.ty n)) δ M P := fun σ H H1 e w Q q => q _ _ H M H1 p Step.refl w rfl
def tyName : PyData → String
  | .none => "NoneType"
  | .bool _ => "bool"
  | .int _ => "int"
  | .str _ => "str"
  | .list _ => "list"
  | .tuple _ => "tuple"
  | .dict _ => "dict"
theorem ty_ok {H : Hp} {v : V} : ∀ {d : PyData}, Dq K H v d → TyX K H v (.type (tyName d))
  | .none, h => by cases h; exact .base .non
  | .bool _, h => by cases h; exact .base (.bl _)
  | .int _, h => by cases h; exact .base (.int _)
  | .str _, h => by cases h; exact .base (.str _)
  | .list _, h => by
    cases h with
    | lst h1 h2 => exact .base (.lst h1)
  | .tuple _, h => by
    cases h with
    | tup h1 h2 =>
      rcases h1 with (h1 | ⟨o, h1⟩) | ⟨o, its, n, h1, h3, _⟩
      · exact .base (.tup h1)
      · exact .fTuple h1
      · exact .kTuple h1 h3
  | .dict _, h => by cases h
theorem dC_isi {d : PyData} {n : String} {b : Bool} (e : kitB (tyName d) n = some b) (p : P (.d (.bool b)) M) : dC K (rIsi K) [.d d, .t n] M P := fun vs H H1 hv wk Q q => by
  cases hv with
  | cons h t => cases t with
    | cons h' t =>
      cases t
      obtain rfl : _ = V.ty n := h'
      exact ⟨_, _, _, _, b, rfl, .ty n, ty_ok (K := K) (Dq.mono wk.ex _ _ h), kit_ty e, q _ _ H M H1 p Step.refl wk (.bl _)⟩
theorem kcall_isi {X : Cx} (K : PySem.W.Frag) (h : X.K = K := by rfl) : CallR X (.builtin "isinstance") (rIsi K) := h ▸ call_isi
/-- a promise whose new list is taken as it is -/
theorem spOf.frz {S S' : SpD} (h : ∀ rs M P, S' rs M P → ∃ ds, P (.d (.list ds)) M ∧ S rs M (fun r M' => ∃ a, M a = none ∧ r = .m a ∧ M' = mset M a ds)) : ∀ vs H Q E, spOf K S' vs H Q E → spOf K S vs H Q E := fun vs H1 Q E ⟨rs, H, M, P, w, v, hS, q⟩ => by
  obtain ⟨ds, p, hS⟩ := h rs M P hS
  refine ⟨rs, H, M, _, w, v, hS, fun u r H' M' H2 hr s w' vu => ?_⟩
  obtain ⟨a, ha, rfl, rfl⟩ := hr
  obtain rfl : u = .ref a := vu
  obtain ⟨hn, vs, k1, k2⟩ := w'.cell a ds mset_same
  have hao := w'.lo (p := a) mset_same
  refine q _ _ (upd H' a (.lst vs)) M H2 p ⟨s.pure.trans (Ex.new hn), s.keep, fun b h1 h2 h4 h3 => ?_⟩ ⟨fun b o e => ?_, fun b es e => ?_, fun b ob e => ?_⟩ (.lst upd_same (k2.mono (Ex.new hn)))
  · obtain ⟨g1, g2, _⟩ := s.new b h1 h2 h4 h3
    have n : b ≠ a := by rintro rfl; rw [mset_same] at g2; cases g2
    exact ⟨by rw [upd_ne n]; exact g1, h2, h4⟩
  · by_cases n : b = a
    · subst n; rw [upd_same] at e; cases e; exact k1
    · rw [upd_ne n] at e; exact w'.ex b o e
  · have n : b ≠ a := by rintro rfl; rw [ha] at e; cases e
    obtain ⟨g1, us, g2, g3⟩ := w'.cell b es (by rw [mset_ne n]; exact e)
    exact ⟨by rw [upd_ne n]; exact g1, us, g2, g3.mono (Ex.new hn)⟩
  · have n : b ≠ a := by rintro rfl; rw [mset_o, e] at hao; cases hao
    obtain ⟨g1, us, g2, g3⟩ := w'.obj b ob e
    exact ⟨by rw [upd_ne n]; exact g1, us, g2, g3.mono (Ex.new hn)⟩
theorem Has.frz {P : Program} {w : World} {mg : Str → Option Value} {base : Heap} {k : Nat} {x : Str} {ps : List Str} {S S' : SpD} (h : Has P w K mg base k x ps S) (i : ∀ rs M P, S' rs M P → ∃ ds, P (.d (.list ds)) M ∧ S rs M (fun r M' => ∃ a, M a = none ∧ r = .m a ∧ M' = mset M a ds)) : Has P w K mg base k x ps S' := by
  obtain ⟨f, fd, a, b, c, d⟩ := h.ex
  exact ⟨f, fd, a.imp (spOf.frz i), b, c, d⟩
theorem dS_cut {t u : TS} {D : DEnds} (Mid : DSt → Mem → Prop) (h : dS K t { D with nx := Mid } δ M) (k : ∀ δ' M', Mid δ' M' → dS K u D δ' M') : dS K (tSeq t u) D δ M := fun D' σ H H1 e w o =>
  h { D' with nx := u D' } σ H H1 e w ⟨fun δ' M' σ' H' H2 p s e' w' => k δ' M' p D' σ' H' H2 e' w' (o.after w w' s), o.rt, o.bk, o.ct, o.xs⟩
end
end Sd
namespace Sd
open PySem L2 PySem.Spec PyProof.Rows
def txtOf : Value → Str
  | .str x _ => x
  | _ => ⟨#[]⟩
def RowT (w : World) (r : Int × Value) : Prop := ∃ x t, r = ((hashStr w x, Value.str x t) : Int × Value)
/-- what a table of texts keeps: xs the texts that came -/
structure TabT (w : World) (rs : Array (Int × Value)) (tb : SetTable) (xs : List Str) : Prop where
  row : ∀ r ∈ rs.toList, RowT w r
  nd : (rs.toList.map fun r => txtOf r.2).Nodup
  mem : ∀ x, x ∈ (rs.toList.map fun r => txtOf r.2) ↔ x ∈ xs
  few : rs.size ≤ xs.length
  low : rs.size < scanBound
  fit : tb.fits rs.size = true
  ris : Ris tb.place.toList
  led : w.params.followText "set-order" = true ∨ tb.led = true
structure SetT (w : World) (h : Heap) (a : Addr) (xs : List Str) : Prop where
  ex : ∃ ob rs ep tb, h.get? a = some ob ∧ ob.ExactSet ∧ ob.data = .set rs ep tb ∧ TabT w rs tb xs
theorem SetT.at {w : World} {h h' : Heap} {a : Addr} {xs : List Str} (z : SetT w h a xs) (k : ∀ o, h.get? a = some o → h'.get? a = some o) : SetT w h' a xs := by
  obtain ⟨ob, rs, ep, tb, e, r⟩ := z.ex
  exact ⟨ob, rs, ep, tb, k ob e, r⟩
end Sd
namespace Sd
open PySem L2 PySem.Spec PyProof.Rows
end Sd
namespace Sd
open PySem L2 PySem.Spec PyProof.Rows
end Sd
namespace Sd
open PySem L2 PySem.Spec PyProof.Rows
end Sd
namespace Sd
open PySem L2
section
variable {K : PySem.W.Frag} {δ : DSt} {M : Mem} {P : SV → Mem → Prop} {ta tb te tl : TE} {tt : TT}
theorem DqAll.reverse {H : Hp} : ∀ {vs : List V} {ds : List PyData}, DqAll K H vs ds → DqAll K H vs.reverse ds.reverse
  | _, [], h => by cases h; exact .nil
  | _, d :: ds, h => by
    cases h with
    | cons h1 h2 =>
      rw [List.reverse_cons, List.reverse_cons]
      exact (DqAll.reverse h2).append (.cons h1 .nil)
theorem put_new {kvs : List (Key × V)} {k : Key} {v : V} (h : k ∉ kvs.map Prod.fst) : putK kvs k v = kvs ++ [(k, v)] := by
  unfold putK
  rw [if_neg]
  intro c
  obtain ⟨p, hp, hk⟩ := List.any_eq_true.mp c
  exact h (List.mem_map.mpr ⟨p, hp, of_decide_eq_true hk⟩)
theorem merge_new : ∀ (more kvs : List (Key × V)), ((kvs ++ more).map Prod.fst).Nodup → mergeK kvs more = kvs ++ more
  | [], kvs, _ => (List.append_nil _).symm
  | p :: r, kvs, h => by
    show mergeK (putK kvs p.1 p.2) r = _
    have e : kvs ++ p :: r = (kvs ++ [p]) ++ r := by rw [List.append_assoc]; rfl
    rw [put_new (fun m => by
      rw [List.map_append, List.nodup_append] at h
      exact h.2.2 p.1 m p.1 (List.mem_map.mpr ⟨p, .head _, rfl⟩) rfl), merge_new r _ (by rw [← e]; exact h), ← e]
end
end Sd
namespace Sd
open PySem PySem.Spec PyProof.Rows L2
end Sd
namespace Sd
open PySem L2
end Sd
namespace Sd
open PySem L2
section
variable {K : PySem.W.Frag} {δ : DSt} {M : Mem} {P : SV → Mem → Prop} {te tl : TE} {tt : TT}
theorem LcW.weak {H H1 H2 : Hp} {D : Addr} {I I' : List PyData → Mem → Prop} {n n' : Nat} (p : LcW K H H1 M D I n H2) (hn : n ≤ n') (h : ∀ ac M', I ac M' → I' ac M') : LcW K H H1 M D I' n' H2 := by
  obtain ⟨acc, ds, M', H', pi, hl, rest⟩ := p
  exact ⟨acc, ds, M', H', h _ _ pi, Nat.le_trans hl hn, rest⟩
theorem LcW.at {H H1 H2 : Hp} {D a : Addr} {I : List PyData → Mem → Prop} {n : Nat} {o : HO} (p : LcW K H H1 M D I n H2) (h : H a = some o) : H2 a = some o := by
  obtain ⟨_, _, _, _, _, _, s3, w3, _⟩ := p
  exact w3.ex _ _ (s3.pure _ _ h)
end
end Sd
namespace Sd
open PySem L2
section
variable {X : Cx}
theorem kcr_any (K : PySem.W.Frag) (hc : X.calm = true := by rfl) (h : X.K = K := by rfl) : CallR X (.builtin "any") (rAny K) := h ▸ cr_any hc
end
section
variable {K : PySem.W.Frag} {δ : DSt} {M : Mem} {P : SV → Mem → Prop}
theorem truths_of {H : Hp} : ∀ {vs : List V} {bs : List Bool}, DqAll K H vs (bs.map .bool) → vs = bs.map V.bl
  | _, [], h => by cases h; rfl
  | _, b :: bs, h => by
    cases h with
    | cons h1 h2 => cases h1; rw [truths_of h2]; rfl
theorem dC_any {x : SV} {bs : List Bool} (s : SeqL M x (bs.map .bool)) (p : P (.d (.bool (bs.any id))) M) : dC K (rAny K) [x] M P := fun vs H H1 hv wk Q q => by
  cases hv with
  | cons h t =>
    cases t
    obtain ⟨a, vs, rfl, h1, h2⟩ := s.sq wk h
    rw [truths_of h2] at h1
    exact ⟨a, bs, rfl, SqL.of h1, q _ _ H M H1 p Step.refl wk (.bl _)⟩
end
end Sd
namespace Sd
open PySem L2 StX
section
variable {X : Cx}
theorem kpa_star (K : PySem.W.Frag) {e : Expr} {es : List Expr} {te : TE} {t : TA} {p : Pos} (he : PE X e te) (hr : PA X es t) (h : X.K = K := by rfl) (hs : starEach (.Starred e p :: es) X.env = (true, eval e X.env) :: starEach es X.env := by rfl) : PA X (.Starred e p :: es) (tStar K te t) := h ▸ pa_star he hr hs
end
section
variable {K : PySem.W.Frag} {δ : DSt} {M : Mem} {P : SV → Mem → Prop} {PA : List SV → Mem → Prop} {ta te : TE} {tr : TA} {g : TG} {t : TS} {D : DEnds}
theorem dA_star (h : dE K te δ M fun x M1 => ∃ ds, Seq M1 x ds ∧ dA K tr δ M1 fun xs M2 => PA (ds.map SV.d ++ xs) M2) : dA K (tStar K te tr) δ M PA := fun σ H H1 e w Q q =>
  h σ H H1 e w _ fun v x H' M' H2 hb s1 w1 vx => by
    obtain ⟨ds, sq, hr⟩ := hb
    obtain ⟨a, vs, rfl, h1, h2⟩ := sq.sq w1 vx
    refine ⟨a, vs, rfl, h1.symm.imp id SqL.of, hr σ H' H2 (e.mono s1.pure) w1 _ fun us xs H'' M'' H3 p s2 w2 vxs => ?_⟩
    refine q _ _ H'' M'' H3 p (s1.trans w w1 s2) w2 ?_
    have : ∀ {vs : List V} {ds : List PyData}, DqAll K H'' vs ds → SVsOk K H'' (vs ++ us) (ds.map SV.d ++ xs) := fun {vs ds} => by
      induction ds generalizing vs with
      | nil => intro h; cases h; exact vxs
      | cons d ds ih =>
        intro h
        cases h with
        | cons k1 k2 => exact .cons k1 (ih k2)
    exact this (h2.mono s2.pure)
end
end Sd
namespace Sd
open PySem L2
section
variable {X : Cx}
/-- x not in text, x one sign -/
def rNotInS : R2 := fun x y H Q => ∃ (c : Nat) (z : Str), x = .str ⟨#[c]⟩ ∧ y = .str z ∧ Q (.bl (!decide (c ∈ z.cps.toList))) H
theorem op_notInS : OpR X (compareOp .NotIn) rNotInS := by
  intro pins s σ H x y v u Q I rx ry h
  obtain ⟨c, z, rfl, rfl, q⟩ := h
  obtain ⟨t, rfl⟩ := rx
  obtain ⟨t', rfl⟩ := ry
  refine PySem.P.notIn_str (fin_bl I q ?_)
  rw [StrLaws.found_one]
end
end Sd
namespace Sd
open PySem L2 PySem.Spec PyProof.Rows
end Sd
namespace Sd
open PySem L2
def isNum : PyData → Bool
  | .int _ => true
  | .bool _ => true
  | _ => false
def isBl : PyData → Bool
  | .bool _ => true
  | _ => false
def isStr : PyData → Bool
  | .str _ => true
  | _ => false
def isTup : PyData → Bool
  | .tuple _ => true
  | _ => false
theorem kit_int : ∀ d, kitB (tyName d) "int" = some (isNum d)
  | .none => show kitB "NoneType" "int" = some false by decide +kernel
  | .bool _ => show kitB "bool" "int" = some true by decide +kernel
  | .int _ => show kitB "int" "int" = some true by decide +kernel
  | .str _ => show kitB "str" "int" = some false by decide +kernel
  | .list _ => show kitB "list" "int" = some false by decide +kernel
  | .tuple _ => show kitB "tuple" "int" = some false by decide +kernel
  | .dict _ => show kitB "dict" "int" = some false by decide +kernel
theorem kit_bool : ∀ d, kitB (tyName d) "bool" = some (isBl d)
  | .none => show kitB "NoneType" "bool" = some false by decide +kernel
  | .bool _ => show kitB "bool" "bool" = some true by decide +kernel
  | .int _ => show kitB "int" "bool" = some false by decide +kernel
  | .str _ => show kitB "str" "bool" = some false by decide +kernel
  | .list _ => show kitB "list" "bool" = some false by decide +kernel
  | .tuple _ => show kitB "tuple" "bool" = some false by decide +kernel
  | .dict _ => show kitB "dict" "bool" = some false by decide +kernel
theorem kit_str : ∀ d, kitB (tyName d) "str" = some (isStr d)
  | .none => show kitB "NoneType" "str" = some false by decide +kernel
  | .bool _ => show kitB "bool" "str" = some false by decide +kernel
  | .int _ => show kitB "int" "str" = some false by decide +kernel
  | .str _ => show kitB "str" "str" = some true by decide +kernel
  | .list _ => show kitB "list" "str" = some false by decide +kernel
  | .tuple _ => show kitB "tuple" "str" = some false by decide +kernel
  | .dict _ => show kitB "dict" "str" = some false by decide +kernel
theorem kit_tup : ∀ d, kitB (tyName d) "tuple" = some (isTup d)
  | .none => show kitB "NoneType" "tuple" = some false by decide +kernel
  | .bool _ => show kitB "bool" "tuple" = some false by decide +kernel
  | .int _ => show kitB "int" "tuple" = some false by decide +kernel
  | .str _ => show kitB "str" "tuple" = some false by decide +kernel
  | .list _ => show kitB "list" "tuple" = some false by decide +kernel
  | .tuple _ => show kitB "tuple" "tuple" = some true by decide +kernel
  | .dict _ => show kitB "dict" "tuple" = some false by decide +kernel
section
variable {X : Cx}
theorem kcr_all (K : PySem.W.Frag) (hc : X.calm = true := by rfl) (h : X.K = K := by rfl) : CallR X (.builtin "all") (rAll K) := h ▸ cr_all hc
end
section
variable {K : PySem.W.Frag} {δ : DSt} {M : Mem} {P : SV → Mem → Prop} {PB : Bool → Mem → Prop} {ta tb tc te tl : TE} {tt : TT} {g : TG}
theorem dR_I0b {f : Int → Int → Bool} {i j : Int} (p : P (.d (.bool (f i j))) M) : dR K (rI0 fun i j => .bl (f i j)) (.d (.int i)) (.d (.int j)) M P := fun v w H H1 hv hw wk Q q => by
  cases hv; cases hw
  exact ⟨i, j, rfl, rfl, q _ _ H M H1 p Step.refl wk (.bl _)⟩
theorem dR_ss {f : Str → Str → Bool} {x y : Str} (p : P (.d (.bool (f x y))) M) : dR K (fun x y H Q => ∃ i j, x = .str i ∧ y = .str j ∧ Q (.bl (f i j)) H) (.d (.str x)) (.d (.str y)) M P := fun v w H H1 hv hw wk Q q => by
  cases hv; cases hw
  exact ⟨x, y, rfl, rfl, q _ _ H M H1 p Step.refl wk (.bl _)⟩
theorem dR_notInS {c : Nat} {z : Str} (p : P (.d (.bool (!decide (c ∈ z.cps.toList)))) M) : dR K rNotInS (.d (.str ⟨#[c]⟩)) (.d (.str z)) M P := fun v w H H1 hv hw wk Q q => by
  cases hv; cases hw
  exact ⟨c, z, rfl, rfl, q _ _ H M H1 p Step.refl wk (.bl _)⟩
theorem dC_lenX {z : Str} (hz : z.length ≤ 1000000) (p : P (.d (.int z.length)) M) : dC K (fun xs H Q => ∃ z, xs = [.str z] ∧ z.length ≤ sizeLine ∧ Q (.int z.length) H) [.d (.str z)] M P := fun vs H H1 hv wk Q q => by
  cases hv with
  | cons h t =>
    cases t; cases h
    exact ⟨z, rfl, Nat.le_trans hz (by decide), q _ _ H M H1 p Step.refl wk (.int _)⟩
/-- a < b < c -/
theorem dE_chain {r r' : R2} (h : dE K ta δ M fun x M1 => dE K tb δ M1 fun y M2 => dR K r x y M2 fun z M3 => ∃ k, z = .d (.bool k) ∧ if k = true then dE K tc δ M3 fun u M4 => dR K r' y u M4 P else P (.d (.bool false)) M3) : dE K (tChain r r' ta tb tc) δ M P := fun σ H H1 e w Q q =>
  h σ H H1 e w _ fun v x Ha Ma H2 hb s1 w1 vx => hb σ Ha H2 (e.mono s1.pure) w1 _ fun u y Hb Mb H3 hr s2 w2 vy => hr v u Hb H3 (vx.mono s2.pure) vy w2 _ fun z rz Hc Mc H4 hz s3 w3 vz => by
    obtain ⟨k, rfl, hk⟩ := hz
    cases vz
    have st := (s1.trans w w1 s2).trans w w2 s3
    refine ⟨k, rfl, ?_⟩
    cases k with
    | false => exact q _ _ Hc Mc H4 hk st w3 (.bl _)
    | true => exact hk σ Hc H4 (e.mono st.pure) w3 _ fun t rt Hd Md H5 hd s4 w4 vt => hd u t Hd H5 ((vy.mono s3.pure).mono s4.pure) vt w4 Q fun o ro He Me H6 p s5 w5 vo => q o ro He Me H6 p ((st.trans w w3 s4).trans w w4 s5) w5 vo
theorem bools_of {H : Hp} : ∀ {vs : List V} {bs : List Bool}, DqAll K H vs (bs.map .bool) → vs = bs.map V.bl
  | _, [], h => by cases h; rfl
  | _, b :: bs, h => by
    cases h with
    | cons h1 h2 => cases h1; rw [bools_of h2]; rfl
theorem dC_all {x : SV} {bs : List Bool} (s : SeqL M x (bs.map .bool)) (p : P (.d (.bool (bs.all id))) M) : dC K (rAll K) [x] M P := fun vs H H1 hv wk Q q => by
  cases hv with
  | cons h t =>
    cases t
    obtain ⟨a, vs, rfl, h1, h2⟩ := s.sq wk h
    rw [bools_of h2] at h1
    exact ⟨a, bs, rfl, SqL.of h1, q _ _ H M H1 p Step.refl wk (.bl _)⟩
theorem dE_lcS {vs : List Nat} (hg : GW g vs) (h : dE K tl δ M fun r M1 => ∃ z : Str, r = .d (.str z) ∧ z.cps.size ≤ 40000 ∧ ∃ I : Nat → List PyData → Mem → Prop, I 0 [] M1 ∧
      (∀ (i c : Nat) acc M', z.cps[i]? = some c → I i acc M' → dG K g (.d (.str ⟨#[c]⟩)) (wipeD δ vs) M' fun δ2 M2 => dT K tt δ2 M2 fun b M3 => if b = true then dE K te δ2 M3 fun y M4 => ∃ d, y = .d d ∧ I (i + 1) (acc ++ [d]) M4 else I (i + 1) acc M3) ∧ ∀ acc M', I z.cps.size acc M' → Res P acc M') :
    dE K (tLc (iStr tl) g tt te vs) δ M P := fun σ H H1 e w Q q =>
  h σ H H1 e w _ fun v r H' M' H2 hb s w' vv => by
    obtain ⟨z, rfl, hz, I, i0, it, ie⟩ := hb
    cases vv
    refine ⟨z, rfl, fun Dl hD => ⟨fun i m H => m = z.cps.size - i ∧ i ≤ z.cps.size ∧ LcW K H' H2 M' Dl (I i) i H, ⟨_, rfl, Nat.zero_le _, lcw_start w' hD i0⟩, ?_⟩⟩
    rintro i m H3 ⟨rfl, hi, p⟩
    by_cases hlt : i < z.cps.size
    · refine .inr ⟨hlt, LcW K H' H2 M' Dl (I (i + 1)) (i + 1), fun H4 p' => ⟨_, by omega, rfl, hlt, p'⟩, fun x H4 y => ?_⟩
      obtain ⟨rfl, c, hc, rfl⟩ := y
      exact lcw_turn (x := .d (.str ⟨#[c]⟩)) hg (by omega) w' (e.mono s.pure) hD p (fun H' ex => .str _) (fun acc M' hI => it i c acc M' hc hI)
    · have e0 : i = z.cps.size := by omega
      subst e0
      exact .inl ⟨Nat.le_refl _, lcw_end w' hD p ie fun v r Ha Ma Hb pp s3 w3 vr => q v r Ha Ma Hb pp (s.trans w w' s3) w3 vr⟩
end
end Sd
namespace Sd
open PySem L2
end Sd
namespace Sd
open PySem PySem.Spec L2
end Sd
namespace Sd
open PySem PySem.Spec L2
open PyProof.Rows
end Sd
namespace Sd
open PySem L2
end Sd
namespace Sd
open PySem PySem.Spec PyProof.Rows L2
end Sd
namespace Sd
open PySem L2 StX
theorem kmt_indexD {X : Cx} (K : PySem.W.Frag) {k : Nat} (hr : Room k X.A) (h : X.K = K := by rfl) : MtR X "list.index" (rIndexD K) := h ▸ mt_indexD (by have := hr.un; omega)
section
variable {K : PySem.W.Frag} {δ : DSt} {M : Mem} {P : SV → Mem → Prop} {ta te : TE}
theorem dE_idx (h : dE K ta δ M fun r M1 => ∃ ds, r = .d (.list ds) ∧ dE K te δ M1 fun s M2 => ∃ (d : PyData) (j : Nat) (z : PyData), s = .d d ∧ SeqAt.shaped (.list ds) = true ∧ SeqAt.shaped d = true ∧ ds[j]? = some z ∧ PyData.eqv z d = true ∧
      (∀ (m : Nat) (z' : PyData), m < j → ds[m]? = some z' → PyData.eqv z' d = false) ∧ P (.d (.int (j : Nat))) M2) : dE K (tBM K "list" (rIndexD K) ta (tCons te tNil)) δ M P := fun σ H H1 e w Q q =>
  h σ H H1 e w _ fun va ra H' M' H2 ⟨ds, ea, hb⟩ s w' vva => by
    subst ea
    have vd : Dq K H' va (.list ds) := vva
    cases vva with
    | lst h1 h2 =>
      rename_i a vs
      refine ⟨Or.inl ⟨rfl, vs, SqL.of (w'.ex _ _ h1)⟩, hb σ H' H2 (e.mono s.pure) w' _ fun vb rb H'' M'' H3 hp s2 w2 vvb => ?_⟩
      obtain ⟨d, j, z, rfl, z1, z2, z3, z4, z5, p⟩ := hp
      exact ⟨a, vb, d, ds, j, z, rfl, rfl, Dq.dp _ _ (Dq.mono (s2.pure.trans w2.ex) _ _ vd), Dq.dp _ _ (Dq.mono w2.ex _ _ vvb), z1, z2, z3, z4, z5, q _ _ H'' M'' H3 p (s.trans w w' s2) w2 (.int _)⟩
theorem dat_map : ∀ (ds : List PyData) (rs : List SV), datAll (ds.map SV.d ++ rs) = (datAll rs).map (ds ++ ·)
  | [], rs => by cases h : datAll rs <;> simp [h]
  | d :: ds, rs => by
    show (datAll (ds.map SV.d ++ rs)).map (d :: ·) = _
    rw [dat_map ds rs]
    cases datAll rs <;> rfl
end
end Sd
namespace Sd
open PySem PyProof.Rows L2
/-- the error at a, in the air of X; Z: what is known of its object -/
structure Air (X : Cx) (Z : Obj → Prop) (W : L2.St → Hp → Prop) (a : Addr) (t : Shared) : Prop where
  ex : ∃ (B : Heap) (u : Shared) (ps : List (Addr × Obj)) (τ : L2.St) (G : Hp), Inv X ps τ G u ∧ (∀ b o, u.heap.get? b = some o → b ∉ frs X.stack → B.get? b = some o) ∧ u.heap.UpToSlots t.heap ∧ Sky B X.stack a Z X.env.locals t.heap ∧ G a = none ∧ t.os = u.os ∧ AllBare t.gens ∧ W τ G
theorem Air.of {X : Cx} {W : WX} {v : Value} {t : Shared} (h : L2N.XE X W v t) : ∃ a cls d, v = .ref a ∧ Air X (L2N.Zn cls d) (W cls d) a t := by
  obtain ⟨a, B, u, ps, τ, G, cls, d, e, r⟩ := h
  exact ⟨a, cls, d, e, ⟨B, u, ps, τ, G, r⟩⟩
theorem Air.to {X : Cx} {W : WX} {a : Addr} {cls : Value} {d : Option Addr} {t : Shared} (h : Air X (L2N.Zn cls d) (W cls d) a t) : L2N.XE X W (.ref a) t := by
  obtain ⟨B, u, ps, τ, G, r⟩ := h.ex
  exact ⟨a, B, u, ps, τ, G, cls, d, rfl, r⟩
section
variable {X : Cx} {Z : Obj → Prop} {a T : Addr} {oe oT : Obj} {ve vT : Array Value} {ps : List (Addr × Obj)} {τ : L2.St} {G : Hp} {u t : Shared} {B h : Heap}
/-- no record is a frame -/
theorem norec {l : List Env} {b : Addr} {o : Obj} {vs : Array Value} (ff : h.FunFrames B l) (e : h.get? b = some o) (d : o.data = .fields vs) : b ∉ frs l := fun hm => by
  obtain ⟨_, o', e', no⟩ := ff.mem hm
  exact no vs ((congrArg Obj.data (Option.some.inj (e'.symm.trans e))).trans d)
theorem nolocal (hf : X.env.frame = some X.env.locals) (n : a ∉ frs (X.env :: X.outer)) : a ≠ X.env.locals ∧ a ∉ X.fs := by
  constructor
  · rintro rfl
    exact n (List.mem_filterMap.mpr ⟨X.env, List.mem_cons_self, hf⟩)
  · intro k
    obtain ⟨e, h1, h2⟩ := List.mem_filterMap.mp k
    exact n (List.mem_filterMap.mpr ⟨e, List.mem_cons_of_mem _ h1, h2⟩)
theorem pin_rec (hf : X.env.frame = some X.env.locals) (e : h.get? a = some oe) (d : oe.data = .fields ve) (n : a ∉ frs (X.env :: X.outer)) (g : G a = none) : h.get? a = some oe ∧ G a = none ∧ a ≠ X.env.locals ∧ a ∉ X.fs ∧ ∀ v, oe.data ≠ .cell v :=
  ⟨e, g, (nolocal hf n).1, (nolocal hf n).2, fun v k => by rw [d] at k; cases k⟩
/-- the suite's start: the error and its trace stay as they are -/
theorem suite_two (I : Inv X ps τ G { t with heap := h }) (hf : X.env.frame = some X.env.locals) (ee : h.get? a = some oe) (de : oe.data = .fields ve) (ne : a ∉ frs (X.env :: X.outer)) (ge : G a = none) (eT : h.get? T = some oT) (dT : oT.data = .fields vT) (nT : T ∉ frs (X.env :: X.outer)) (gT : G T = none) :
    Inv (X.suite a ((a, oe) :: (T, oT) :: (X.pn ++ ps))) [] τ G { t with heap := h } := by
  refine ⟨I.ok.suite _ _, I.os, I.bare, I.base, I.loc, I.cell, I.free, I.freeC, fun q hq => ?_, I.hok, I.len⟩
  simp only [List.append_nil, List.mem_cons] at hq
  rcases hq with rfl | rfl | hq
  · exact pin_rec hf ee de ne ge
  · exact pin_rec hf eT dT nT gT
  · exact I.pin q hq
/-- behind the suite: the error goes on -/
theorem air_again {W : L2.St → Hp → Prop} (hs : X.stack = X.env :: X.outer) (hex : X.ex = []) (J0 : Inv X ps τ G u) (nb : ∀ b o, u.heap.get? b = some o → b ∉ frs X.stack → B.get? b = some o) (ba : B.get? a = none) (bT : B.get? T = none) {τ' : L2.St} {G' : Hp}
    (I : Inv X ps τ' G' t) (ee : t.heap.get? a = some oe) (de : oe.data = .fields ve) (ne : a ∉ frs (X.env :: X.outer)) (ge : G' a = none) (eT : t.heap.get? T = some oT) (dT : oT.data = .fields vT) (nT : T ∉ frs (X.env :: X.outer)) (gT : G' T = none)
    (hz : Z oe) (h1 : ve[1]? = some (.ref T)) (hTa : T ≠ a) (h3 : vT[3]? = some .none) (w : W τ' G') {M : Model} {A : Around} {E : Value → Shared → Prop} (tk : ∀ t', Air X Z W a t' → E (.ref a) t') {Q : Unit → Shared → Prop} (hQ : ∀ t', E (.ref a) t' → Q () t') :
    wpAny M A (setFlight (.ref a) (some X.env.locals)) Q E t := by
  have far : ∀ b o, u.heap.get? b = some o → b ≠ a ∧ b ≠ T := fun b o e => by
    by_cases hb : b ∈ frs X.stack
    · rw [hs] at hb
      exact ⟨fun k => ne (k ▸ hb), fun k => nT (k ▸ hb)⟩
    · have q := nb b o e hb
      refine ⟨?_, ?_⟩
      · rintro rfl; exact nomatch ba.symm.trans q
      · rintro rfl; exact nomatch bT.symm.trans q
  obtain ⟨R, r1, r2⟩ := restrict t.heap fun b => !(b == a) && !(b == T)
  have rin : ∀ b o, R.get? b = some o → t.heap.get? b = some o ∧ b ≠ a ∧ b ≠ T := fun b o e => by
    by_cases k : b ≠ a ∧ b ≠ T
    · exact ⟨(r1 b (by simp [k.1, k.2])).symm.trans e, k.1, k.2⟩
    · have : (!(b == a) && !(b == T)) = false := by
        by_cases k1 : b = a
        · simp [k1]
        · have k2 : b = T := Classical.byContradiction fun k2 => k ⟨k1, k2⟩
          simp [k2]
      exact nomatch (r2 b this).symm.trans e
  have rof : ∀ b o, b ≠ a → b ≠ T → t.heap.get? b = some o → R.get? b = some o := fun b o k1 k2 e => (r1 b (by simp [k1, k2])).trans e
  have I' : Inv X ps τ' G' { t with heap := R } := I.less (fun b o e => (rin b o e).1) rof ⟨oe, ve, ee, de⟩ ⟨oT, vT, eT, dT⟩ ge gT
    (fun b o e => (J0.base.there b o e (by rw [hex]; exact List.not_mem_nil)).elim fun o' q => far b o' q) fun q hq => far q.1 q.2 (J0.pin q hq).1
  have none_of : ∀ b, (b = a ∨ b = T) → (PySem.W.hideAll R (frs X.stack)).get? b = none := fun b hb => by
    cases q : (PySem.W.hideAll R (frs X.stack)).get? b with
    | none => rfl
    | some o => exact absurd hb fun k => k.elim (rin b o (PySem.W.of_hideAll _ q)).2.1 (rin b o (PySem.W.of_hideAll _ q)).2.2
  have fl : HandSPX.FlyingZ (PySem.W.hideAll R (frs X.stack)) (X.env :: X.outer) a Z t.heap :=
    ⟨fun b o e => (rin b o (PySem.W.of_hideAll _ e)).1, none_of a (.inl rfl), hs ▸ funFrames_none I.stack fun b hb => PySem.W.hideAll_none _ hb, oe, ve, T, oT, vT, ee, hz, de, h1, none_of T (.inr rfl), hTa, eT, dT, h3⟩
  refine HandSPX.setFlight_upZ fl fun h7 hh up => hQ _ (tk _ ⟨_, { t with heap := R }, ps, τ', G', I', fun b o e hb => PySem.W.hideAll_get _ e hb, ?_, .inr (.inr ?_), ge, rfl, I.bare, w⟩)
  · exact Heap.UpToSlots.trans (Heap.UpToSlots.of_keeps fun b o e => (rin b o e).1) up
  · rw [← hs] at hh
    exact hh
/-- the error meets the finally: noted, the suite run, on it goes -/
theorem fin_air {f₀ : Stmt} {fs : List Stmt} {tfs : TS} {D : Ends} {Wo : L2.St → Hp → Prop} (hZ : PXN.Steady1 Z) (hs : X.stack = X.env :: X.outer) (hf : X.env.frame = some X.env.locals) (hex : X.ex = []) (ok : X.Ok) (tk : ∀ t', Air X Z Wo a t' → X.xe (.ref a) t')
    (hsu : ∀ (a : Addr) (pn : List (Addr × Obj)), PSs (X.suite a pn) (f₀ :: fs) tfs) {xe : Value → Shared → Prop} (x : Air (X.tr (X.pn ++ ps) xe) Z (fun σ H => tfs { nx := Wo, rt := fun _ _ => False } σ H) a t) :
    wpAny (model X.prog X.w) X.A (noteFrame (.ref a) X.env) (fun _ t2 => FinallyRaised X.prog X.w X.A X.xe X.env (f₀ :: fs) (SP X ps D) (.ref a) t2) (FinallyRaised X.prog X.w X.A X.xe X.env (f₀ :: fs) (SP X ps D)) t := by
  obtain ⟨B, u, ps', τ, G, J', nb, up, sky, ga, os, ag, hw⟩ := x.ex
  have J : Inv X ps τ G u := J'.ofTry ok
  have hfr' : X.A.frames = some (X.env :: X.outer) := ok.frames.trans (congrArg some hs)
  have sky2 : Sky B (X.env :: X.outer) a Z X.env.locals t.heap := hs ▸ sky
  have key : ∀ h1, HandSPX.HeldZ B (X.env :: X.outer) a Z X.env.locals h1 → t.heap.UpToSlots h1 → FinallyRaised X.prog X.w X.A X.xe X.env (f₀ :: fs) (SP X ps D) (.ref a) { t with heap := h1 } := fun h1 held up1 => by
    refine ⟨ref_ne_byPass a, HandSPX.againZ hf held.2.2.2 (HandSPX.landsZ held fun h3 fl up3 => ?_)⟩
    have I3 : Inv X ps τ G { t with heap := h3 } := J.landed nb fl.1 ((up.trans up1).trans up3) os ag
    obtain ⟨st, ba, ff, oe, ve, T, oT, vT, ee, hz, de, h1, bT, hTa, eT, dT, hT3⟩ := fl
    have ne := norec ff ee de
    have nT := norec ff eT dT
    have I4 := suite_two I3 hf ee de ne ga eT dT nT ((J.inGround nb).gone bT)
    refine wpAny_mono ((hsu a _).run [] _ τ G _ I4 hw) (fun fl2 t6 sp => ?_) fun _ _ k => k.elim
    cases fl2 with
    | ret v => obtain ⟨_, _, _, _, _, k⟩ := sp; exact k.elim
    | brk => obtain ⟨_, _, _, k⟩ := sp; exact k.elim
    | cont => obtain ⟨_, _, _, k⟩ := sp; exact k.elim
    | next =>
      obtain ⟨τ6, G6, I6, w6⟩ := sp
      obtain ⟨ea6, ga6, _⟩ := I6.pin (a, oe) (by simp)
      obtain ⟨eT6, gT6, _⟩ := I6.pin (T, oT) (by simp)
      have J6 : Inv X ps τ6 G6 t6 := ⟨ok, I6.os, I6.bare, I6.base, I6.loc, I6.cell, I6.free, I6.freeC, fun q hq => I6.pin q (by rw [List.append_nil]; exact List.mem_cons_of_mem _ (List.mem_cons_of_mem _ hq)), I6.hok, I6.len⟩
      show wpAny _ X.A (PySem.passOn "try.finally" (.ref a) X.env) _ _ t6
      have go : ∀ {Q : Flow → Shared → Prop}, wpAny (model X.prog X.w) X.A (setFlight (.ref a) X.env.frame) (fun _ t7 => wpAny (model X.prog X.w) X.A (throw (.ref a)) Q X.xe t7) X.xe t6 := fun {Q} => by
        rw [hf]
        exact air_again hs hex J nb ba bT J6 ea6 de ne ga6 eT6 dT nT gT6 hz h1 hTa hT3 w6 tk fun _ k => wpAny_throw k
      unfold PySem.passOn
      refine wpAny_bind (wpAny_field ea6 de h1 ?_)
      rw [if_neg (by simp)]
      first
        | exact wpAny_bind go
        | exact wpAny_bind (wpAny_pure (wpAny_bind go))
  rcases sky2 with ⟨hB, hn, hl, oe, ve, ee, hz, de, h1⟩ | fl | held
  · exact PXN.look_newZ hZ hfr' hl hf ee hB hn de h1 hz key
  · exact PXN.looks_onZ hZ hfr' hf fl key
  · exact HandSPX.againZ hf held.2.2.2 (key t.heap held (Heap.UpToSlots.refl _))
end
/-- what the clauses wish, one behind the other; the name e has the slot i -/
def wAsN (K : PySem.W.Frag) (i : Nat) (Wo : WX) (D : Ends) : List (Value × (Addr → Value → Option Addr → TS)) → WX
  | [] => Wo
  | (c, ts) :: r => fun cls d σ H => ∃ b, PySem.W.exmOne K cls c = some b ∧ (b = false → wAsN K i Wo D r cls d σ H) ∧
    (b = true → ∀ a, H a = none → ts a cls d { nx := fun τ G => D.nx (τ.set i none) G, rt := D.rt, bk := fun τ G => D.bk (τ.set i none) G, ct := fun τ G => D.ct (τ.set i none) G } (σ.set i (some (.ref a))) H)
inductive Cls3 (X : Cx) (n : Str) : List ExceptHandler → List (Value × (Addr → Value → Option Addr → TS)) → Prop
  | nil : Cls3 X n [] []
  | cons {x : Str} {c : Value} {ts : Addr → Value → Option Addr → TS} {b : Stmt} {bs : List Stmt} {p q : Pos} {hds : List ExceptHandler} {l : List (Value × (Addr → Value → Option Addr → TS))} (hc : Names X x c)
      (hsu : ∀ (a : Addr) (o : Obj) (cls : Value) (d : Option Addr) (pn : List (Addr × Obj)), L2N.Zn cls d o → (∃ vs, o.data = .fields vs) → PSs (X.suite a ((a, o) :: pn)) (b :: bs) (ts a cls d)) (r : Cls3 X n hds l) : Cls3 X n (.ExceptHandler (some (.Name x p)) (some n) (b :: bs) q :: hds) ((c, ts) :: l)
section
variable {X : Cx} {n : Str} {i : Nat} {body : List Stmt} {h₀ : ExceptHandler} {hds : List ExceptHandler} {l : List (Value × (Addr → Value → Option Addr → TS))} {pos : Pos} {tb : WX → TS} {Wo : WX}
theorem loads_class {pins : List (Addr × Obj)} {σ : L2.St} {H : Hp} {s : Shared} {x : Str} {c : Value} {p : Pos} {A : Around} {Q E : Value → Shared → Prop} (I : Inv X pins σ H s) (hA : X.A = A) (h : Names X x c) (q : Q c s) : wpAny (model X.prog X.w) A (eval (.Name x p) X.env) Q E s := by
  subst hA
  obtain ⟨hg, hd, hm | ⟨hm, hv, hn⟩⟩ := h
  · exact ld_glob I hg hm q hd
  · exact ld_blt I hg hm hv q hn hd
/-- one behind the other, the error on the ground -/
theorem by_clause {pins : List (Addr × Obj)} {a : Addr} {cls : Value} {d : Option Addr} {B : Heap} {u t : Shared} {τ : L2.St} {G : Hp} {D : Ends} (hs : X.stack = X.env :: X.outer) (hf : X.env.frame = some X.env.locals) (hN : X.N.Nodup) (hi : X.N[i]? = some n) (hl : X.env.kindOf n = some .local)
    (tk : L2N.Takes X Wo) (J : Inv X pins τ G u) (nb : ∀ b o, u.heap.get? b = some o → b ∉ frs X.stack → B.get? b = some o) (up : u.heap.UpToSlots t.heap) (os : t.os = u.os) (ag : AllBare t.gens) (ga : G a = none) (fl : HandSPX.FlyingZ B (X.env :: X.outer) a (L2N.Zn cls d) t.heap) :
    ∀ {hds : List ExceptHandler} {l : List (Value × (Addr → Value → Option Addr → TS))}, Cls3 X n hds l → wAsN X.K i Wo D l cls d τ G → wpAny (model X.prog X.w) X.A (handleBy (.ref a) X.env hds) (SP X pins D) X.xe t := by
  have J3 : Inv X pins τ G t := J.landed nb fl.1 up os ag
  obtain ⟨o3, v3, e3, z3, d3⟩ := fl.there
  have no := norec fl.2.2.1 e3 d3
  have S3 := J3.suite e3 d3 ga (nolocal hf no).1 (nolocal hf no).2
  intro hds l hk
  induction hk with
  | nil =>
    intro w
    refine wpAny_handleBy_nil ?_
    have go : ∀ {Q : Flow → Shared → Prop}, wpAny (model X.prog X.w) X.A (setFlight (.ref a) X.env.frame) (fun _ t7 => wpAny (model X.prog X.w) X.A (throw (.ref a)) Q X.xe t7) X.xe t := fun {Q} => by
      rw [hf]
      refine HandSPX.setFlight_upZ fl fun h4 hh up4 => wpAny_throw (tk _ _ (Air.to ⟨B, u, pins, τ, G, J, nb, up.trans up4, .inr (.inr (hs.symm ▸ hh)), ga, os, ag, w⟩))
    obtain ⟨_, _, _, oe, vs, T, oT, vT, he, hz, hd, h1, _⟩ := fl
    unfold PySem.passOn
    refine wpAny_bind (wpAny_field he hd h1 ?_)
    rw [if_neg (by simp)]
    first
      | exact wpAny_bind go
      | exact wpAny_bind (wpAny_pure (wpAny_bind go))
  | @cons x c ts b₀ bs p q hds2 l2 hc hsu r ih =>
    rintro ⟨b, hb, hno, hyes⟩
    have ty : PySem.W.Looks (model X.prog X.w) t.heap (typeOf (.ref a)) cls := fun A Q E s k q => wpAny_typeOf_ref (k _ _ e3) (by rw [z3.1]; exact q)
    refine wpAny_handleBy_cons (codeAny_handlers_test (loads_class (X := X.suite a ((a, o3) :: (X.pn ++ pins))) S3 rfl hc ((PySem.W.exm_one J3.kIn ty hb).here ?_))) (by intro k; cases k)
    cases b with
    | false => exact ih (hno rfl)
    | true =>
      refine codeAny_handlers_suite_as (HandSPX.lands_againZ fl fun h4 fl4 up4 => ?_)
      obtain ⟨o4, v4, e4, z4, d4⟩ := fl4.there
      have S4 := (J.landed (s' := { t with heap := h4 }) nb fl4.1 (up.trans up4) os ag).suite e4 d4 ga (nolocal hf no).1 (nolocal hf no).2
      refine store_ok (X := X.suite a ((a, o4) :: (X.pn ++ pins))) (v := .ref a) S4 hN hi (.inl hl) rfl (fun s5 S5 => ?_) (.inr hl)
      refine wpAny_mono ((hsu a o4 cls d (X.pn ++ pins) z4 ⟨_, d4⟩).run [] s5 _ G _ S5 (hyes rfl a ga)) (fun fl6 s6 sp => ?_) fun _ _ k => k.elim
      have bye : ∀ {σ6 : L2.St} {H6 : Hp} {Q : Shared → Prop}, Inv (X.suite a ((a, o4) :: (X.pn ++ pins))) [] σ6 H6 s6 → (∀ s7, Inv X pins (σ6.set i none) H6 s7 → Q s7) → wpAny (model X.prog X.w) X.A (do bindName X.env n .none; unbindBehindTheSuite X.env n q) (fun _ s7 => Q s7) X.xe s6 :=
        fun {σ6 H6 Q} S6 hq => gone_ok (S6.unsuite J.ok) hN hi hl hq
      cases fl6 with
      | next => obtain ⟨σ6, H6, S6, k⟩ := sp; exact bye S6 fun s7 J7 => ⟨_, _, J7, k⟩
      | brk => obtain ⟨σ6, H6, S6, k⟩ := sp; exact bye S6 fun s7 J7 => ⟨_, _, J7, k⟩
      | cont => obtain ⟨σ6, H6, S6, k⟩ := sp; exact bye S6 fun s7 J7 => ⟨_, _, J7, k⟩
      | ret v => obtain ⟨v6, σ6, H6, S6, r6, k⟩ := sp; exact bye S6 fun s7 J7 => ⟨_, _, _, J7, r6, k⟩
theorem ps_asN (hs : X.stack = X.env :: X.outer) (hf : X.env.frame = some X.env.locals) (hN : X.N.Nodup) (hi : X.N[i]? = some n) (hl : X.env.kindOf n = some .local) (tk : L2N.Takes X Wo)
    (hb : ∀ (W : WX) (pn : List (Addr × Obj)) (xe : Value → Shared → Prop), L2N.Takes (X.tr pn xe) W → PassesOwn (model X.prog X.w) X.A X.env xe → PSs (X.tr pn xe) body (tb W)) (hh : Cls3 X n (h₀ :: hds) l) :
    PS X (.Try body (h₀ :: hds) [] [] pos) (fun D σ H => tb (wAsN X.K i Wo D l) D σ H) := ⟨fun pins s σ H D I h => by
  have ok := I.ok
  have run := (hb (wAsN X.K i Wo D l) (X.pn ++ pins) (fun v s1 => wpAny (model X.prog X.w) X.A (noteFrame v X.env) (fun _ s2 => wpAny (model X.prog X.w) X.A (setFlight v none) (fun _ s3 => wpAny (model X.prog X.w) X.A (handleBy v X.env (h₀ :: hds)) (SP X pins D) X.xe s3) X.xe s2) X.xe s1) (fun v t xx => by
    obtain ⟨a, B, u, ps, τ, G, cls, d, rfl, J, nb, up, sky, ga, os, ag, w⟩ := xx
    refine L2N.Sky.land L2N.Zn.steady (ok.frames.trans (congrArg some hs)) hf (show Sky B (X.env :: X.outer) a (L2N.Zn cls d) X.env.locals t.heap from hs ▸ sky) fun h3 fl3 up3 => ?_
    exact by_clause (t := { t with heap := h3 }) hs hf hN hi hl tk (J.ofTry ok) nb (up.trans up3) os ag ga fl3 hh w) PassesOwn.looking).run [] s σ H D (I.toTry _) h
  refine wpAny_Try_except (wpAny_mono run (fun fl s1 sp => ?_) fun _ _ k => k)
  cases fl with
  | next => obtain ⟨τ, G, J, k⟩ := sp; exact wpAny_execs_nil ⟨τ, G, J.ofTry ok, k⟩
  | brk => obtain ⟨τ, G, J, k⟩ := sp; exact ⟨τ, G, J.ofTry ok, k⟩
  | cont => obtain ⟨τ, G, J, k⟩ := sp; exact ⟨τ, G, J.ofTry ok, k⟩
  | ret v => obtain ⟨v, τ, G, J, r, k⟩ := sp; exact ⟨v, τ, G, J.ofTry ok, r, k⟩⟩
end
theorem okN {P : Program} {w : World} {K : PySem.W.Frag} {mg : Str → Option Value} {base : Heap} {x qual : Str} {st : Stmt} {f : Addr} {fd : FuncData} {N ps : List Str} {k : Nat} {sp : Sp} (F : Fun K x qual st f fd) (sc : FnScope N ps (defScope st)) (len : ∀ vs H Q E, sp vs H Q E → vs.length = ps.length)
    (hb : ∀ (cdv : Value) (A : Around) (outer : List Env) (s : Shared) (H : Hp) (vs : List V) (Q : VK) (E : XK), Room k (A.deeper (envOfC qual (defScope st) s.heap.objs.size f cdv)) → sp vs H Q E → ∃ t, PSs (cxOf (L2N.CX P w) P w K mg base N qual (defScope st) f cdv A outer s H E) (defBody st) t ∧ t { nx := fun _ H' => Q .non H', rt := Q } (L2.start N vs) H) :
    FnOk P w K mg base (L2N.CX P w) (k + 1) f fd ps sp := by
  obtain ⟨oc, od, kV, doc, pm, an, cdv, ct, sl, rfl, lk, cd⟩ := F.ex
  exact fn_of lk cd sc len fun A outer s H vs Q E => hb cdv A outer s H vs Q E
theorem passN {X : Cx} : Passes (L2N.CX X.prog X.w) X E0 := fun _ _ _ _ _ _ _ h => by
  obtain ⟨_, _, _, _, _, _, _, _, _, _, _, _, k⟩ := h
  exact k.elim
end Sd
namespace Sd
open PySem L2 PyProof.Rows
abbrev StS := L2.St
/-- a promise over data of a def that may raise: what is wanted behind, and of an error -/
abbrev SpX := List SV → Mem → (SV → Mem → Prop) → (Value → Option Addr → Mem → Prop) → Prop
def spOfX (K : PySem.W.Frag) (S : SpX) : Sp := fun vs H1 Q E => ∃ (rs : List SV) (H : Hp) (M : Mem) (P : SV → Mem → Prop) (PX : Value → Option Addr → Mem → Prop), WOk K H M H1 ∧ SVsOk K H vs rs ∧ S rs M P PX ∧
  (∀ v r H' M' H2, P r M' → Step H H1 M H' H2 M' → WOk K H' M' H2 → SVOk K H' v r → Q v H2) ∧ ∀ cls d H' M' H2, PX cls d M' → Step H H1 M H' H2 M' → WOk K H' M' H2 → E cls d H2
def xtOf (PX : Value → Option Addr → Mem → Prop) (cls : Value) (d : Option Addr) (M' : Mem) : Prop := ∃ M0, PX cls d M0 ∧ MSub M0 M'
theorem xtOf.of {PX : Value → Option Addr → Mem → Prop} {cls : Value} {d : Option Addr} {M : Mem} (h : PX cls d M) : xtOf PX cls d M := ⟨M, h, MSub.refl⟩
section
variable {K : PySem.W.Frag} {P0 : Program} {w0 : World} {mg : Str → Option Value} {base : Heap}
theorem okX_of {x qual : Str} {st : Stmt} {f : Addr} {fd : FuncData} {N ps : List Str} {k : Nat} {S : SpX} (F : Fun K x qual st f fd) (sc : FnScope N ps (defScope st)) (len : ∀ rs M P PX, S rs M P PX → rs.length = ps.length)
    (hbody : ∀ (cdv : Value) (A : Around) (outer : List Env) (s : Shared) (H : Hp) (E : XK), Room k (A.deeper (PyProof.Rows.envOfC qual (defScope st) s.heap.objs.size f cdv)) →
      ∃ t, PSs (cxOf (L2N.CX P0 w0) P0 w0 K mg base N qual (defScope st) f cdv A outer s H E) (defBody st) t ∧
        ∀ rs M P PX, S rs M P PX → dS K t { nx := fun _ M' => rtOf P (.d .none) M', rt := rtOf P, xs := fun cls d _ M' => xtOf PX cls d M', wx := fun cls d _ H' => E cls d H' } (startD N.length rs) M) :
    FnOk P0 w0 K mg base (L2N.CX P0 w0) (k + 1) f fd ps (spOfX K S) := by
  refine okN F sc (fun vs H Q E h => ?_) (fun cdv A outer s H vs Q E hr h => ?_)
  · obtain ⟨rs, H', M, P, PX, _, v, hS, _⟩ := h
    rw [v.length]
    exact len rs M P PX hS
  · obtain ⟨rs, H', M, P, PX, wk, v, hS, q, qx⟩ := h
    obtain ⟨t, h1, h2⟩ := hbody cdv A outer s H E hr
    refine ⟨t, h1, h2 rs M P PX hS _ (L2.start N vs) H' H (start_ok v) wk ⟨fun δ' M' σ' H2 H3 p st e w' => ?_, fun r v H2 M' H3 p st w' vv => ?_, fun _ _ _ _ _ p => p.elim, fun _ _ _ _ _ p => p.elim, fun cls d δ' M' σ' H2 H3 p st e w' => ?_⟩⟩
    · obtain ⟨M0, p, ms⟩ := p
      obtain ⟨s1, w1⟩ := cut_ok ms st w'
      exact q _ _ H2 M0 H3 p s1 w1 .non
    · obtain ⟨M0, p, ms⟩ := p
      obtain ⟨s1, w1⟩ := cut_ok ms st w'
      exact q _ _ H2 M0 H3 p s1 w1 vv
    · obtain ⟨M0, p, ms⟩ := p
      obtain ⟨s1, w1⟩ := cut_ok ms st w'
      exact qx _ _ H2 M0 H3 p s1 w1
/-- a method as others call it -/
structure HasM (P : Program) (w : World) (K : PySem.W.Frag) (mg : Str → Option Value) (base : Heap) (k : Nat) (C : Addr) (m : Str) (ps : List Str) (S : SpX) : Prop where
  ex : ∃ f fd, FnOk P w K mg base (L2N.CX P w) k f fd ps (spOfX K S) ∧ Meth K C m f ∧ Binds K fd ps []
/-- a def that may raise, as others call it -/
structure HasX (P : Program) (w : World) (K : PySem.W.Frag) (mg : Str → Option Value) (base : Heap) (k : Nat) (x : Str) (ps : List Str) (S : SpX) : Prop where
  ex : ∃ f fd, FnOk P w K mg base (L2N.CX P w) k f fd ps (spOfX K S) ∧ mg x = some (.ref f) ∧ PySem.W.keepIn K (.ref f) = true ∧ Binds K fd ps []
end
/-- o.m(..), what it raises wished for at the slots as they stand -/
def tMeX (C : Addr) (m : Str) (sp : Sp) (E : StS → XK) (ta : TE) (t : TA) : TE := fun σ H Q => ta σ H fun x H1 => ∃ a dx fs, x = .ref a ∧ H1 a = some (.ins C dx fs) ∧ fs.lookup m = none ∧ t σ H1 fun vs H2 => sp (x :: vs) H2 Q (E σ)
section
variable {X : Cx} {k : Nat} {C : Addr} {ps : List Str} {S : SpX} {m : Str} {pos apos : Pos} {e o : Expr} {es : List Expr} {ta : TE} {t : TA} {pl : Sem Bool} {W : WX}
theorem run_meX {f : Addr} {fd : FuncData} {pins : List (Addr × Obj)} {s : Shared} {σ : StS} {H : Hp} {Q : VK} {CXg : CXT} {sp : Sp} {E : StS → XK} (I : Inv X pins σ H s) (he : PE X o ta) (c : Cls X.K C) (hm : Meth X.K C m f) (F : FnOk X.prog X.w X.K X.mg X.base CXg k f fd ps sp) (hr : Room k X.A) (hb : Binds X.K fd ps []) (hx : ∀ σ, PassesAt CXg X σ (E σ)) (ha : PA X es t) (hstar : ∀ (s1 : Shared) (H1 : Hp) (R : Value → Shared → Prop) (a : Addr), Inv X pins σ H1 s1 → wpAny (model X.prog X.w) X.A (spliced (backTo pos (starEach es X.env))) (fun us s2 => X.K.In s2.heap ∧ wpAny (model X.prog X.w) X.A (call (.ref f) (.ref a :: us)) R X.xe s2) X.xe s1 → wpAny (model X.prog X.w) X.A (callWith pos (.ref f) [.ref a] (backTo pos (starEach es X.env)) (backToKw pos (keywordEach [] X.env))) R X.xe s1)
    (h : tMeX C m sp E ta t σ H Q)
    (ht : eval (.Call (.Attribute o m apos) es [] pos) X.env = (do
      let ov ← eval o X.env
      standAt apos.atName
      let (f, first) ← holding [ov] (getMethod ov m pl)
      callWith pos f first (backTo pos (starEach es X.env)) (backToKw pos (keywordEach [] X.env)))) :
    wpAny (model X.prog X.w) X.A (eval (.Call (.Attribute o m apos) es [] pos) X.env) (EP X pins σ Q) X.xe s := by
  refine PySem.W.methodCall_KW (pl := pl) (thn (he.run pins s σ H _ I h) fun u s1 ⟨x, H1, I1, rx, a, dx, fs, ex, ea, l, q⟩ => ?_) ht
  subst ex
  obtain rfl : u = Value.ref a := rx
  refine getmeth_ok I1 ea c hm l ?_
  refine hstar s1 H1 _ a I1 (thn (ha.run pos pins s1 σ H1 _ I1 q) fun us s2 ⟨vs, H2, I2, r, q2⟩ => ⟨I2.kIn, ?_⟩)
  exact run_fnS (us := .ref a :: us) (vs := .ref a :: vs) F hr hb (hx σ) I2 (.cons rfl r) q2
theorem pe_mX {K : PySem.W.Frag} (he : PE X o ta) (c : Cls K C) (h : HasM X.prog X.w K X.mg X.base k C m ps S) (hr : Room k X.A) (tk : L2N.Takes X W) (ha : PA X (e :: es) t) (hK : X.K = K := by rfl)
    (hst : starEach (e :: es) X.env = (false, eval e X.env) :: starEach es X.env := by rfl) (hpl : (backTo pos (starEach es X.env)).any (·.1) = false := by rfl)
    (ht : eval (.Call (.Attribute o m apos) (e :: es) [] pos) X.env = (do
      let ov ← eval o X.env
      standAt apos.atName
      let (f, first) ← holding [ov] (getMethod ov m pl)
      callWith pos f first (backTo pos (starEach (e :: es) X.env)) (backToKw pos (keywordEach [] X.env))) := by rfl) :
    PE X (.Call (.Attribute o m apos) (e :: es) [] pos) (tMeX C m (spOfX K S) (WE W) ta t) := by
  subst hK
  obtain ⟨f, fd, F, hm, hb⟩ := h.ex
  exact ⟨fun pins s σ H Q I q => run_meX (pl := pl) (CXg := L2N.CX X.prog X.w) I he c hm F hr hb (fun σ => L2N.passAt tk σ) ha (fun s1 H1 R a I1 z => PySem.W.callWith_K (first := [.ref a]) (h₀ := X.base) I1.ok.mod.kin hm.kp z hst hpl) q ht⟩
theorem pe_mX0 {K : PySem.W.Frag} (he : PE X o ta) (c : Cls K C) (h : HasM X.prog X.w K X.mg X.base k C m ps S) (hr : Room k X.A) (tk : L2N.Takes X W) (hK : X.K = K := by rfl)
    (ht : eval (.Call (.Attribute o m apos) [] [] pos) X.env = (do
      let ov ← eval o X.env
      standAt apos.atName
      let (f, first) ← holding [ov] (getMethod ov m pl)
      callWith pos f first (backTo pos (starEach [] X.env)) (backToKw pos (keywordEach [] X.env))) := by rfl) :
    PE X (.Call (.Attribute o m apos) [] [] pos) (tMeX C m (spOfX K S) (WE W) ta tNil) := by
  subst hK
  obtain ⟨f, fd, F, hm, hb⟩ := h.ex
  refine ⟨fun pins s σ H Q I q => ?_⟩
  refine PySem.W.methodCall_KW (pl := pl) (thn (he.run pins s σ H _ I q) fun u s1 ⟨x, H1, I1, rx, a, dx, fs, ex, ea, l, q⟩ => ?_) ht
  subst ex
  obtain rfl : u = Value.ref a := rx
  refine getmeth_ok I1 ea c hm l ?_
  exact PySem.W.callWith_K0 (first := [.ref a]) I1.kIn hm.kp (run_fnS (us := [.ref a]) (vs := [.ref a]) F hr hb (L2N.passAt tk σ) I1 (.cons rfl .nil) q)
theorem pe_m0 {K : PySem.W.Frag} (he : PE X o ta) (c : Cls K C) (h : HasM X.prog X.w K X.mg X.base k C m ps S) (hr : Room k X.A) (hK : X.K = K := by rfl)
    (ht : eval (.Call (.Attribute o m apos) [] [] pos) X.env = (do
      let ov ← eval o X.env
      standAt apos.atName
      let (f, first) ← holding [ov] (getMethod ov m pl)
      callWith pos f first (backTo pos (starEach [] X.env)) (backToKw pos (keywordEach [] X.env))) := by rfl) :
    PE X (.Call (.Attribute o m apos) [] [] pos) (tMeth C m (spOfX K S) [] E0 ta tNil) := by
  subst hK
  obtain ⟨f, fd, F, hm, hb⟩ := h.ex
  exact pe_meth0 (pl := pl) he c hm F hr hb .nil passN ht
theorem kpe_fld {f : Str} (K : PySem.W.Frag) (he : PE X e ta) (hK : X.K = K := by rfl) (hb : attributeBase e f X.env (eval e X.env) = eval e X.env := by rfl) : PE X (.Attribute e f pos) (tFld K ta f) := hK ▸ pe_fld he hb
theorem kps_fld {f : Str} {tv : TE} {value : Expr} {pos' : Pos} (K : PySem.W.Frag) (ha : PE X o ta) (hv : PE X value tv) (hK : X.K = K := by rfl) (hs : swapsWith value (some (.Attribute o f pos')) pos.line X.env = pure false := by rfl) : PS X (.Assign [.Attribute o f pos'] value pos) (sFld K ta tv f) := hK ▸ ps_fld ha hv hs
theorem kps_fldaug {f : Str} {tv : TE} {value : Expr} {tpos : Pos} {op : Operator} {rd : V → V → Hp → VK → Prop} (K : PySem.W.Frag) (ha : PE X o ta) (hv : PE X value tv) (hop : InOp X op rd) (hK : X.K = K := by rfl) : PS X (.AugAssign (.Attribute o f tpos) op value pos) (sFldAug K ta tv rd f) := hK ▸ ps_fldaug ha hv hop
end
/-- the attributes with one put -/
def putS (f : Str) (r : SV) : List (Str × SV) → List (Str × SV)
  | [] => [(f, r)]
  | (g, x) :: fs => if g = f then (g, r) :: fs else (g, x) :: putS f r fs
theorem putF_zip {f : Str} {v : V} {r : SV} : ∀ (fs : List (Str × SV)) (vs : List V), vs.length = fs.length → ∃ us, putF f v ((fs.map Prod.fst).zip vs) = ((putS f r fs).map Prod.fst).zip us ∧ ∀ {K : PySem.W.Frag} {H : Hp}, SVOk K H v r → SVsOk K H vs (fs.map Prod.snd) → SVsOk K H us ((putS f r fs).map Prod.snd)
  | [], [], _ => ⟨[v], rfl, fun h _ => .cons h .nil⟩
  | (g, x) :: fs, u :: vs, hl => by
    by_cases e : g = f
    · refine ⟨v :: vs, ?_, fun h k => ?_⟩
      · show (if g = f then (g, v) :: (fs.map Prod.fst).zip vs else _) = _
        unfold putS
        rw [if_pos e, if_pos e]
        rfl
      · unfold putS
        rw [if_pos e]
        cases k with
        | cons k1 k2 => exact .cons h k2
    · obtain ⟨us, e1, e2⟩ := putF_zip (f := f) (v := v) (r := r) fs vs (by simpa using hl)
      refine ⟨u :: us, ?_, fun h k => ?_⟩
      · show (if g = f then _ else (g, u) :: putF f v ((fs.map Prod.fst).zip vs)) = _
        unfold putS
        rw [if_neg e, if_neg e, e1]
        rfl
      · unfold putS
        rw [if_neg e]
        cases k with
        | cons k1 k2 => exact .cons k1 (e2 h k2)
theorem look_zip {K : PySem.W.Frag} {H : Hp} {f : Str} {r : SV} : ∀ {fs : List (Str × SV)} {vs : List V}, SVsOk K H vs (fs.map Prod.snd) → fs.lookup f = some r → ∃ v, ((fs.map Prod.fst).zip vs).lookup f = some v ∧ SVOk K H v r
  | [], _, _, e => by cases e
  | (g, x) :: fs, _, h, e => by
    cases h with
    | cons h1 h2 =>
      rw [List.lookup_cons] at e
      show ∃ v, List.lookup f ((g, _) :: _) = some v ∧ _
      rw [List.lookup_cons]
      cases q : (f == g) with
      | true => rw [q] at e; cases e; exact ⟨_, rfl, h1⟩
      | false => rw [q] at e; exact look_zip h2 e
theorem look_zipN {f : Str} : ∀ {fs : List (Str × SV)} {vs : List V}, fs.lookup f = none → ((fs.map Prod.fst).zip vs).lookup f = none
  | [], _, _ => rfl
  | (g, x) :: fs, [], _ => rfl
  | (g, x) :: fs, v :: vs, e => by
    rw [List.lookup_cons] at e
    show List.lookup f ((g, v) :: _) = none
    rw [List.lookup_cons]
    cases q : (f == g) with
    | true => rw [q] at e; cases e
    | false => rw [q] at e; exact look_zipN e
section
variable {K : PySem.W.Frag} {δ : DSt} {M : Mem} {P : SV → Mem → Prop} {D : DEnds} {ta te tv : TE} {t : TA} {f m : Str} {C : Addr}
theorem dE_fld (h : dE K ta δ M fun x M1 => ∃ (a C : Addr) (fs : List (Str × SV)) (r : SV), x = .m a ∧ M1.o a = some (.ins C fs) ∧ Cls K C ∧ NoAttr K C f ∧ fs.lookup f = some r ∧ P r M1) : dE K (tFld K ta f) δ M P := fun σ H H1 e w Q q =>
  h σ H H1 e w _ fun v x H' M' H2 hb s1 w1 vx => by
    obtain ⟨a, C, fs, r, rfl, ho, c, n, l, p⟩ := hb
    obtain rfl : v = .ref a := vx
    obtain ⟨_, o, h2, dx, vs, rfl, hv⟩ := w1.obj a _ ho
    obtain ⟨u, lu, ru⟩ := look_zip hv l
    exact ⟨a, C, dx, _, u, rfl, h2, c, n, lu, q u r H' M' H2 p s1 w1 ru⟩
theorem dS_fld (h : dE K tv δ M fun r M1 => dE K ta δ M1 fun x M2 => ∃ (a C : Addr) (fs : List (Str × SV)), x = .m a ∧ M2.o a = some (.ins C fs) ∧ Cls K C ∧ NoAttr K C f ∧ fs.length < 1000 ∧ D.nx δ (oset M2 a (.ins C (putS f r fs)))) : dS K (sFld K ta tv f) D δ M := fun D' σ H H1 e w o =>
  h σ H H1 e w _ fun v r H' M' H2 hb s1 w1 vr => hb σ H' H2 (e.mono s1.pure) w1 _ fun u x Ha Ma H3 hc s2 w2 vx => by
    obtain ⟨a, C, fs, rfl, ho, c, n, l, p⟩ := hc
    obtain rfl : u = .ref a := vx
    obtain ⟨_, ob, h2, dx, vs, rfl, hv⟩ := w2.obj a _ ho
    have hlen : vs.length = fs.length := by rw [hv.length, List.length_map]
    refine ⟨a, C, dx, _, rfl, h2, c, n, by rw [List.length_zip, List.length_map, hlen]; omega, ?_⟩
    obtain ⟨us, e1, e2⟩ := putF_zip (f := f) (v := v) (r := r) fs vs hlen
    obtain ⟨w3, s3⟩ := wrote_o (ob' := .ins C (putS f r fs)) (o := .ins C dx (putF f v ((fs.map Prod.fst).zip vs))) w2 ho ⟨dx, us, by rw [e1], e2 (vr.mono s2.pure) hv⟩
    exact o.nx δ _ σ Ha _ p ((s1.trans w w1 s2).trans w w2 s3) ((e.mono s1.pure).mono s2.pure) w3
/-- o.f += i -/
theorem dS_fldaug {i : Int} (h : dE K ta δ M fun x M1 => ∃ (a C : Addr) (fs : List (Str × SV)), x = .m a ∧ M1.o a = some (.ins C fs) ∧ Cls K C ∧ NoAttr K C f ∧ fs.lookup f = some (.d (.int i)) ∧ dE K tv δ M1 fun r M2 => ∃ (j : Int) (gs : List (Str × SV)), r = .d (.int j) ∧ M2.o a = some (.ins C gs) ∧ gs.length < 1000 ∧ D.nx δ (oset M2 a (.ins C (putS f (.d (.int (i + j))) gs)))) : dS K (sFldAug K ta tv L2.rAdd f) D δ M := fun D' σ H H1 e w o =>
  h σ H H1 e w _ fun v x H' M' H2 hb s1 w1 vx => by
    obtain ⟨a, C, fs, rfl, ho, c, n, l, hc⟩ := hb
    obtain rfl : v = .ref a := vx
    obtain ⟨_, ob, h2, dx, vs, rfl, hv⟩ := w1.obj a _ ho
    obtain ⟨u, lu, ru⟩ := look_zip hv l
    cases ru
    refine ⟨a, C, dx, _, _, rfl, h2, c, n, lu, hc σ H' H2 (e.mono s1.pure) w1 _ fun u2 r Ha Ma H3 hd s2 w2 vr => ?_⟩
    obtain ⟨j, gs, rfl, ho2, l2, p⟩ := hd
    cases vr
    obtain ⟨_, ob, h3, dx2, vs2, rfl, hv2⟩ := w2.obj a _ ho2
    have hlen : vs2.length = gs.length := by rw [hv2.length, List.length_map]
    refine ⟨i, j, rfl, rfl, dx2, _, h3, by rw [List.length_zip, List.length_map, hlen]; omega, ?_⟩
    obtain ⟨us, e1, e2⟩ := putF_zip (f := f) (v := .int (i + j)) (r := .d (.int (i + j))) gs vs2 hlen
    obtain ⟨w3, s3⟩ := wrote_o (ob' := .ins C (putS f (.d (.int (i + j))) gs)) (o := .ins C dx2 (putF f (.int (i + j)) ((gs.map Prod.fst).zip vs2))) w2 ho2 ⟨dx2, us, by rw [e1], e2 (.int _) hv2⟩
    exact o.nx δ _ σ Ha _ p ((s1.trans w w1 s2).trans w w2 s3) ((e.mono s1.pure).mono s2.pure) w3
theorem dE_meth {S : SpX} (h : dE K ta δ M fun x M1 => ∃ (a : Addr) (fs : List (Str × SV)), x = .m a ∧ M1.o a = some (.ins C fs) ∧ fs.lookup m = none ∧ dA K t δ M1 fun rs M2 => S (.m a :: rs) M2 P (fun _ _ _ => False)) : dE K (tMeth C m (spOfX K S) [] E0 ta t) δ M P := fun σ H H1 e w Q q =>
  h σ H H1 e w _ fun v x H' M' H2 hb s1 w1 vx => by
    obtain ⟨a, fs, rfl, ho, l, hc⟩ := hb
    obtain rfl : v = .ref a := vx
    obtain ⟨_, ob, h2, dx, vs, rfl, hv⟩ := w1.obj a _ ho
    refine ⟨a, dx, _, rfl, h2, look_zipN l, hc σ H' H2 (e.mono s1.pure) w1 _ fun us rs Ha Ma H3 hd s2 w2 vr => ?_⟩
    have s12 := s1.trans w w1 s2
    exact ⟨.m a :: rs, Ha, Ma, P, _, w2, by rw [List.append_nil]; exact .cons rfl vr, hd, fun v r H' M' H2 p s3 w3 vv => q v r H' M' H2 p (s12.trans w w2 s3) w3 vv, fun _ _ _ _ _ p => p.elim⟩
/-- what an expression that may raise gives, and what it raises -/
def dEX (K : PySem.W.Frag) (W : WX) (xs : Value → Option Addr → DSt → Mem → Prop) (te : TE) (δ : DSt) (M : Mem) (P : SV → Mem → Prop) : Prop := ∀ (σ : StS) (H H1 : Hp), EnvOk K H σ δ → WOk K H M H1 → ∀ Q : VK,
  (∀ v r H' M' H2, P r M' → Step H H1 M H' H2 M' → WOk K H' M' H2 → SVOk K H' v r → Q v H2) → (∀ cls d δ' M' σ' H' H2, xs cls d δ' M' → Step H H1 M H' H2 M' → EnvOk K H' σ' δ' → WOk K H' M' H2 → W cls d σ' H2) → te σ H1 Q
theorem dEX_meth {S : SpX} {W : WX} {xs : Value → Option Addr → DSt → Mem → Prop} (h : dE K ta δ M fun x M1 => ∃ (a : Addr) (fs : List (Str × SV)), x = .m a ∧ M1.o a = some (.ins C fs) ∧ fs.lookup m = none ∧ dA K t δ M1 fun rs M2 => S (.m a :: rs) M2 P (fun cls d M3 => xs cls d δ M3)) : dEX K W xs (tMeX C m (spOfX K S) (WE W) ta t) δ M P := fun σ H H1 e w Q q qx =>
  h σ H H1 e w _ fun v x H' M' H2 hb s1 w1 vx => by
    obtain ⟨a, fs, rfl, ho, l, hc⟩ := hb
    obtain rfl : v = .ref a := vx
    obtain ⟨_, ob, h2, dx, vs, rfl, hv⟩ := w1.obj a _ ho
    refine ⟨a, dx, _, rfl, h2, look_zipN l, hc σ H' H2 (e.mono s1.pure) w1 _ fun us rs Ha Ma H3 hd s2 w2 vr => ?_⟩
    have s12 := s1.trans w w1 s2
    exact ⟨.m a :: rs, Ha, Ma, P, _, w2, .cons rfl vr, hd, fun v r H' M' H2 p s3 w3 vv => q v r H' M' H2 p (s12.trans w w2 s3) w3 vv, fun cls d H' M' H2 p s3 w3 => qx cls d δ M' σ H' H2 p (s12.trans w w2 s3) (((e.mono s1.pure).mono s2.pure).mono s3.pure) w3⟩
theorem dS_dropX {W : WX} (hW : D.wx = W) (h : dEX K W D.xs te δ M fun _ M' => D.nx δ M') : dS K (tDrop te) D δ M := fun D' σ H H1 e w o => h σ H H1 e w _ (fun v r H' M' H2 p s w' vv => o.nx δ M' σ H' H2 p s (e.mono s.pure) w') fun cls d δ' M' σ' H' H2 p s e' w' => hW ▸ o.xs cls d δ' M' σ' H' H2 p s e' w'
theorem dS_retX {W : WX} (hW : D.wx = W) (h : dEX K W D.xs te δ M D.rt) : dS K (tRet te) D δ M := fun D' σ H H1 e w o => h σ H H1 e w _ (fun v r H' M' H2 p s w' vv => o.rt r v H' M' H2 p s w' vv) fun cls d δ' M' σ' H' H2 p s e' w' => hW ▸ o.xs cls d δ' M' σ' H' H2 p s e' w'
theorem dS_raise {W : WX} (hW : D.wx = W) (h : D.xs (.ref C) none δ M) : dS K (fun _ σ H => W (.ref C) none σ H) D δ M := fun D' σ H H1 e w o => hW ▸ o.xs (.ref C) none δ M σ H H1 h Step.refl e w
end
end Sd
namespace Sd
open PySem L2 PyProof.Rows
/-- the body runs through, or raises -/
def tFn (tb : WX → TS) (tf tfs : TS) (Wo : WX) : TS := fun D σ H => tb (wFin tfs Wo) { nx := fun σ' H' => tf D σ' H', rt := fun _ _ => False } σ H
/-- a body whose last statement returns -/
abbrev TB := (V → StS → Hp → Prop) → StS → Hp → Prop
def bRet (te : TE) : TB := fun R σ H => te σ H fun v H' => R v σ H'
def bCons (t : TS) (u : TB) : TB := fun R σ H => t { nx := fun σ' H' => u R σ' H', rt := fun _ _ => False } σ H
def tFb (tb : WX → TB) (tf tfs : TS) (Wo : WX) : TS := fun D σ H => tb (wFin tfs Wo) (fun v σ' H' => tf { D with nx := fun _ H2 => D.rt v H2 } σ' H') σ H
structure PB (X : Cx) (body : List Stmt) (u : TB) : Prop where
  run : ∀ (pins : List (Addr × Obj)) (s : Shared) (σ : StS) (H : Hp) (R : V → StS → Hp → Prop), Inv X pins σ H s → u R σ H → wpAny (model X.prog X.w) X.A (execs body X.env) (fun fl s' => ∃ z v σ' H', fl = .ret z ∧ Inv X pins σ' H' s' ∧ RelV v z ∧ R v σ' H') X.xe s
section
variable {X : Cx} {body rest : List Stmt} {st f₀ : Stmt} {fs : List Stmt} {e : Expr} {rp pos : Pos} {t tf tfs : TS} {u : TB} {te : TE} {Wo : WX}
theorem pb_ret (he : PE X e te) : PB X [.Return (some e) rp] (bRet te) := ⟨fun pins s σ H R I h =>
  wpAny_execs_cons (wpAny_Return_some (wpAny_mono (he.run pins s σ H _ I h) (fun z s1 ⟨v, H1, I1, r1, q1⟩ => ⟨z, v, σ, H1, rfl, I1, r1, q1⟩) fun _ _ y => y))⟩
theorem pb_cons (hs : PS X st t) (hr : PB X rest u) : PB X (st :: rest) (bCons t u) := ⟨fun pins s σ H R I h => by
  refine wpAny_execs_cons (wpAny_mono (hs.run pins s σ H _ I h) (fun fl s1 q => ?_) fun _ _ y => y)
  cases fl with
  | next =>
    obtain ⟨σ1, H1, I1, q1⟩ := q
    exact hr.run pins s1 σ1 H1 R I1 q1
  | ret z => obtain ⟨_, _, _, _, _, y⟩ := q; exact False.elim y
  | brk => obtain ⟨_, _, _, y⟩ := q; exact False.elim y
  | cont => obtain ⟨_, _, _, y⟩ := q; exact False.elim y⟩
abbrev xFin (X : Cx) (pins : List (Addr × Obj)) (D : Ends) (f₀ : Stmt) (fs : List Stmt) : Value → Shared → Prop := fun x s1 => wpAny (model X.prog X.w) X.A (noteFrame x X.env) (fun _ s2 => FinallyRaised X.prog X.w X.A X.xe X.env (f₀ :: fs) (SP X pins D) x s2) (FinallyRaised X.prog X.w X.A X.xe X.env (f₀ :: fs) (SP X pins D)) s1
theorem meets_fin {pins : List (Addr × Obj)} {D : Ends} {z : Value} {t : Shared} (hs : X.stack = X.env :: X.outer) (hf : X.env.frame = some X.env.locals) (hex : X.ex = []) (ok : X.Ok) (tk : L2N.Takes X Wo) (hsu : ∀ (a : Addr) (pn : List (Addr × Obj)), PSs (X.suite a pn) (f₀ :: fs) tfs)
    (xx : L2N.XE (X.tr (X.pn ++ pins) (xFin X pins D f₀ fs)) (wFin tfs Wo) z t) : xFin X pins D f₀ fs z t := by
  obtain ⟨a, cls, d, rfl, air⟩ := Air.of xx
  exact fin_air L2N.Zn.steady hs hf hex ok (fun t' k => tk _ _ k.to) hsu air
theorem ps_fn {tb : WX → TS} (hs : X.stack = X.env :: X.outer) (hf : X.env.frame = some X.env.locals) (hex : X.ex = []) (tk : L2N.Takes X Wo)
    (hb : ∀ (W : WX) (pn : List (Addr × Obj)) (xe : Value → Shared → Prop), L2N.Takes (X.tr pn xe) W → PassesOwn (model X.prog X.w) X.A X.env xe → PSs (X.tr pn xe) body (tb W))
    (hfin : PSs X.nox (f₀ :: fs) tf) (hsu : ∀ (a : Addr) (pn : List (Addr × Obj)), PSs (X.suite a pn) (f₀ :: fs) tfs) : PS X (.Try body [] [] (f₀ :: fs) pos) (tFn tb tf tfs Wo) := ⟨fun pins s σ H D I h => by
  have ok := I.ok
  have run := (hb (wFin tfs Wo) (X.pn ++ pins) (xFin X pins D f₀ fs) (fun z s' xx => meets_fin hs hf hex ok tk hsu xx) PassesOwn.looking).run [] s σ H { nx := fun σ' H' => tf D σ' H', rt := fun _ _ => False } (I.toTry _) h
  refine wpAny_Try_finally (wpAny_mono run (fun fl s1 q => ?_) fun _ _ y => y)
  cases fl with
  | ret z => obtain ⟨_, _, _, _, _, y⟩ := q; exact False.elim y
  | brk => obtain ⟨_, _, _, y⟩ := q; exact False.elim y
  | cont => obtain ⟨_, _, _, y⟩ := q; exact False.elim y
  | next =>
    obtain ⟨σ1, H1, J1, q1⟩ := q
    refine wpAny_execs_nil (wpAny_mono (hfin.run pins s1 σ1 H1 D ((J1.ofTry ok).wish _) q1) (fun fl2 s2 q2 => ?_) fun _ _ y => False.elim y)
    have q3 : SP X pins D fl2 s2 := q2.unwish
    cases fl2 <;> exact q3⟩
theorem ps_fb {tb : WX → TB} (hs : X.stack = X.env :: X.outer) (hf : X.env.frame = some X.env.locals) (hex : X.ex = []) (tk : L2N.Takes X Wo)
    (hb : ∀ (W : WX) (pn : List (Addr × Obj)) (xe : Value → Shared → Prop), L2N.Takes (X.tr pn xe) W → PassesOwn (model X.prog X.w) X.A X.env xe → PB (X.tr pn xe) body (tb W))
    (hfin : PSs X.nox (f₀ :: fs) tf) (hsu : ∀ (a : Addr) (pn : List (Addr × Obj)), PSs (X.suite a pn) (f₀ :: fs) tfs) : PS X (.Try body [] [] (f₀ :: fs) pos) (tFb tb tf tfs Wo) := ⟨fun pins s σ H D I h => by
  have ok := I.ok
  have run := (hb (wFin tfs Wo) (X.pn ++ pins) (xFin X pins D f₀ fs) (fun z s' xx => meets_fin hs hf hex ok tk hsu xx) PassesOwn.looking).run [] s σ H (fun v σ' H' => tf { D with nx := fun _ H2 => D.rt v H2 } σ' H') (I.toTry _) h
  refine wpAny_Try_finally (wpAny_mono run (fun fl s1 q => ?_) fun _ _ y => y)
  obtain ⟨z, v, σ1, H1, rfl, J1, r1, q1⟩ := q
  exact fin_ret hfin (J1.ofTry ok) r1 q1⟩
end
section
variable {K : PySem.W.Frag} {δ : DSt} {M : Mem} {D : DEnds} {t tf tfs : TS} {u : TB} {te : TE} {W Wo : WX}
/-- a finally's suite behind an error -/
abbrev DEnds.sx (D : DEnds) (cls : Value) (d : Option Addr) : DEnds := { nx := fun δ M => D.xs cls d δ M, rt := fun _ _ => False }
theorem wFin_ok {D' : Ends} {H H1 H' H2 : Hp} {M' : Mem} {σ' : StS} {δ' : DSt} {cls : Value} {d : Option Addr} (hW : D.wx = Wo) (w : WOk K H M H1) (o : DEnds.Ok K D D' H H1 M) (p : dS K tfs (D.sx cls d) δ' M') (s : Step H H1 M H' H2 M') (e' : EnvOk K H' σ' δ') (w' : WOk K H' M' H2) : wFin tfs Wo cls d σ' H2 :=
  p _ σ' H' H2 e' w' ⟨fun δ3 M3 σ3 H3 H4 q s3 e3 w3 => hW ▸ o.xs cls d δ3 M3 σ3 H3 H4 q (s.trans w w' s3) e3 w3, fun _ _ _ _ _ q => q.elim, fun _ _ _ _ _ q => q.elim, fun _ _ _ _ _ q => q.elim, fun _ _ _ _ _ _ _ q => q.elim⟩
theorem dS_fn {tb : WX → TS} (hW : D.wx = Wo) (h : dS K (tb (wFin tfs Wo)) { nx := fun δ' M' => dS K tf D δ' M', rt := fun _ _ => False, xs := fun cls d δ' M' => dS K tfs (D.sx cls d) δ' M', wx := wFin tfs Wo } δ M) : dS K (tFn tb tf tfs Wo) D δ M := fun D' σ H H1 e w o =>
  h _ σ H H1 e w ⟨fun δ' M' σ' H' H2 p s e' w' => p D' σ' H' H2 e' w' (o.after w w' s), fun _ _ _ _ _ p => p.elim, fun _ _ _ _ _ p => p.elim, fun _ _ _ _ _ p => p.elim, fun cls d δ' M' σ' H' H2 p s e' w' => wFin_ok hW w o p s e' w'⟩
/-- the reading of a body that ends with a return -/
def dB (K : PySem.W.Frag) (W : WX) (xs : Value → Option Addr → DSt → Mem → Prop) (u : TB) (R : SV → DSt → Mem → Prop) (δ : DSt) (M : Mem) : Prop := ∀ (σ : StS) (H H1 : Hp) (R' : V → StS → Hp → Prop), EnvOk K H σ δ → WOk K H M H1 →
  (∀ v r δ' M' σ' H' H2, R r δ' M' → Step H H1 M H' H2 M' → EnvOk K H' σ' δ' → WOk K H' M' H2 → SVOk K H' v r → R' v σ' H2) → (∀ cls d δ' M' σ' H' H2, xs cls d δ' M' → Step H H1 M H' H2 M' → EnvOk K H' σ' δ' → WOk K H' M' H2 → W cls d σ' H2) → u R' σ H1
section
variable {xs : Value → Option Addr → DSt → Mem → Prop} {R : SV → DSt → Mem → Prop}
theorem dB_ret (h : dE K te δ M fun r M' => R r δ M') : dB K W xs (bRet te) R δ M := fun σ H H1 R' e w q qx => h σ H H1 e w _ fun v r H' M' H2 p s w' vv => q v r δ M' σ H' H2 p s (e.mono s.pure) w' vv
theorem dB_cons (h : dS K t { nx := fun δ' M' => dB K W xs u R δ' M', rt := fun _ _ => False, xs := xs, wx := W } δ M) : dB K W xs (bCons t u) R δ M := fun σ H H1 R' e w q qx =>
  h _ σ H H1 e w ⟨fun δ' M' σ' H' H2 p s e' w' => p σ' H' H2 R' e' w' (fun v r δ3 M3 σ3 H3 H4 p3 s3 e3 w3 vv => q v r δ3 M3 σ3 H3 H4 p3 (s.trans w w' s3) e3 w3 vv) fun cls d δ3 M3 σ3 H3 H4 p3 s3 e3 w3 => qx cls d δ3 M3 σ3 H3 H4 p3 (s.trans w w' s3) e3 w3,
    fun _ _ _ _ _ p => p.elim, fun _ _ _ _ _ p => p.elim, fun _ _ _ _ _ p => p.elim, qx⟩
end
theorem dS_fb {tb : WX → TB} (hW : D.wx = Wo) (h : dB K (wFin tfs Wo) (fun cls d δ' M' => dS K tfs (D.sx cls d) δ' M') (tb (wFin tfs Wo)) (fun r δ' M' => dS K tf { D with nx := fun _ M2 => D.rt r M2, rt := fun _ _ => False, bk := fun _ _ => False, ct := fun _ _ => False, xs := fun _ _ _ _ => False } δ' M') δ M) : dS K (tFb tb tf tfs Wo) D δ M := fun D' σ H H1 e w o =>
  h σ H H1 _ e w (fun v r δ' M' σ' H' H2 p s e' w' vv => p _ σ' H' H2 e' w' ⟨fun δ3 M3 σ3 H3 H4 q s3 e3 w3 => o.rt r v H3 M3 H4 q (s.trans w w' s3) w3 (vv.mono s3.pure), fun _ _ _ _ _ q => q.elim, fun _ _ _ _ _ q => q.elim, fun _ _ _ _ _ q => q.elim, fun _ _ _ _ _ _ _ q => q.elim⟩)
    fun cls d δ' M' σ' H' H2 p s e' w' => wFin_ok hW w o p s e' w'
end
section
variable {K : PySem.W.Frag} {δ : DSt} {M : Mem} {P : SV → Mem → Prop} {C : Addr} {ts : TA}
theorem dE_make {S : SpX} (h : dA K ts δ M fun rs M1 => ∀ a, M1.o a = none → M1 a = none → S (.m a :: rs) (oset M1 a (.ins C [])) (fun r M2 => r = .d .none ∧ P (.m a) M2) (fun _ _ _ => False)) : dE K (tMake C (spOfX K S) [] E0 ts) δ M P := fun σ H H1 e w Q q =>
  h σ H H1 e w _ fun vs rs H' M' H2 hb s w' vv => fun x dx hx hdx ne => by
    obtain ⟨w2, s2⟩ := laid_ok (o := .own x) w' hdx
    have hx2 : upd H2 dx (.own x) x = none := by rw [upd_ne (Ne.symm ne)]; exact hx
    obtain ⟨ho, w3, s3⟩ := laid_o (ob := .ins C []) (o := .ins C dx []) w2 hx2 ⟨dx, [], rfl, .nil⟩
    have s23 := (s.trans w w' s2).trans w w2 s3
    refine ⟨.m x :: rs, _, _, _, _, w3, by rw [List.append_nil]; exact .cons rfl ((vv.mono s2.pure).mono s3.pure), hb x ho (w2.freshM hx2), fun v r Ha Ma Hb p s4 w4 vr => ?_, fun _ _ _ _ _ p => p.elim⟩
    obtain ⟨rfl, p⟩ := p
    cases vr
    exact ⟨rfl, q _ _ Ha Ma Hb p (s23.trans w w3 s4) w4 rfl⟩
/-- a class as others make it -/
structure HasC (P : Program) (w : World) (K : PySem.W.Frag) (mg : Str → Option Value) (base : Heap) (k : Nat) (C : Addr) (x : Str) (ps : List Str) (S : SpX) : Prop where
  ex : ∃ f fd, FnOk P w K mg base (L2N.CX P w) k f fd ps (spOfX K S) ∧ Mk K C f ∧ Binds K fd ps [] ∧ mg x = some (.ref C)
theorem pe_mk0 {X : Cx} {k : Nat} {x : Str} {ps : List Str} {S : SpX} {p pos : Pos} (h : HasC X.prog X.w K X.mg X.base k C x ps S) (hr : Room (k + 1) X.A) (hg : Gl X x) (hK : X.K = K := by rfl) (hdb : (x == ("__debug__" : Str)) = false := by decide) :
    PE X (.Call (.Name x p) [] [] pos) (tMake C (spOfX K S) [] E0 tNil) := by
  subst hK
  obtain ⟨f, fd, F, hm, hb, hx⟩ := h.ex
  exact pe_make0 hm F hr hg hx hb .nil passN hdb
end
section
variable {X : Cx} {C : Addr}
def rLenO (C : Addr) (sp : Sp) : List V → Hp → VK → Prop := fun xs H Q => ∃ a dx fs, xs = [.ref a] ∧ H a = some (.ins C dx fs) ∧ sp [.ref a] H (fun v H' => ∃ n : Int, v = .int n ∧ 0 ≤ n ∧ n < 2 ^ 63 ∧ Q (.int n) H') E0
theorem call_lenO {f : Addr} {fd : FuncData} {k : Nat} {sp : Sp} (hl : PySem.W.findIn X.K (.ref C) "__len__" = some (some (.ref f))) (tf : PySem.W.typeIn X.K (.ref f) = some (.type "function")) (F : FnOk X.prog X.w X.K X.mg X.base (L2N.CX X.prog X.w) k f fd ["self"] sp) (hb : Binds X.K fd ["self"] []) (hr : Room (k + 1) X.A) : CallR X (.builtin "len") (rLenO C sp) := by
  rintro pins s σ H xs us Q I r ⟨a, dx, fs, rfl, e, hsp⟩
  cases r with
  | cons ra rn =>
    cases rn
    rename_i u
    obtain rfl : u = Value.ref a := ra
    obtain ⟨mA, O, _, _, _, _⟩ := ins_get I.hok e
    have LT : PySem.W.Looks (model X.prog X.w) s.heap (typeOf (.ref a)) (.ref C) := fun A Q E s' k q => wpAny_typeOf_ref (k _ _ O.obj) q
    have sp1 : PySem.W.Looks (model X.prog X.w) s.heap (specialOf (.ref a) "__len__") (some (.ref f)) := LT.andThen (PySem.W.looks_findIn I.kIn hl)
    refine Calls.call_function_entry kind_len plain_len entry_len (args_len1 _) ?_
    unfold Builtin.«len»
    refine wpAny_bind (m := oneArg "len" _) (wpAny_pure ?_)
    have b0 := hb s [.ref a] I.kIn rfl
    have run : wpAny (model X.prog X.w) X.A.in1 (call (.ref f) [.ref a]) (fun z s' => ∃ (n : Int) (t : Tok), z = .int n t ∧ 0 ≤ n ∧ n < 2 ^ 63 ∧ ∃ H', Inv X pins σ H' s' ∧ Q (.int n) H') X.xe s := by
      refine wpAny_call (codeAny_mono (F.run X.A.in1 X.stack s H ⟨[.ref a], []⟩ [.ref a] [.ref a] _ E0 hr.in1 I.env0.in1 b0 (.cons rfl .nil) hsp) fun res s' hq => ?_)
      cases res with
      | error er => obtain ⟨_, _, _, _, _, _, _, _, _, _, _, _, z⟩ := hq; exact z.elim
      | ok fl =>
        cases fl with
        | ret u =>
          obtain ⟨v, H', I', rv, n, rfl, n0, n1, q⟩ := I.after hq
          obtain ⟨t, rfl⟩ := (show ∃ t, u = Value.int n t from rv)
          exact ⟨n, t, rfl, n0, n1, H', I', q⟩
        | next => exact False.elim hq
        | brk => exact False.elim hq
        | cont => exact False.elim hq
    refine wpAny_bind (m := callSpecial? (.ref a) (PySem.Str.ofString "__len__")) ?_
    simp only [callSpecial?]
    refine wpAny_bind (sp1.here ?_)
    refine wpAny_holding (wpAny_bind ((PySem.W.bind_fn I.kIn (.ref a) tf).here ?_))
    refine wpAny_bind (wpAny_mono run (fun z s' hz => wpAny_pure ?_) fun _ _ y => y)
    obtain ⟨n, t, rfl, n0, n1, H', I', q⟩ := hz
    refine wpAny_bind (wpAny_holding (wpAny_pure ?_))
    refine wpAny_bind (wpAny_letGo ?_)
    show wpAny _ _ (if n < 0 then _ else _) _ _ _
    rw [if_neg (by omega)]
    show wpAny _ _ (if n ≥ 2 ^ 63 then _ else _) _ _ _
    rw [if_neg (by omega)]
    exact wpAny_bind (wpAny_mkInt (wpAny_pure ⟨_, rfl, .int n, H', I'.tok _, ⟨_, rfl⟩, q⟩))
end
end Sd
namespace PySem
namespace SupX
open PySem.W PySem.Calls PyProof.Rows PySem.HandSPX
def iA (f : Str) (p1 p2 : Pos) : Arguments := { posonlyargs := [], args := [⟨"self", none, p1⟩, ⟨f, none, p2⟩], vararg := none, kwonlyargs := [], kw_defaults := [], kwarg := none, defaults := [] }
def iB (f txt : Str) (j : Nat) (r0 r1 r2 r3 r4 r5 q1 q2 q3 q4 : Pos) : List Stmt :=
  [.Expr (.Call (.Attribute (.Call (.Name "super" r0) [] [] r1) "__init__" r2) [.Constant (.str txt) j r3] [] r4) r5, .Assign [.Attribute (.Name "self" q1) f q2] (.Name f q3) q4]
def iS (f : Str) : Scope := ⟨.function, [("self", .local), (f, .local), ("__class__", .free), ("super", .globalImplicit)], false, false, []⟩
/-- what the written part says of the class at C, its name x, its __init__ at fI -/
structure Sup (K : Frag) (mg : Str → Option Value) (prog : Program) (x f : Str) (C fI : Addr) : Prop where
  gC : mg x = some (.ref C)
  cls : ∃ nm q N bs bm sn sub ab col dd k0 k1 k2 k3 k5, K.lookup C = some (excClassObj nm q C N bs bm true sn sub ab col dd k0 k1 k2 k3 k5 "ValueError.__new__") ∧ refsVE bm = true
  sa : findIn K (.ref C) "__setattr__" = some (some (.builtin "object.__setattr__"))
  ga : findIn K (.ref C) "__getattribute__" = some (some (.builtin "BaseException.__getattribute__"))
  gg : findIn K (.ref C) "__getattr__" = some none
  noN : findIn K (.ref C) f = some none
  iC : findIn K (.ref C) "__init__" = some (some (.ref fI))
  tC : typeIn K (.ref fI) = some (.type "function")
  kC : keepIn K (.ref C) = true
  exC : subIn K (.ref C) (.type "BaseException") = some true
  veC : subIn K (.ref C) (.type "ValueError") = some true
  tyC : typeIn K (.ref C) = some (.type "type")
  hdC : hasDictIn K C = true
  sup : nsIn K mainGlobals "super" = some none
  any : nsIn K cStatics "thirdparty.any" = some none
  up : ks_superIn K C C "__init__" = some (some (.builtin "ValueError.__init__"))
  mro : mroIn K C (.ref C) = some true
  top : (prog.main.scope.names.lookup ("super" : Str)).isSome = false
  ne : (f == ("self" : Str)) = false ∧ (f == ("__debug__" : Str)) = false
  sc : ((iS f).names.lookup f) = some .local ∧ ((iS f).names.lookup ("super" : Str)) = some .globalImplicit ∧ ((iS f).names.lookup ("__class__" : Str)) = some .free
  bind : ∀ (qual : Str) (bd : List Stmt) (p1 p2 : Pos) (kV doc pm : Value) (an : Option Addr) (cdv ct : Value) (cc : Addr) (a b : Value), bindArgs (ksFn "__init__" qual (iA f p1 p2) bd (iS f) .none kV doc pm an cdv ct cc) ⟨[a, b], []⟩ = pure [(("self" : Str), a), (f, b)]
  fn : ∃ (oc kV doc pm ct : Value) (od an : Option Addr) (osl : Array (Option Value)) (qual txt : Str) (j : Nat) (p1 p2 r0 r1 r2 r3 r4 r5 q1 q2 q3 q4 : Pos) (cc cda : Addr),
    K.lookup fI = some ⟨oc, od, .func (ksFn "__init__" qual (iA f p1 p2) (iB f txt j r0 r1 r2 r3 r4 r5 q1 q2 q3 q4) (iS f) .none kV doc pm an (.ref cda) ct cc), osl⟩ ∧ codeIn K (.ref cda) qual = true ∧
    (∃ cl cld csl, K.lookup cc = some ⟨cl, cld, .cell (some (.ref C)), csl⟩) ∧ ∃ ccl cdd vs ccs file tf, K.lookup cda = some ⟨ccl, cdd, .fields vs, ccs⟩ ∧ vs[2]? = some (.str file tf) ∧ ((prog.main.file : Str) == file) = true ∧
    (∃ pl, ∀ L, eval (.Call (.Attribute (.Call (.Name "super" r0) [] [] r1) "__init__" r2) [.Constant (.str txt) j r3] [] r4) (ksEnv qual (iS f) L fI (.ref cda) cc) = (do
      let ov ← attributeBase (.Call (.Name "super" r0) [] [] r1) "__init__" (ksEnv qual (iS f) L fI (.ref cda) cc) (eval (.Call (.Name "super" r0) [] [] r1) (ksEnv qual (iS f) L fI (.ref cda) cc))
      standAt r2.atName
      let (g, first) ← holding [ov] (getMethod ov "__init__" pl)
      callWith r4 g first (backTo r4 (starEach [.Constant (.str txt) j r3] (ksEnv qual (iS f) L fI (.ref cda) cc))) [])) ∧
    (∀ L, swapsWith (.Call (.Attribute (.Call (.Name "super" r0) [] [] r1) "__init__" r2) [.Constant (.str txt) j r3] [] r4) none r5.line (ksEnv qual (iS f) L fI (.ref cda) cc) = pure false) ∧
    ∀ L, swapsWith (.Name f q3) (some (.Attribute (.Name "self" q1) f q2)) q4.line (ksEnv qual (iS f) L fI (.ref cda) cc) = pure false
section
variable {prog : Program} {w : World} {A : Around} {E : Value → Shared → Prop} {h : Heap} {g : Array GenState} {d : Drawn} {t : Nat} {os : OsState}
variable {nm q : Str} {C N : Addr} {bs bm : List Value} {hdct : Bool} {sn : List Str} {sub : List Value} {ab : Bool} {col : Option Bool} {dd : Option Addr} {k0 k1 k2 k3 k5 : Option Value}
/-- the bound ValueError.__init__, called: the args are laid anew -/
theorem call_mw {u e t0 : Addr} {rest : List Value} {Q : Value → Shared → Prop} (hC : h.get? C = some (excClassObj nm q C N bs bm hdct sn sub ab col dd k0 k1 k2 k3 k5 "ValueError.__new__"))
    (he : h.get? e = some (excO C t0)) (hu : h.get? u = some (kxs_mw "ValueError.__init__" e)) (hz : rest.length ≤ sizeLine)
    (hq : ∀ h' t1, (∀ b o, b ≠ e → h.get? b = some o → h'.get? b = some o) → h'.get? e = some (excO C t1) → Q .none ⟨h', g, d, t, os⟩) : wpAny (model prog w) A (call (.ref u) rest) Q E ⟨h, g, d, t, os⟩ := by
  have FB := F.excBase_ValueError
  refine wpAny_call (codeAny_of_tree ?_)
  show wpAny _ A.in1 (callAny (.ref u) ⟨rest, []⟩) _ _ _
  simp only [callAny]
  refine wpAny_bind (wpAny_load hu ?_)
  have k1 : (Value.type "method-wrapper" == Value.type "method" || Value.type "method-wrapper" == Value.type "builtin_function_or_method" || Value.type "method-wrapper" == Value.type "method-wrapper") = true := by decide
  simp only [kxs_mw, k1, if_true]
  refine KFB.if_so (by decide) ?_
  refine wpAny_bind (check_bound_init FB.toExcCallFacts hC he rfl ?_)
  refine wpAny_bind (wpAny_pure (wpAny_pure ?_))
  refine ⟨plainId_quiet FB.init.plain _, codeAny_builtin FB.initEntry ?_⟩
  exact exc_init_tree (cls := .ref C) (t0 := t0) (dv := none) (c2 := .none) (c3 := .none) (b4 := .bool false) he hz fun h' k e1 _ => hq h' h.objs.size k e1
end
section
variable {prog : Program} {w : World} {A : Around} {E : Value → Shared → Prop} {R : Result → Shared → Prop} {s : Shared} {K : Frag} {mg mb : Str → Option Value} {C fI : Addr} {x f : Str}
/-- what __init__ leaves of a fresh error at e -/
structure Left (h h' : Heap) (e C dx t1 : Addr) (f : Str) (v : Value) : Prop where
  keep : ∀ b o, b ≠ e → h.get? b = some o → h'.get? b = some o
  obj : h'.get? e = some { cls := .ref C, dict := some dx, data := .fields #[.ref t1, .none, .none, .none, .bool false, .none] }
  dbig : h.objs.size ≤ dx
  dne : dx ≠ e
  ns : h'.Ns1 dx (fun y => if y = f then some v else none)
theorem sup_init (T : Sup K mg prog x f C fI) {e t0 : Addr} {v : Value} (X : K.In s.heap) (hg : s.heap.Ns mainGlobals mg) (hgs : mg "super" = none) (hbn : s.heap.Ns builtinsNs mb) (hbs : mb "super" = some (.type "super")) (hlim : s.heap.NoLimit) (he : s.heap.get? e = some (excO C t0)) (hnx : K.lookup e = none) (hroom : A.depth < recursionLimit)
    (hq : ∀ h' tk dx t1, Left s.heap h' e C dx t1 f v → R (.ok (.ret .none)) { s with heap := h', toks := tk }) : codeAny (model prog w) A (.call (.ref fI) ⟨[.ref e, v], []⟩) R s := by
  obtain ⟨oc, kV, doc, pm, ct, od, an, osl, qual, txt, j, p1, p2, r0, r1, r2, r3, r4, r5, q1, q2, q3, q4, cc, cda, ho, hcd, ⟨cl, cld, csl, hcell⟩, ccl, cdd, vs, ccs, file, tf, hcode, hvs, hfile, ⟨pl, hev⟩, hsw1, hsw2⟩ := T.fn
  obtain ⟨nm, q, N, bs, bm, sn, sub, ab, col, dd, k0, k1, k2, k3, k5, hC, hbm⟩ := T.cls
  have hcl : clsIn K C = some { name := nm, bases := bs, mro := .ref C :: bm, ns := N, qualname := q, hasDict := true, slotNames := sn, subclasses := sub, abstract := ab, collection := col, hasDel := false } := by unfold clsIn; rw [hC] <;> rfl
  have nes := T.ne.1
  refine ks_codeAny_call_defAt (fd := ksFn "__init__" qual (iA f p1 p2) (iB f txt j r0 r1 r2 r3 r4 r5 q1 q2 q3 q4) (iS f) .none kV doc pm an (.ref cda) ct cc) (body := iB f txt j r0 r1 r2 r3 r4 r5 q1 q2 q3 q4) (binds := [(("self" : Str), Value.ref e), (f, v)]) hroom (X _ _ ho) rfl hlim (codeRec_of X hcd) rfl (BindsTo.of_eq (T.bind _ _ _ _ _ _ _ _ _ _ _ _ _)) ?_ ?_ (fun h1 hns k1' => ?_)
  · intro y hy
    simp only [iS, List.mem_cons, List.not_mem_nil, or_false] at hy
    rcases hy with rfl | rfl | rfl | rfl <;> (intro z; cases z)
  · intro y hy
    simp only [List.mem_cons, List.not_mem_nil, or_false] at hy
    rcases hy with rfl | rfl
    · rfl
    · exact T.sc.1
  have hself : (fun y => List.lookup y ([(("self" : Str), Value.ref e), (f, v)] : List (Str × Value)).reverse) "self" = some (.ref e) := by
    show List.lookup ("self" : Str) [(f, v), (("self" : Str), Value.ref e)] = _
    have n2 : (("self" : Str) == f) = false := by rw [Bool.eq_false_iff] at nes ⊢; intro z; exact nes (by rw [beq_iff_eq] at z ⊢; exact z.symm)
    simp [List.lookup, n2]
  have hfv : (fun y => List.lookup y ([(("self" : Str), Value.ref e), (f, v)] : List (Str × Value)).reverse) f = some v := by
    show List.lookup f [(f, v), (("self" : Str), Value.ref e)] = _
    simp [List.lookup]
  generalize hm : (fun y => List.lookup y ([(("self" : Str), Value.ref e), (f, v)] : List (Str × Value)).reverse) = m at hns hself hfv
  have X1 : K.In h1 := X.keeps k1'
  have he1 := k1' _ _ he
  have hC1 := X1 _ _ hC
  have hkl : (ksEnv qual (iS f) s.heap.objs.size fI (.ref cda) cc).kindOf "self" = some .local := rfl
  have hkf : (ksEnv qual (iS f) s.heap.objs.size fI (.ref cda) cc).kindOf f = some .local := T.sc.1
  have hz1 : s.heap.objs.size < h1.objs.size := hns.lt
  have neC : e ≠ C := fun z => by
    rw [z, hC1] at he1
    cases he1
  have neL : s.heap.objs.size ≠ e := Nat.ne_of_gt (Heap.lt_size he)
  show _root_.PySem.wpAt (model prog w) (A.deeper (ksEnv qual (iS f) s.heap.objs.size fI (.ref cda) cc)) (.func (iB f txt j r0 r1 r2 r3 r4 r5 q1 q2 q3 q4) (ksEnv qual (iS f) s.heap.objs.size fI (.ref cda) cc)) (execs (iB f txt j r0 r1 r2 r3 r4 r5 q1 q2 q3 q4) (ksEnv qual (iS f) s.heap.objs.size fI (.ref cda) cc)) _ _ _
  refine ks_wpAt_execs_cons (ks_wpAt_Expr_any (ks_wpAt_MethodCall (pl := pl) ?_ (hev _)) rfl (hsw1 _))
  refine ks_wpAt_super_base (env := ksEnv qual (iS f) s.heap.objs.size fI (.ref cda) cc) T.sc.2.1 T.sc.2.2 (by decide) rfl (X1 _ _ ho) rfl rfl rfl (X1 _ _ hcode) rfl hvs hfile T.top ?_
  refine ks_loadName_global rfl T.sc.2.1 (loadGlobal_builtin (env := ksEnv qual (iS f) s.heap.objs.size fI (.ref cda) cc) (hg.keeps k1') hgs (hbn.keeps k1') hbs ⟨rfl, ?_⟩)
  refine wpAny_loadName_free rfl T.sc.2.2 rfl ⟨_, X1 _ _ hcell, rfl⟩ ?_
  refine wpAny_loadName_local rfl hkl hns hself ?_
  refine ks_wpAny_isType_cls hC1 rfl ⟨rfl, ?_⟩
  refine ks_wpAny_call_super hC1 rfl he1 rfl (fun c z => by cases z) (looks_mroIn X1 T.mro) (fun h2 hso k2 => ?_)
  have X2 : K.In h2 := X1.keeps k2
  have he2 := k2 _ _ he1
  have hup : alongIn K "__init__" (((Value.ref C :: bm).dropWhile (· != .ref C)).drop 1) = some (some (.builtin "ValueError.__init__")) := by
    have := T.up
    unfold ks_superIn at this
    rw [hcl] at this
    exact this
  have hmr : Looks (model prog w) h2 (mroOf (.ref C)) (.ref C :: bm) := (looks_clsIn X2 hcl).andThen .now
  have hT2 : Looks (model prog w) h2 (typeOf (.ref e)) (.ref C) := fun A Q E s' k q => wpAny_typeOf_ref (k _ _ he2) q
  refine kxs_getMethod kxs_ValueError hso (looks_opaque X2 T.any) hmr rfl X2 hup (hT2.andThen (looks_subIn X2 T.veC)) neC (by decide) ?_
  refine kxs_callWith (i := "ValueError.__init__") (x := e) (by rfl) ?_
  refine evalArgs_plain (Calls.spliced_cons (Calls.Constant_str (pos := r3) (k := j) (Calls.spliced_nil ⟨Heap.get?_push_size h2 rfl, ?_⟩)))
  have k3 : ∀ b o, h2.get? b = some o → (h2.push (kxs_mw "ValueError.__init__" e)).get? b = some o := fun b o z => Heap.get?_push_of_some _ z
  refine call_mw (k3 _ _ (k2 _ _ hC1)) (k3 _ _ he2) (Heap.get?_push_size h2 rfl) (show 1 ≤ sizeLine from by rw [sizeLine_eq]; decide) fun h4 t1 k4 he4 => ?_
  have nK : ∀ b o, K.lookup b = some o → b ≠ e := fun b o z y => by rw [y, hnx] at z; cases z
  have X4 : K.In h4 := fun b o z => k4 b o (nK b o z) (k3 _ _ (X2 _ _ z))
  have hns4 : h4.Ns s.heap.objs.size m := by
    obtain ⟨oL, es, ep, hL, r⟩ := hns
    exact ⟨oL, es, ep, k4 _ _ neL (k3 _ _ (k2 _ _ hL)), r⟩
  refine ks_wpAt_execs_cons (wpAt_of_wpAny ?_)
  refine plainObj_wpAny_Assign_Attribute ?_ (hsw2 _)
  refine wpAny_Name (wpAny_loadName_local rfl hkf hns4 hfv ?_) T.ne.2
  refine wpAny_Name (wpAny_loadName_local rfl hkl hns4 hself ?_) (by decide)
  refine set_plain X4 (ox := excO C t1) (od := none) ⟨he4, rfl, rfl, trivial⟩ T.sa ?_
  refine exc_osa X4 he4 hcl (show refsVE (.ref C :: bm) = true from hbm) rfl T.noN (fun h5 tk5 dx k5' dn dne he5 hn5 => ?_)
  refine wpAt_of_wpAny (wpAny_execs_nil (hq h5 tk5 dx t1 ⟨fun b o hb z => k5' b o hb (k4 b o hb (k3 _ _ (k2 _ _ (k1' _ _ z)))), he5, ?_, dne, hn5⟩))
  exact Nat.le_of_lt (Nat.lt_of_lt_of_le hns4.lt dn)
/-- a made error -/
structure Made (h h' : Heap) (e C d : Addr) (f : Str) (v : Value) : Prop where
  keep : ∀ b o, h.get? b = some o → h'.get? b = some o
  new : h.objs.size ≤ e
  obj : ∃ oe vs, h'.get? e = some oe ∧ oe.cls = .ref C ∧ oe.dict = some d ∧ oe.data = .fields vs ∧ vs[1]? = some .none ∧ vs[2]? = some .none
  dbig : h.objs.size ≤ d
  dne : d ≠ e
  ns : h'.Ns1 d (fun y => if y = f then some v else none)
theorem sup_made (T : Sup K mg prog x f C fI) {v : Value} (X : K.In s.heap) (hg : s.heap.Ns mainGlobals mg) (hgs : mg "super" = none) (hbn : s.heap.Ns builtinsNs mb) (hbs : mb "super" = some (.type "super")) (hlim : s.heap.NoLimit) (hroom : A.depth + 1 < recursionLimit)
    (hq : ∀ h' tk e d, Made s.heap h' e C d f v → R (.ok (.ret (.ref e))) { s with heap := h', toks := tk }) : codeAny (model prog w) A (.call (.ref C) ⟨[v], []⟩) R s := by
  obtain ⟨nm, q, N, bs, bm, sn, sub, ab, col, dd, k0, k1, k2, k3, k5, hC, hbm⟩ := T.cls
  obtain ⟨hp, g, dr, tk, os⟩ := s
  have k : ∀ b o, hp.get? b = some o → ((hp.push (kdv_tup [v])).push (excO C hp.objs.size)).get? b = some o := fun b o z => Heap.get?_push_of_some _ (Heap.get?_push_of_some _ z)
  have hget : ((hp.push (kdv_tup [v])).push (excO C hp.objs.size)).get? (hp.objs.size + 1) = some (excO C hp.objs.size) := by heap_get
  have hnx : K.lookup (hp.objs.size + 1) = none := by
    cases z : K.lookup (hp.objs.size + 1) with
    | none => rfl
    | some o => exact absurd (Nat.lt_of_succ_lt (Heap.lt_size (show hp.get? (hp.objs.size + 1) = some o from X _ _ z))) (Nat.lt_irrefl _)
  have h1 : [v].length ≤ sizeLine := show 1 ≤ sizeLine from by rw [sizeLine_eq]; decide
  refine call_own F.excBase_ValueError (fun Y => refsVE_contains Y bm hbm) (X _ _ hC) (looks_findIn X T.iC) (fun self => bind_fn X self T.tC) h1 ?_
  refine sup_init (s := ⟨(hp.push (kdv_tup [v])).push (excO C hp.objs.size), g, dr, tk, os⟩) T (X.keeps k) (hg.keeps k) hgs (hbn.keeps k) hbs (hlim.keeps k) hget hnx (show A.depth + 1 < recursionLimit from hroom) fun h' tk' dx t1 ⟨k', hx, dn, dne, hns⟩ => ?_
  have old : ∀ b o, hp.get? b = some o → h'.get? b = some o := fun b o z => k' b o (Nat.ne_of_lt (Nat.lt_succ_of_lt (Heap.lt_size z))) (k b o z)
  have z2 : hp.objs.size + 1 + 1 ≤ dx := by
    have y := dn
    first
      | exact y
      | (rw [Heap.size_push, Heap.size_push] at y; exact y)
  exact ⟨rfl, hq h' tk' (hp.objs.size + 1) dx ⟨old, Nat.le_succ _, ⟨_, _, hx, rfl, rfl, rfl, rfl, rfl⟩, (by show hp.objs.size ≤ dx; omega), dne, hns⟩⟩
end
end SupX
end PySem
namespace Sd
open PySem L2 PyProof.Rows
theorem relO_one {v : V} {v' : Value} (r : RelV v v') (f y : Str) : RelO (List.lookup y [(f, v)]) (if y = f then some v' else none) := by
  by_cases e : y = f
  · subst e
    have q : List.lookup y [(y, v)] = some v := by simp [List.lookup]
    rw [if_pos rfl, q]
    exact r
  · have q0 : (y == f) = false := by simpa using e
    have q : List.lookup y [(f, v)] = none := by simp [List.lookup, q0]
    rw [if_neg e, q]
    trivial
section
variable {X : Cx} {C fI : Addr} {x f : Str}
/-- C(e), an error with the field f -/
def tMkF (C : Addr) (f : Str) (ta : TA) : StS → Hp → XK → Prop := fun σ H Q => ta σ H fun vs H1 => ∃ v, vs = [v] ∧ ∀ d, H1 d = none → Q (.ref C) (some d) (upd H1 d (.xd [(f, v)]))
theorem pmk_sup {a : Expr} {ta : TA} {p pos : Pos} {k : Nat} (T : SupX.Sup X.K X.mg X.prog x f C fI) (hgs : X.mg "super" = none) (hr : Room k X.A) (ha : PA X [a] ta) (hg : Gl X x) (hdb : (x == ("__debug__" : Str)) = false := by decide)
    (he : starEach (a :: []) X.env = (false, eval a X.env) :: starEach [] X.env := by rfl) (hpl : (backTo pos (starEach [] X.env)).any (·.1) = false := by rfl) : L2N.PMk X (.Call (.Name x p) [a] [] pos) (tMkF C f ta) := by
  intro pins s σ H Q I h
  refine wpAny_Call_Name_kw (ld_glob I hg T.gC ?_ hdb)
  refine PySem.W.callWith_K (h₀ := X.base) I.ok.mod.kin T.kC (thn (ha.run pos pins s σ H _ I h) fun us s1 hh => ?_) he hpl
  obtain ⟨vs, H1, I1, r1, v, ev, q1⟩ := hh
  subst ev
  refine ⟨I1.kIn, ?_⟩
  cases r1 with
  | cons rv rn =>
    rename_i v' us'
    cases rn
    show wpAny _ _ (call (.ref C) [v']) _ _ _
    have hlim := I1.nolimit
    obtain ⟨mb, hb1, hb2⟩ := I1.mod.blt
    have gN := I1.mod.glob.keeps I1.bk
    have bN := hb1.keeps I1.bk
    obtain ⟨hp, g, dr, tk, os⟩ := s1
    refine wpAny_call (SupX.sup_made T I1.kIn gN hgs bN ((hb2 "super" (by decide)).trans (by decide +kernel)) hlim (by have := hr.dp; omega) fun h' tk' e d M => ?_)
    show L2N.MkP X pins σ Q (.ref e) ⟨h', g, dr, tk', os⟩
    obtain ⟨oe, fv, hoe, hc, hd, hdat, h1, h2⟩ := M.obj
    have hns := M.ns
    obtain ⟨G', g1, g2⟩ := restrict h' fun b => decide (b ≠ e)
    have gk : ∀ b, b ≠ e → G'.get? b = h'.get? b := fun b hb => g1 b (decide_eq_true hb)
    have ge : G'.get? e = none := g2 e (by simp)
    have old : ∀ b o, hp.get? b = some o → G'.get? b = some o := fun b o q => (gk b (Nat.ne_of_lt (Nat.lt_of_lt_of_le (Heap.lt_size q) M.new))).trans (M.keep b o q)
    have ob : ObjOk X.prog X.w (upd H1 d (.xd [(f, v)])) G' d (.xd [(f, v)]) := ⟨_, hns.at (fun o q => (gk d M.dne).trans q), fun y => relO_one rv f y⟩
    have J : Inv X pins σ (upd H1 d (.xd [(f, v)])) ⟨G', g, dr, tk', os⟩ := I1.laid (t' := tk') old M.dbig ob
    refine ⟨e, oe, fv, ⟨G', g, dr, tk', os⟩, _, .ref C, some d, rfl, J, fun b o q => ?_, ge, hoe, ⟨hc, hd, fun us e => by rw [hdat] at e; cases e; exact h2⟩, hdat, h1, ?_, rfl, I1.bare, raises_own T.exC T.tyC, q1 d (I1.hok.fresh M.dbig)⟩
    · by_cases hb : b = e
      · have q' : G'.get? b = some o := q
        rw [hb, ge] at q'; cases q'
      · exact (gk b hb).symm.trans q
    · rw [upd_ne (Ne.symm M.dne)]
      exact I1.hok.fresh M.new
end
section
variable {K : PySem.W.Frag} {δ : DSt} {M : Mem} {D : DEnds} {C : Addr} {f : Str} {te : TE}
theorem dS_raiseF {W : WX} (hW : D.wx = W) (h : dE K te δ M fun r M1 => ∀ d, M1.o d = none → M1 d = none → D.xs (.ref C) (some d) δ (oset M1 d (.exd [(f, r)]))) : dS K (fun _ σ H => tMkF C f (tCons te tNil) σ H fun cls d H' => W cls d σ H') D δ M := fun D' σ H H1 e w o =>
  h σ H H1 e w _ fun v r H' M' H2 hb s w' vr => ⟨v, rfl, fun d hd => by
    obtain ⟨ho, w3, s3⟩ := laid_o (ob := .exd [(f, r)]) (o := .xd [(f, v)]) w' hd ⟨[v], rfl, .cons vr .nil⟩
    subst hW
    exact o.xs (.ref C) (some d) δ _ σ H' _ (hb d ho (w'.freshM hd)) (s.trans w w' s3) (e.mono s.pure) w3⟩
end
end Sd
namespace Sd
open PySem L2 PyProof.Rows
structure HasL (P : Program) (w : World) (K : PySem.W.Frag) (mg : Str → Option Value) (base : Heap) (k : Nat) (C : Addr) (S : SpX) : Prop where
  ex : ∃ f fd, PySem.W.findIn K (.ref C) "__len__" = some (some (.ref f)) ∧ PySem.W.typeIn K (.ref f) = some (.type "function") ∧ FnOk P w K mg base (L2N.CX P w) k f fd ["self"] (spOfX K S) ∧ Binds K fd ["self"] []
theorem kcall_lenO {X : Cx} {k : Nat} {C : Addr} {S : SpX} (K : PySem.W.Frag) (h : HasL X.prog X.w K X.mg X.base k C S) (hr : Room (k + 1) X.A) (hK : X.K = K := by rfl) : CallR X (.builtin "len") (rLenO C (spOfX K S)) := by
  subst hK
  obtain ⟨f, fd, h1, h2, F, hb⟩ := h.ex
  exact call_lenO h1 h2 F hb hr
section
variable {K : PySem.W.Frag} {δ : DSt} {M : Mem} {P : SV → Mem → Prop} {D : DEnds} {ta te tv : TE} {t : TA} {f m : Str} {C a : Addr} {fs : List (Str × SV)}
theorem dC_lenO {S : SpX} (ho : M.o a = some (.ins C fs)) (h : S [.m a] M (fun r M' => ∃ n : Nat, r = .d (.int n) ∧ (n : Int) < 2 ^ 63 ∧ P (.d (.int n)) M') (fun _ _ _ => False)) : dC K (rLenO C (spOfX K S)) [.m a] M P := fun vs H H1 hv wk Q q => by
  cases hv with
  | cons h1 h2 =>
    cases h2
    rename_i v
    obtain rfl : v = .ref a := h1
    obtain ⟨_, ob, h2, dx, us, rfl, hu⟩ := wk.obj a _ ho
    refine ⟨a, dx, _, rfl, h2, [.m a], H, M, _, _, wk, .cons rfl .nil, h, fun v r H' M' H2 p s w' vv => ?_, fun _ _ _ _ _ p => p.elim⟩
    obtain ⟨n, rfl, hn, p⟩ := p
    cases vv
    exact ⟨n, rfl, by omega, hn, q _ _ H' M' H2 p s w' (.int _)⟩
/-- self.f, self in the i-th slot -/
theorem dE_own {i : Nat} {r : SV} (h0 : δ[i]? = some (some (.m a))) (ho : M.o a = some (.ins C fs)) (c : Cls K C) (n : NoAttr K C f) (l : fs.lookup f = some r) (p : P r M) : dE K (tFld K (tVar i) f) δ M P := dE_fld (dE_var h0 ⟨a, C, fs, r, rfl, ho, c, n, l, p⟩)
/-- self.f = e -/
theorem dS_own {i : Nat} (c : Cls K C) (n : NoAttr K C f) (h0 : δ[i]? = some (some (.m a))) (h : dE K tv δ M fun r M1 => ∃ fs, M1.o a = some (.ins C fs) ∧ fs.length < 1000 ∧ D.nx δ (oset M1 a (.ins C (putS f r fs)))) : dS K (sFld K (tVar i) tv f) D δ M :=
  dS_fld (h.mono fun r M1 ⟨fs, ho, l, p⟩ => dE_var h0 ⟨a, C, fs, rfl, ho, c, n, l, p⟩)
theorem dEX_own {S : SpX} {W : WX} {xs : Value → Option Addr → DSt → Mem → Prop} {i : Nat} (h0 : δ[i]? = some (some (.m a))) (ho : M.o a = some (.ins C fs)) (l : fs.lookup m = none) (h : dA K t δ M fun rs M2 => S (.m a :: rs) M2 P (fun cls d M3 => xs cls d δ M3)) : dEX K W xs (tMeX C m (spOfX K S) (WE W) (tVar i) t) δ M P := dEX_meth (dE_var h0 ⟨a, fs, rfl, ho, l, h⟩)
theorem dE_ownM {S : SpX} {i : Nat} (h0 : δ[i]? = some (some (.m a))) (ho : M.o a = some (.ins C fs)) (l : fs.lookup m = none) (h : dA K t δ M fun rs M2 => S (.m a :: rs) M2 P (fun _ _ _ => False)) : dE K (tMeth C m (spOfX K S) [] E0 (tVar i) t) δ M P := dE_meth (dE_var h0 ⟨a, fs, rfl, ho, l, h⟩)
end
end Sd
namespace Sd
open PySem PySem.Spec PyProof.Rows L2 L2H HotX
/-- the block of a comprehension, the handled error's object known -/
abbrev hblk (X : Cx) (p : Addr × Obj) (s : Shared) (H : Hp) (scope : Scope) (ce : Env) (fp : List Addr) : Cx := { X.blk s H scope ce fp with pn := [p] }
section
variable {X : Cx} {p : Addr × Obj}
theorem hot_stack {ps : List (Addr × Obj)} {σ : L2.St} {H : Hp} {s : Shared} (I : Inv X ps σ H s) (hp : p ∈ X.pn) : p.1 ∉ frs X.stack := fun k => by
  obtain ⟨_, _, h1, h2, _⟩ := I.pin p (List.mem_append_left _ hp)
  rcases List.mem_cons.mp (I.stkSub _ k) with k | k
  · exact h1 k
  · exact h2 k
theorem pe_lcH {elt tg iter : Expr} {ifs : List Expr} {scope : Scope} {own : List (PySem.Str × Nat)} {pos : Pos} {wi : TI} {g : TG} {tt : TT} {te : TE} (hot : Hot1 X.A p) (hp : p ∈ X.pn) (hN : X.N.Nodup) (hi : PIH X tg iter wi) (ok : BlkOk X.N X.env.scope scope own)
    (hg : ∀ s H C cl fp, PG (hblk X p s H scope (compEnvC scope cl C X.env) fp) tg g) (ht : ∀ s H C cl fp, PTs (hblk X p s H scope (compEnvC scope cl C X.env) fp) ifs tt)
    (he : ∀ s H C cl fp, PE (hblk X p s H scope (compEnvC scope cl C X.env) fp) elt te) (hs : ∀ x, foldedSetIterable iter X.env x = pure x := by intro _; rfl) :
    PE X (.ListComp elt [⟨tg, iter, ifs, 0⟩] scope pos) (tLc wi g tt te (own.map (·.2))) := by
  refine ⟨fun ps s σ H Q I h => ?_⟩
  rw [eval_ListComp]
  have fr : ∀ y ∈ scope.names, y.2 = .free → ∃ c, X.env.cells.lookup y.1 = some c := fun y hy e => (ok.free y hy e).elim (fun k => I.ok.has _ (.inl k)) fun k => I.ok.has _ (.inr k)
  refine wpAny_comprehension_free (use := none) rfl hs (closure_ok fr) ok.kind (fun y hy e => by rw [ok.uniq y hy, e])
    (thn (hi.run ps s σ H _ I h) fun xv s1 hx => thn hx fun itv s2 z2 => ?_)
  obtain ⟨it, fp, tn, J, H2, ee, I2, T, st2, f2, q⟩ := z2
  subst ee
  refine wpAny_newObj_type (newEnv_comp ?_) (by show 0 ≤ sizeLine; exact Nat.zero_le _)
  generalize eD : s2.heap.objs.size = D
  have nD : H2 D = none := I2.hok.fresh (Nat.le_of_eq eD)
  obtain ⟨W, ⟨m0, w0⟩, turn⟩ := q D nD
  generalize eO : ({ cls := .type "list", data := .seq ([] : List Value).toArray } : Obj) = ob
  generalize e3 : ({ s2 with heap := s2.heap.push ob } : Shared) = s3
  have I3 : Inv X ps σ (upd H2 D (.lst [])) s3 := by
    rw [← e3]
    refine I2.laid (t' := s2.toks) (fun b o e => Heap.get?_push_of_some _ e) (Nat.le_of_eq eD) ⟨Nat.zero_le _, [], 0, .nil, ?_⟩
    rw [← eD, ← eO]
    exact Heap.get?_push_size _ rfl
  have hp3 : s3.heap = s2.heap.push ob := by rw [← e3]
  have f3 : ∀ b ∈ fp, FpOk X ps (upd H2 D (.lst [])) b ∧ b < s3.heap.objs.size := fun b hb => by
    have lt := let ⟨_, e, _⟩ := T.obj _ _ st2 b hb; Heap.lt_size e
    refine ⟨⟨?_, (f2 b hb).2⟩, by rw [hp3, Heap.size_push]; exact Nat.lt_succ_of_lt lt⟩
    rw [upd_ne (by rw [← eD]; exact Nat.ne_of_lt lt)]
    exact (f2 b hb).1
  have st3 : tn 0 s3.heap := T.keep _ _ _ st2 fun b _ o e => by rw [hp3]; exact Heap.get?_push_of_some _ e
  have I4 := block_start (fp := fp) I3 ok hN f3
  generalize eH : upd H2 D (.lst []) = H3 at I3 I4 w0 f3
  have pg := hg s3 H3 s3.heap.objs.size (cellsFrom (s3.heap.objs.size + 1) scope.names (cloFrom X.env.cells scope.names [])) fp
  have pt := ht s3 H3 s3.heap.objs.size (cellsFrom (s3.heap.objs.size + 1) scope.names (cloFrom X.env.cells scope.names [])) fp
  have pe := he s3 H3 s3.heap.objs.size (cellsFrom (s3.heap.objs.size + 1) scope.names (cloFrom X.env.cells scope.names [])) fp
  show codeAny _ _ (.compStart (.ListComp elt [⟨tg, iter, ifs, 0⟩] scope pos) 0 (.ref it) (.ref D) (compEnvC scope (cellsFrom (s3.heap.objs.size + 1) scope.names (cloFrom X.env.cells scope.names [])) s3.heap.objs.size X.env))
    (compPost (model X.prog X.w) X.A X.xe none _ (.ref D) s3.heap.objs.size) { s3 with heap := pushCells (s3.heap.push { cls := .type "dict", data := .dict #[] }) scope.names }
  have nf : ∀ b ∈ fp, H3 b = none := fun b hb => (f3 b hb).1.1
  obtain ⟨pg0, pn0, pl0, _, pc0⟩ := I3.pin p (List.mem_append_left _ hp)
  have pst : p.1 ∉ frs X.stack := hot_stack I3 hp
  generalize eC : compEnvC scope (cellsFrom (s3.heap.objs.size + 1) scope.names (cloFrom X.env.cells scope.names [])) s3.heap.objs.size X.env = ce at I4 pg pt pe ⊢
  have lC : ce.locals = s3.heap.objs.size := by rw [← eC]; rfl
  generalize e4 : ({ s3 with heap := pushCells (s3.heap.push { cls := .type "dict", data := .dict #[] }) scope.names } : Shared) = s4 at I4 ⊢
  have I4' : Inv (hblk X p s3 H3 scope ce fp) [] (wipe σ (own.map (·.2))) H3 s4 :=
    ⟨⟨I4.ok.mod, I4.ok.kind, I4.ok.glob, I4.ok.blt, I4.ok.above, I4.ok.inj, I4.ok.has, I4.ok.cab, I4.ok.hd, I4.ok.frames, I4.ok.stk, I4.ok.exf, I4.ok.bs, I4.ok.bsz, I4.ok.noex, I4.ok.exfs, I4.ok.funs, I4.ok.frf⟩, I4.os, I4.bare, I4.base, I4.loc, I4.cell, I4.free, I4.freeC, fun q hq => by
      obtain rfl : q = p := by simpa using hq
      refine ⟨?_, pn0, ?_, pst, pc0⟩
      · rw [← e4]; exact pushCells_keeps _ _ _ _ (Heap.get?_push_of_some _ pg0)
      · show q.1 ≠ ce.locals
        rw [lC]
        exact Nat.ne_of_lt (Heap.lt_size pg0), I4.hok, I4.len⟩
  have st4 : tn 0 s4.heap := T.keep _ _ _ st3 fun b _ o e => by rw [← e4]; exact pushCells_keeps _ _ _ _ (Heap.get?_push_of_some _ e)
  have fk : ∀ {σ' : L2.St} {H' : Hp} {s' : Shared}, Inv (hblk X p s3 H3 scope ce fp) [] σ' H' s' → (∀ b ∈ fp, H' b = none) → ∀ b ∈ fp, FpOk (hblk X p s3 H3 scope ce fp) [] H' b := fun {σ' H' s'} J' hn b hb =>
    ⟨hn b hb, (J'.ok.exf b hb).1, J'.ok.exfs b hb, .inl hb, (J'.ok.exf b hb).2, fun q hq => by
      obtain rfl : q = p := by simpa using hq
      exact (f3 b hb).1.2.2.2.2.2 q (List.mem_append_left _ hp)⟩
  have hotB : HotC (hblk X p s3 H3 scope ce fp) := ⟨p, hot, List.mem_singleton.mpr rfl⟩
  refine (fun lp => codeAny_compStart_list lp (T.self X.A 0 _ _ _ st4 lp)) ?_
  refine compLoop_any (fun n s' => ∃ i H', Inv (hblk X p s3 H3 scope ce fp) [] (wipe σ (own.map (·.2))) H' s' ∧ tn i s'.heap ∧ (∀ b ∈ fp, H' b = none) ∧ W i n H') ?_ m0 ⟨0, H3, I4', st4, nf, w0⟩
  rintro n s5 ⟨i, H5, I5, a5, n5, w5⟩
  rcases turn i n H5 w5 with ⟨stop, qq⟩ | ⟨go, B, hB, step⟩
  · refine thnF (T.done (hblk X p s3 H3 scope ce fp) rfl rfl rfl hotB i [] s5 _ H5 (fun _ _ => False) I5 (fk I5 n5) a5 stop) fun r s6 ⟨hr, I6⟩ => ?_
    subst hr
    have I7 : Inv X ps σ H5 s6 := I3.call' (ch := fp) I6.os I6.base I6.hok I6.bare fun b hb =>
      let z := (f3 b hb).1.2
      ⟨z.2.2.1, z.1, z.2.2.2.1, z.2.2.2.2⟩
    have nC : H5 s3.heap.objs.size = none := lC ▸ (show H5 ce.locals = none from I6.free)
    obtain ⟨m, hn, _⟩ := I6.loc
    have hn : s6.heap.Ns s3.heap.objs.size m := lC ▸ (show s6.heap.Ns ce.locals m from hn)
    refine ⟨m, hn, fun h'' sb => ?_⟩
    obtain ⟨f0, f1, _, f3, f4, f5⟩ := I3.fpOk (Nat.le_refl _) nC
    exact ⟨.ref D, H5, I7.turned (t' := s6.toks) (fun b o nb e => (sb.2 b nb).trans e) f0 f1 f3 f4 f5, rfl, qq⟩
  · refine thnF (T.item (hblk X p s3 H3 scope ce fp) rfl rfl rfl hotB i [] s5 _ H5 (fun _ _ => False) I5 (fk I5 n5) a5 go) fun r s6 ⟨u, hr, h6⟩ => ?_
    subst hr
    refine thnF h6 fun _ s7 ⟨x, H7, I7, r7, y7, a7, n7⟩ => ?_
    refine thnF (pg.run _ s7 _ H7 x u _ (I7.pinned (fk I7 n7) (T.obj _ _ a7)) r7 (step x H7 y7)) fun _ s8 ⟨σ8, H8, I8, v8, q8⟩ => ?_
    refine thnF (pt.run _ s8 σ8 H8 _ I8 q8) fun yes s9 ⟨H9, I9, q9⟩ => ?_
    have fin : ∀ {s' : Shared} {H' : Hp}, Inv (hblk X p s3 H3 scope ce fp) ([] ++ pinsAt fp s7.heap) σ8 H' s' → B H' →
        ∃ m, m < n ∧ ∃ i H', Inv (hblk X p s3 H3 scope ce fp) [] (wipe σ (own.map (·.2))) H' s' ∧ tn i s'.heap ∧ (∀ b ∈ fp, H' b = none) ∧ W i m H' := fun {s' H'} J' nx => by
      obtain ⟨m', lt, w'⟩ := hB H' nx
      have pin' : ∀ b ∈ fp, ∀ ob, s7.heap.get? b = some ob → s'.heap.get? b = some ob ∧ H' b = none := fun b hb o e =>
        have z := J'.pin (b, o) (List.mem_append_right _ (List.mem_append_right _ (mem_pinsAt hb e)))
        ⟨z.1, z.2.1⟩
      refine ⟨m', lt, i + 1, H', (J'.unpinned (pins := [])).weak (by rw [← v8, wipe_length]) (fun j v e => ?_), T.keep _ _ _ a7 fun b hb o e => (pin' b hb o e).1, fun b hb => ?_, w'⟩
      · exact (wipe_some (v8 ▸ e)).1
      · have ⟨_, e, _⟩ := T.obj _ _ a7 b hb
        exact (pin' b hb _ e).2
    cases yes
    · rw [if_neg Bool.false_ne_true] at q9 ⊢
      exact fin I9 q9
    · rw [if_pos rfl] at q9 ⊢
      refine thnF (pe.run _ s9 σ8 H9 _ I9 q9) fun z s10 ⟨yv, H10, I10, r10, acc, d10, z10, nx⟩ => ?_
      exact app_ok (X := hblk X p s3 H3 scope ce fp) I10 d10 z10 r10 fun s11 I11 => fin I11 nx
end
end Sd
namespace Sd
open PySem PySem.Spec PyProof.Rows L2 L2H HotX
section
variable {prog : Program} {w : World} {A : Around} {E : Value → Shared → Prop} {s : Shared}
/-- a tuple's iterator is done, while an error is handled -/
theorem tup_done_hot {it t x1 : Addr} {i : Nat} {vs : Array Value} {Q : Option Value → Shared → Prop} (hot : HotAt A x1 s.heap) (hit : IsTupIter s.heap it t i) (ht : IsTup s.heap t vs) (hx : vs[i]? = none) (k : ∀ h', Heap.ExtBut it s.heap h' → Q none { s with heap := h' }) :
    wpAny (model prog w) A (pyNext (.ref it)) Q E s := by
  have ⟨oi, ei, ci, di⟩ := hit
  obtain ⟨ot, et, _, nt, dt⟩ := ht
  obtain ⟨hh, o1, v1, e1, d1, c1⟩ := hot
  have ne : it ≠ x1 := by
    rintro rfl
    cases e1.symm.trans ei
    cases d1.symm.trans di
    cases c1
  have stop : ∀ {α : Type} {R : α → Shared → Prop} {F : Value → Shared → Prop} {h : Heap}, Heap.ExtBut it s.heap h → (∀ a h', Heap.ExtBut it s.heap h' → (∃ o, h'.get? a = some o ∧ o.cls = .type "StopIteration") → F (.ref a) { s with heap := h' }) →
      wpAny (model prog w) A.in1 (newExc (.type "StopIteration") [] >>= raiseNew : Sem α) R F { s with heap := h } := fun {α R F h} eb kk => by
    have e1' : h.get? x1 = some o1 := eb x1 o1 (Ne.symm ne) e1
    refine wpAny_bind ?_
    unfold newExc newTuple
    refine wpAny_bind (wpAny_newObj_type ?_ (Nat.zero_le _))
    have fa : firstArgMember (.type "StopIteration") [] = (pure Value.none : Sem Value) := by first | rfl | (simp only [firstArgMember]; rfl)
    rw [fa]
    refine wpAny_bind (wpAny_pure (wpAny_newObj_type ?_ (by size_fits)))
    refine raiseNew_hot (x1 := x1) ⟨hh, o1, v1, Heap.get?_push_of_some _ (Heap.get?_push_of_some _ e1'), d1, c1⟩ (Nat.ne_of_lt (Heap.lt_size (Heap.get?_push_of_some _ e1'))) (Heap.get?_push_size _ rfl) rfl (by first | decide | (simp; done) | (simp; omega)) ?_
    refine kk _ _ (fun b o hb e => ?_) ⟨_, Heap.get?_update_self _ (Heap.get?_push_size _ rfl) rfl, rfl⟩
    have e2 := fun q : Obj => Heap.get?_push_of_some q (eb b o hb e)
    rw [Heap.get?_update_other _ _ (Nat.ne_of_gt (Heap.lt_size (e2 _)))]
    exact Heap.get?_push_of_some _ (e2 _)
  unfold pyNext
  refine wpAny_bind (wpAny_attempt (wpAny_callSpecial?_slot (name := Str.ofString "__next__") hit.typeIs slot_tupleiter_next (wpAny_call_entry slot_tupleiter_next hit.typeIs entry_tupleiter_next ?_ (args_tupleiter_next _))))
  show wpAny _ _ (field (.ref it) 0 >>= fun _ => _) _ _ s
  refine wpAny_bind (wpAny_field ei di (x := Value.ref t) rfl ?_)
  show wpAny _ _ (if (Value.ref t == Value.none) = true then _ else field (.ref it) 1 >>= fun _ => _) _ _ s
  rw [if_neg (show ¬ ((Value.ref t == Value.none) = true) by intro z; cases z)]
  refine wpAny_bind (wpAny_field ei di (x := Value.int i 0) rfl ?_)
  show wpAny _ _ (seqItems? (.ref t) >>= fun _ => _) _ _ s
  refine wpAny_bind (wpAny_seqItems et dt ?_)
  simp only [Int.toNat_natCast, hx]
  refine wpAny_bind (wpAny_rule (wpAny_bind (wpAny_setField ei di (by simp) ?_)))
  refine stop (Heap.SameBut.update ..).extBut fun a h' eb' ⟨o, eo, co⟩ => ?_
  exact wpAny_bind (wpAny_isInstance (T := "StopIteration") (b := true) ⟨o, eo, co⟩ isSubtype_stop (wpAny_pure (k h' eb')))
/-- a tuple's items, while an error is handled -/
theorem unpack_hot {t x1 : Addr} {vs : Array Value} {Q : List Value → Shared → Prop} (hot : HotAt A x1 s.heap) (ht : IsTup s.heap t vs) (k : ∀ h', Heap.ExtBut s.heap.objs.size s.heap h' → Q vs.toList { s with heap := h' }) : wpAny (model prog w) A (unpackItems (.ref t) vs.size none) Q E s := by
  have lt : t ≠ s.heap.objs.size := by
    obtain ⟨o, e, _⟩ := ht
    exact Nat.ne_of_lt (Heap.lt_size e)
  obtain ⟨hh, o1, v1, e1, r1⟩ := hot
  unfold unpackItems notIterableAtAll
  refine wpAny_bind (wpAny_bind (wpAny_specialOf ht.typeIs slot_tuple_iter.lookup (wpAny_pure ?_)))
  rw [if_neg (by simp)]
  refine wpAny_bind (wpAny_holding (iter_tuple ht (wpAny_bind (wpAny_holding (draw_tuple lt vs.size 0 _ _ ⟨_, Heap.get?_push_size _ rfl, rfl, rfl⟩ (ht.push _) (by omega) fun h1 it1 s1 => ?_)))))
  rw [List.drop_zero, List.take_of_length_le (show vs.toList.length ≤ vs.size by simp), if_neg (by simp)]
  have e1' : h1.get? x1 = some o1 := s1.extBut x1 o1 (Nat.ne_of_lt (Heap.lt_size e1)) (Heap.get?_push_of_some _ e1)
  refine wpAny_bind (wpAny_holding (tup_done_hot (x1 := x1) ⟨hh, o1, v1, e1', r1⟩ it1 ((ht.push _).extBut s1.extBut lt) (by simp) fun h2 e2 => ?_))
  rw [if_neg (by simp)]
  exact wpAny_pure (k h2 fun b o hb e => e2 b o hb (s1.extBut b o hb (Heap.get?_push_of_some _ e)))
end
section
variable {X : Cx}
/-- a, b = x, y within an except suite -/
theorem ps_parH {i j : Nat} {x y : Str} {a b : Expr} {ta : TA} {px py pt pos : Pos} {kt k2 pt2} (hc : HotC X) (hN : X.N.Nodup) (hi : X.N[i]? = some x) (hj : X.N[j]? = some y) (hij : i ≠ j) (hx : X.env.scope.names.lookup x = some .local) (hy : X.env.scope.names.lookup y = some .local) (ha : PA X [a, b] ta)
    (hw : swappedStores [.Tuple [.Name x px, .Name y py] kt pt] (.Tuple [a, b] k2 pt2) X.env = pure (some [x, y])) (hs : swapsWithSole [.Tuple [.Name x px, .Name y py] kt pt] (.Tuple [a, b] k2 pt2) pos.line X.env = pure false := by rfl) :
    PS X (.Assign [.Tuple [.Name x px, .Name y py] kt pt] (.Tuple [a, b] k2 pt2) pos) (tPar i j ta) := ⟨fun ps s σ H D I h => by
  rw [exec_Assign_arm, hs]
  refine wpAny_bind (wpAny_standAt (wpAny_bind (wpAny_pure ?_)))
  rw [if_neg (by decide)]
  refine wpAny_bind (Tuple_ (thn (ha.run _ ps s σ H _ I h) fun us s1 hh => ?_))
  obtain ⟨vs, H1, I1, r1, v, w, ev, k⟩ := hh
  subst ev
  cases r1 with
  | @cons _ u1 _ _ rv r2 =>
    cases r2 with
    | @cons _ u2 _ _ rw2 r3 =>
      cases r3
      refine wpAny_newObj_type ?_ (show 2 ≤ sizeLine by decide)
      have I2 : Inv X ps σ H1 { s1 with heap := s1.heap.push { cls := .type "tuple", data := .seq [u1, u2].toArray } } := I1.kept (t' := s1.toks) fun b o e => Heap.get?_push_of_some _ e
      obtain ⟨x1, hot⟩ := hc.at I2
      rw [hw]
      refine wpAny_bind (wpAny_pure (wpAny_bind (wpAny_rule (wpAny_bind (unpack_hot (vs := #[u1, u2]) hot (IsTup.new s1.heap _) fun h' eb => ?_)))))
      have I3 := I2.kept (h' := h') (t' := s1.toks) fun b o e => eb b o (Nat.ne_of_lt (Heap.lt_size e)) e
      show wpAny _ _ (assignInOrder [fun z => bindName X.env y z, fun z => bindName X.env x z] [u2, u1] >>= fun _ => pure Flow.next) _ _ _
      refine wpAny_bind (assignInOrder_cons (wpAny_bindName (store_ok I3 hN hj (.inl hy) rw2 (fun s2 I4 => assignInOrder_cons (wpAny_bindName (store_ok I4 hN hi (.inl hx) rv (fun s3 I5 => assignInOrder_nil (wpAny_pure ⟨_, H1, ?_, k⟩)) (.inr hx)))) (.inr hy))))
      rw [List.set_comm (some v) (some w) hij]
      exact I5⟩
end
end Sd
namespace Sd
open PySem PySem.Spec PyProof.Rows L2 L2H HotX
/-- such a def's promise: p the handled error, its object -/
structure FnE (P : Program) (w : World) (K : PySem.W.Frag) (mg : Str → Option Value) (base : Heap) (k : Nat) (f : Addr) (fd : FuncData) (ps : List Str) (sp : Addr × Obj → Sp) : Prop where
  len : ∀ p vs H Q E, sp p vs H Q E → vs.length = ps.length
  run : ∀ (p : Addr × Obj) (A : Around) (outer : List Env) (s : Shared) (H : Hp) (args : Args) (us : List Value) (vs : List V) (Q : VK) (E : XK), RoomH k A → Hot1 A p → PinOk outer H s p → Env0 P w K mg base A outer s H → BindsTo s fd args (ps.zip us) → Vals vs us → sp p vs H Q E →
    codeAny (model P w) A (.call (.ref f) args) (CR CX0 outer P w H s Q E) s
theorem fnE_of {P : Program} {w : World} {K : PySem.W.Frag} {mg : Str → Option Value} {base : Heap} {k : Nat} {f : Addr} {fd : FuncData} {x : Str} {st : Stmt} {N ps : List Str} {sp : Addr × Obj → Sp} (F : Fun K x x st f fd) (sc : FnScope N ps (defScope st)) (len : ∀ p vs H Q E, sp p vs H Q E → vs.length = ps.length)
    (hb : ∀ (cdv : Value) (p : Addr × Obj) (A : Around) (outer : List Env) (s : Shared) (H : Hp) (vs : List V) (Q : VK) (E : XK), Hot1 A p → RoomH k (A.deeper (envOfC x (defScope st) s.heap.objs.size f cdv)) → sp p vs H Q E → ∃ t, PSs (cxH CX0 P w K mg base N x (defScope st) f cdv A outer s H E p) (defBody st) t ∧ t { nx := fun _ H' => Q .non H', rt := Q } (L2.start N vs) H) :
    FnE P w K mg base (k + 1) f fd ps sp := by
  obtain ⟨oc, od, kV, doc, pm, an, cdv, ct, sl, rfl, lk, cd⟩ := F.ex
  refine ⟨len, fun p A outer s H args us vs Q E hr hot hpin e0 hbd r h => ?_⟩
  have kb := fun b o e => (e0.bs b o e).1
  have KX : K.In s.heap := e0.mod.kin.keeps kb
  refine codeAny_call_function hr.depth (KX _ _ lk) rfl sc.co sc.gen rfl (PySem.W.codeRec_of KX cd) (hbd _ _ _ _ ?_)
  refine wpAny_newFunctionEnv_cells sc.kind (fun y hy => (sc.par y.1 (List.of_mem_zip hy).1).imp id fun q => ⟨q, PySem.W.cellsFrom_some _ _ _ (.inl q)⟩) fun env he s1 x1 => ?_
  subst he
  obtain ⟨t, ht, hq⟩ := hb cdv p A outer s H vs Q E hot (hr.deeper _) h
  refine ⟨(e0.mod.nolimit.keeps kb).keeps x1.toInCall.keep, codeAny_func (wpAny_mono (ht.run [] s1 (L2.start N vs) H _ (inv_startH sc hpin e0 (len _ _ _ _ _ h) r x1) hq) (fun fl s' hs => ?_) fun _ _ k => k)⟩
  cases fl with
  | ret u => obtain ⟨v, σ', H', J, rv, q⟩ := hs; exact ⟨v, H', J.os, J.bare, J.base, J.hok, rv, q⟩
  | next => obtain ⟨σ', H', J, q⟩ := hs; exact ⟨.non, H', J.os, J.bare, J.base, J.hok, rfl, q⟩
  | brk => obtain ⟨_, _, _, q⟩ := hs; exact q.elim
  | cont => obtain ⟨_, _, _, q⟩ := hs; exact q.elim
structure HasE (P : Program) (w : World) (K : PySem.W.Frag) (mg : Str → Option Value) (base : Heap) (k : Nat) (x : Str) (ps : List Str) (S : Addr × Obj → SpD) : Prop where
  ex : ∃ f fd, FnE P w K mg base k f fd ps (fun p => spOf K (S p)) ∧ mg x = some (.ref f) ∧ PySem.W.keepIn K (.ref f) = true ∧ Binds K fd ps []
section
variable {X : Cx} {p : Addr × Obj} {k : Nat} {x : Str} {ps : List Str} {S : Addr × Obj → SpD} {e : Expr} {es : List Expr} {t : TA} {q pos : Pos}
theorem pe_callE {K : PySem.W.Frag} (h : HasE X.prog X.w K X.mg X.base k x ps S) (hr : RoomH k X.A) (hot : Hot1 X.A p) (hp : p ∈ X.pn) (hg : Gl X x) (ha : PA X (e :: es) t) (hK : X.K = K := by rfl) (hdb : (x == ("__debug__" : Str)) = false := by decide)
    (he : starEach (e :: es) X.env = (false, eval e X.env) :: starEach es X.env := by rfl) (hpl : (backTo pos (starEach es X.env)).any (·.1) = false := by rfl) : PE X (.Call (.Name x q) (e :: es) [] pos) (tCall (spOf K (S p)) [] E0 t) := by
  subst hK
  obtain ⟨f, fd, F, hm, hk, hb⟩ := h.ex
  refine ⟨fun pins s σ H Q I h => wpAny_Call_Name_kw (ld_glob I hg hm (PySem.W.callWith_K (h₀ := X.base) I.ok.mod.kin hk (thn (ha.run pos pins s σ H _ I h) fun us s1 hh => ?_) he hpl) hdb)⟩
  obtain ⟨vs, H1, I1, r, hsp⟩ := hh
  rw [List.append_nil] at hsp
  obtain ⟨g1, g2, g3, g4, g5⟩ := I1.pin p (List.mem_append_left _ hp)
  have hl : us.length = ps.length := r.length.symm.trans (F.len _ _ _ _ _ hsp)
  have b := hb s1 us I1.kIn (by rw [List.append_nil]; exact hl)
  rw [List.append_nil] at b
  refine ⟨I1.kIn, wpAny_call (codeAny_mono (F.run p X.A X.stack s1 H1 ⟨us, []⟩ us vs Q E0 hr hot ⟨g1, g2, hot_stack I1 hp, g5⟩ I1.env0 b r hsp) fun res s' hq => ?_)⟩
  cases res with
  | error er => exact (show False from hq).elim
  | ok fl =>
    cases fl with
    | ret u => exact I1.after hq
    | next => exact False.elim hq
    | brk => exact False.elim hq
    | cont => exact False.elim hq
/-- the error's dict, if it has one, is known -/
def DictAt (d : Option Addr) (H : Hp) : Prop := d = none ∨ ∃ dd fs, d = some dd ∧ H dd = some (.xd fs)
def rIsP (K : PySem.W.Frag) (D : Addr) (p : Addr × Obj) : List V → Hp → VK → Prop := fun xs H Q => DictAt p.2.dict H ∧ ∃ (c : V) (cv : Value) (b : Bool), xs = [.ref p.1, c] ∧ (∀ u, RelV c u → u = cv) ∧ PySem.W.kitOne K (.ref D) cv = some b ∧ Q (.bl b) H
theorem inst_of {D : Addr} {pins : List (Addr × Obj)} {σ : L2.St} {H : Hp} {s : Shared} (I : Inv X pins σ H s) (hp : p ∈ X.pn) (hc : p.2.cls = .ref D) (hf : ∃ vs, p.2.data = .fields vs) (hd : DictAt p.2.dict H) : ∃ od, PySem.W.InstAt s.heap p.1 p.2 D od := by
  obtain ⟨vs, hv⟩ := hf
  obtain ⟨g, _⟩ := I.pin p (List.mem_append_left _ hp)
  have nc : PySem.W.notCls p.2 = true := by unfold PySem.W.notCls; rw [hv]
  rcases hd with hd | ⟨dd, fs, hd, hx⟩
  · exact ⟨none, g, hc, nc, by rw [hd]; trivial⟩
  · obtain ⟨mA, hns, _⟩ := I.hok dd _ hx
    obtain ⟨od, ho, _⟩ := lookIn_ns hns
    exact ⟨some od, g, hc, nc, by rw [hd]; exact ho⟩
theorem call_isP {D : Addr} {K : PySem.W.Frag} (C : ExcC K D) (hp : p ∈ X.pn) (hc : p.2.cls = .ref D) (hf : ∃ vs, p.2.data = .fields vs) (hK : X.K = K := by rfl) : CallR X (.builtin "isinstance") (rIsP K D p) := by
  subst hK
  rintro pins s σ H xs us Q I r ⟨hd, c, cv, b, rfl, hcv, e, q⟩
  cases r with
  | cons rx r2 =>
    cases r2 with
    | cons rt r3 =>
      cases r3
      cases rx
      cases hcv _ rt
      obtain ⟨od, J⟩ := inst_of I hp hc hf hd
      have hcl : (PySem.W.clsIn X.K D).isSome = true := by
        obtain ⟨cd, h1, _⟩ := PySem.W.any_some C.hd
        rw [h1]; rfl
      exact PySem.W.kia_one (PySem.W.kitx_exc hcl C.hg C.hk C.hs C.ha C.hn C.ht C.hm) I.kIn J e (fun z => nomatch z) fun tk => ⟨.bl b, H, I.kept (t' := tk) fun _ _ z => z, rfl, q⟩
/-- e.f, e the handled error -/
def tFldE (C : Addr) (f : Str) (a : Addr) (cls : Value) (d : Option Addr) (te : TE) : TE := fun σ H Q => te σ H fun x H1 => x = .ref a ∧ cls = .ref C ∧ ∃ (dd : Addr) (v : V), d = some dd ∧ H1 dd = some (.xd [(f, v)]) ∧ Q v H1
theorem pe_fldE {C fI : Addr} {f : Str} {te : TE} (T : SupX.Sup X.K X.mg X.prog x f C fI) (hp : p ∈ X.pn) (hf : ∃ vs, p.2.data = .fields vs) (he : PE X e te) (hb : attributeBase e f X.env (eval e X.env) = eval e X.env := by rfl) : PE X (.Attribute e f pos) (tFldE C f p.1 p.2.cls p.2.dict te) := ⟨fun pins s σ H Q I h => by
  refine attr_of hb (thn (he.run pins s σ H _ I h) fun u s1 hh => ?_)
  obtain ⟨x, H1, I1, rx, rfl, hc, dd, v, hd, ea, k⟩ := hh
  obtain rfl : u = Value.ref p.1 := rx
  obtain ⟨g, _⟩ := I1.pin p (List.mem_append_left _ hp)
  obtain ⟨mA, hns, hr⟩ := I1.hok dd _ ea
  obtain ⟨od, ho, hl⟩ := lookIn_ns hns
  obtain ⟨u, hu, ru⟩ := RelO.some_of (v := v) (o := mA f) (by have := hr f; rwa [show List.lookup f [(f, v)] = some v by simp [List.lookup]] at this)
  obtain ⟨vs, hv⟩ := hf
  exact HandSPX.exc_get I1.kIn ⟨g, hc, by unfold PySem.W.notCls; rw [hv], by rw [hd]; exact ho⟩ T.ga T.gg T.exC (PySem.W.findObj_own T.hdC T.noN rfl (by rw [hl, hu])) (handed_of ru) ⟨v, H1, I1.tok _, ru, k⟩⟩
end
end Sd
namespace Sd
open PySem PySem.Spec PyProof.Rows L2 LamX
abbrev lamN (X : Cx) (A : Around) (outer : List Env) (s : Shared) (H : Hp) (E : XK) (scope : Scope) (f c : Addr) : Cx :=
  (lamCx X A outer s H E scope f c).wish fun v t => wpAny (model X.prog X.w) (A.deeper (lamEnv X scope s.heap.objs.size f c)) (leaving (lamEnv X scope s.heap.objs.size f c) v) (fun _ t2 => L2N.CX X.prog X.w outer H s E v t2) (fun v' t2 => L2N.CX X.prog X.w outer H s E v' t2) t
/-- the def that got it, at its own start -/
abbrev cxG (X : Cx) (N : List Str) (x : Str) (sg : Scope) (g : Addr) (cd : Value) (s : Shared) (H : Hp) : Cx := cxOf CX0 X.prog X.w X.K X.mg X.base N x sg g cd X.A X.stack s H E0
section
variable {X : Cx} {ps : List (Addr × Obj)} {σ : L2.St} {H : Hp} {s : Shared}
theorem pe_actN {N : List Str} {x a : Str} {sg scope : Scope} {g f c : Addr} {cd pm ct : Value} {params : Arguments} {body : Expr} {k i : Nat} {pn : List (Addr × Obj)} {xe : Value → Shared → Prop} {W : WX} {tb : XK → TE} {p1 p2 : Pos} (I : Inv X ps σ H s) (L : LamS X.env.scope scope)
    (hf : s.heap.get? f = some (PySem.W.kla_obj "<lambda>" (X.env.qual ++ "<lambda>") params body scope (cloFrom X.env.cells scope.names []) pm c ct)) (hn : H f = none) (hfr : f ∉ frs X.stack)
    (hbind : bindArgs (PySem.W.kla_fn "<lambda>" (X.env.qual ++ "<lambda>") params body scope (cloFrom X.env.cells scope.names []) pm (.ref c) ct) ⟨[], []⟩ = pure []) (tk : L2N.Takes ((cxG X N x sg g cd s H).tr pn xe) W)
    (hr : Room (k + 1) (X.A.deeper (envOfC x sg s.heap.objs.size g cd))) (hb : ∀ (E : XK) (A : Around) (outer : List Env) (s : Shared) (H : Hp), Room k (A.deeper (lamEnv X scope s.heap.objs.size f c)) → PE (lamN X A outer s H E scope f c) body (tb E)) (hN : N[i]? = some a) (hv : Vis sg a)
    (hd : (a == ("__debug__" : Str)) = false := by decide) (hcd : (a == ("__classdict__" : Str)) = false := by decide) :
    PE ((cxG X N x sg g cd s H).tr pn xe) (.Call (.Name a p1) [] [] p2) (fun τ G Q => τ[i]? = some (some (.ref f)) ∧ G c = some (CodeO c (X.env.qual ++ "<lambda>")) ∧ tb (fun cls d H' => W cls d τ H') σ G Q) := ⟨fun pz sz τ G Q J h => by
  generalize hE : (fun cls d H' => W cls d τ H' : XK) = E at h
  obtain ⟨h1, h2, h3⟩ := h
  have rd := (pe_var (X := (cxG X N x sg g cd s H).tr pn xe) (pos := p1) hN hv hd hcd).run pz sz τ G (fun v G' => v = .ref f ∧ G = G') J ⟨.ref f, h1, rfl, rfl⟩
  refine wpAny_Call_Name_kw (thn rd fun u t hh => ?_)
  obtain ⟨v, G', J', rv, ev, eG⟩ := hh
  subst ev
  rw [← eG] at J'
  obtain rfl : u = Value.ref f := rv
  have of1 := J'.base.keep f _ hf hn hfr (fun z => nomatch (show f ∈ ([] : List Addr) from z))
  have un : Un (frs X.stack) [] H G s.heap t.heap := J'.base
  obtain ⟨⟨oc, vc, tc, eo, dc, ec⟩, _, _⟩ := J'.hok c _ h2
  have run : codeAny (model X.prog X.w) (X.A.deeper (envOfC x sg s.heap.objs.size g cd)) (.call (.ref f) ⟨[], []⟩) (CR (L2N.CX X.prog X.w) (envOfC x sg s.heap.objs.size g cd :: X.stack) X.prog X.w G t Q E) t := by
    refine PySem.W.kla_callFunE hr.depth of1 rfl L.co L.gen rfl ⟨c, oc, vc, tc, rfl, eo, dc, ec⟩ ?_
    rw [hbind]
    refine wpAny_pure (wpAny_newFunctionEnv (fun y hy => (L.own y hy).2) (fun y hy => nomatch hy) (fun h1 ns sb => ⟨J'.nolimit.fresh _ sb, ?_⟩) L.kind)
    have kp : ∀ b o, t.heap.get? b = some o → h1.get? b = some o := fun b o e => sb.extBut b o (Nat.ne_of_lt (Heap.lt_size e)) (Heap.get?_push_of_some _ e)
    have I0 := (lam_start2 (E := E) (f := f) (c' := c) (tk := t.toks + ([] : List (Str × Value)).length) I L J'.env0 hr.hd un ns kp).wish fun v t' => wpAny (model X.prog X.w) ((X.A.deeper (envOfC x sg s.heap.objs.size g cd)).deeper (lamEnv X scope t.heap.objs.size f c)) (leaving (lamEnv X scope t.heap.objs.size f c) v) (fun _ t2 => L2N.CX X.prog X.w (envOfC x sg s.heap.objs.size g cd :: X.stack) G t E v t2) (fun v' t2 => L2N.CX X.prog X.w (envOfC x sg s.heap.objs.size g cd :: X.stack) G t E v' t2) t'
    refine PySem.W.kla_codeExpr (wpAny_mono ((hb E _ _ t G (hr.deeper _)).run [] _ σ G Q I0 h3) (fun v t' hq => ?_) fun _ _ hq => hq)
    obtain ⟨v', G2, K2, r2, q2⟩ := hq
    exact ⟨v', G2, K2.os, K2.bare, K2.base, K2.hok, r2, q2⟩
  refine PySem.W.callWith_F0 ⟨_, _, _, _, of1⟩ (wpAny_call (codeAny_mono run fun r t' hq => ?_))
  cases r with
  | error er => subst hE; exact L2N.passAt tk τ pz G t er t' J' hq
  | ok fl =>
    cases fl with
    | ret u => exact J'.after hq
    | next => exact False.elim hq
    | brk => exact False.elim hq
    | cont => exact False.elim hq⟩
/-- the making of a lambda: nothing new, or a new code object in the table at B -/
def LamStep (B : Addr) (q : Str) (H H1 : Hp) : Prop := H1 = H ∨ ∃ (vs : Array Value) (l : Pos) (c : Addr), H B = some (.tbl vs) ∧ H c = none ∧ H1 = upd (upd H B (.tbl (vs ++ #[rawInt l.line, rawInt l.col, .ref c]))) c (CodeO c q)
theorem lam_new {c B : Addr} {params : Arguments} {body : Expr} {scope : Scope} {l : Pos} {E Q : Value → Shared → Prop} (I : Inv X ps σ H s) (TB : TabB X.base X.mg c B) (hcode : X.env.code = .ref c) (hT : TabS H B (X.env.qual ++ "<lambda>")) (hdef : defaultsOf params X.env = ([], []))
    (hfree : ∀ y ∈ scope.names, y.2 = .free → ∃ c, X.env.cells.lookup y.1 = some c)
    (k : ∀ (f d : Addr) (pm ct : Value) (H1 : Hp) (t : Shared), Inv X ps σ H1 t → LamStep B (X.env.qual ++ "<lambda>") H H1 → t.heap.get? f = some (PySem.W.kla_obj "<lambda>" (X.env.qual ++ "<lambda>") params body scope (cloFrom X.env.cells scope.names []) pm d ct) → H1 f = none → f ∉ frs X.stack →
      H1 d = some (CodeO d (X.env.qual ++ "<lambda>")) → Q (.ref f) t) : wpAny (model X.prog X.w) X.A (eval (.Lambda params body scope l) X.env) Q E s := by
  obtain ⟨vs, hB, tr, old⟩ := hT
  have eB : s.heap.get? B = some { cls := .none, data := .fields vs } := I.hok B _ hB
  have high : ∀ f, s.heap.objs.size ≤ f → f ∉ frs X.stack := fun f hf z => (List.mem_cons.mp (I.stkSub _ z)).elim (fun e => absurd I.lt (by rw [← e]; exact Nat.not_lt.mpr hf)) (I.nofs hf)
  refine PySem.W.kla_eval hdef ?_
  cases hc : codeAmong l vs.toList with
  | some cv =>
    obtain ⟨d, rfl, hd⟩ := old l cv hc
    refine PySem.W.kla_makeFunctionHit (mg := X.mg) (ps := vs) (closure_ok hfree) I.ok.glob (I.mod.glob.keeps I.bk) hcode (TB.code.keeps I.bk) eB tr hc (TB.bm.keeps I.bk) fun ct h' tk hx hsz => ?_
    exact k h'.objs.size d _ ct H _ (I.kept (t' := tk) fun b o e => Heap.get?_push_of_some _ (hx b o e)) (.inl rfl) (Heap.get?_push_size _ rfl) (I.hok.fresh hsz) (high _ hsz) hd
  | none =>
    refine PySem.W.kla_makeFunction (mg := X.mg) (ps := vs) (closure_ok hfree) I.ok.glob (I.mod.glob.keeps I.bk) hcode (TB.code.keeps I.bk) eB tr hc TB.gP (TB.bm.keeps I.bk) fun d ct h' tk hx hge hlt hrec htb => ?_
    obtain ⟨d2, oc, vc, tc, e2, eo, dc, ec⟩ := hrec
    cases e2
    have hsz : s.heap.objs.size ≤ h'.objs.size := Nat.le_trans hge (Nat.le_of_lt hlt)
    have nd : H d = none := I.hok.fresh hge
    refine k h'.objs.size d ((X.mg "__name__").getD .none) ct _ _ (inv_table (t' := tk) (more := #[rawInt l.line, rawInt l.col, .ref d]) (h' := h'.push (PySem.W.kla_obj "<lambda>" (X.env.qual ++ "<lambda>") params body scope (cloFrom X.env.cells scope.names []) ((X.mg "__name__").getD .none) d ct)) I hB
      (fun b o hb e => Heap.get?_push_of_some _ (hx b o hb e)) (Heap.get?_push_of_some _ htb) hge ⟨oc, vc, tc, Heap.get?_push_of_some _ eo, dc, ec⟩) (.inr ⟨vs, l, d, hB, nd, rfl⟩) (Heap.get?_push_size _ rfl) ?_ (high _ hsz) upd_same
    rw [upd_ne (Nat.ne_of_gt hlt), upd_ne (Nat.ne_of_gt (Nat.lt_of_lt_of_le (Heap.lt_size eB) hsz))]
    exact I.hok.fresh hsz
def tLamD (B : Addr) (q : Str) (TT : (XK → Hp → VK → Prop) → Hp → VK → Prop) (t : XK → TE) : TE := fun σ H Q => TabS H B q ∧ ∀ H1, LamStep B q H H1 → TT (fun E H' Q' => t E σ H' Q') H1 Q
/-- what the def makes of it: TT -/
def GivesN (X : Cx) (N : List Str) (x : Str) (sg : Scope) (g : Addr) (cd : Value) (bg : List Stmt) (a : Str) (q : Str) (TT : (XK → Hp → VK → Prop) → Hp → VK → Prop) : Prop :=
  ∀ (f c : Addr) (s : Shared) (H : Hp) (Q : VK) (tl : XK → Hp → VK → Prop), Room 1 (X.A.deeper (envOfC x sg s.heap.objs.size g cd)) →
    (∀ (W : WX) (pn : List (Addr × Obj)) (xe : Value → Shared → Prop) (p1 p2 : Pos), L2N.Takes ((cxG X N x sg g cd s H).tr pn xe) W →
      PE ((cxG X N x sg g cd s H).tr pn xe) (.Call (.Name a p1) [] [] p2) (fun τ G Q => τ[0]? = some (some (.ref f)) ∧ G c = some (CodeO c q) ∧ tl (fun cls d H' => W cls d τ H') G Q)) → H c = some (CodeO c q) → TT tl H Q →
    ∃ t, PSs (cxG X N x sg g cd s H) bg t ∧ t { nx := fun _ H' => Q .non H', rt := Q } (L2.start N [.ref f]) H
theorem pe_lamN {TT : (XK → Hp → VK → Prop) → Hp → VK → Prop} {x a : Str} {st : Stmt} {fd : FuncData} {g c B : Addr} {k : Nat} {N : List Str} {params : Arguments} {body : Expr} {scope : Scope} {t : XK → TE} {p lp pos : Pos} (hg : Gl X x) (hm : X.mg x = some (.ref g)) (F : Fun X.K x x st g fd)
    (hb : L2.Binds X.K fd [a] []) (Sg : FnScope N [a] (defScope st)) (h0 : N[0]? = some a) (hva : Vis (defScope st) a) (hG : ∀ cd, GivesN X N x (defScope st) g cd (defBody st) a (X.env.qual ++ "<lambda>") TT) (TB : TabB X.base X.mg c B) (hcode : X.env.code = .ref c)
    (hr : Room (k + 2) X.A) (L : LamS X.env.scope scope) (hdef : defaultsOf params X.env = ([], []))
    (hbind : ∀ (q : Str) (cl : List (Str × Addr)) (pm cv ct : Value), bindArgs (PySem.W.kla_fn "<lambda>" q params body scope cl pm cv ct) ⟨[], []⟩ = pure [])
    (hbody : ∀ (A : Around) (outer : List Env) (s : Shared) (H : Hp) (E : XK) (f c : Addr), Room k (A.deeper (lamEnv X scope s.heap.objs.size f c)) → PE (lamN X A outer s H E scope f c) body (t E))
    (hdb : (x == ("__debug__" : Str)) = false := by decide) (hd : (a == ("__debug__" : Str)) = false := by decide) (hcd : (a == ("__classdict__" : Str)) = false := by decide) : PE X (.Call (.Name x p) [.Lambda params body scope lp] [] pos) (tLamD B (X.env.qual ++ "<lambda>") TT t) := ⟨fun ps s σ H Q I h => by
  obtain ⟨hT, h⟩ := h
  obtain ⟨oc, od, kV, doc, pm, an, cdv, ct, sl, rfl, lk, cdk⟩ := F.ex
  refine wpAny_Call_Name_kw (ld_glob I hg hm (PySem.W.callWith_K (h₀ := X.base) I.ok.mod.kin F.kp ?_ (by rfl) (by rfl)) hdb)
  refine Calls.spliced_cons (lam_new I TB hcode hT hdef (L.has I.ok) fun f c' pm' ct' H1 s' I1 eN hf hfn hfr hco => Calls.spliced_nil ⟨I1.kIn, ?_⟩)
  have run : codeAny (model X.prog X.w) X.A (.call (.ref g) ⟨[.ref f], []⟩) (CR CX0 X.stack X.prog X.w H1 s' Q E0) s' :=
    run_ofS (N := N) (ps := [a]) (us := [.ref f]) (vs := [.ref f]) lk cdk Sg hr I1.env0 (hb s' [.ref f] I1.kIn rfl) (.cons rfl .nil) rfl fun hr' =>
      hG cdv f c' s' H1 Q (fun E H' Q' => t E σ H' Q') (hr'.mono (Nat.le_add_left 1 _)) (fun W pn xe p1 p2 tk => pe_actN (i := 0) I1 L hf hfn hfr (hbind _ _ _ _ _) tk hr' (fun E A outer s H hr2 => hbody A outer s H E f c' hr2) h0 hva hd hcd) hco (h H1 eN)
  refine wpAny_call (codeAny_mono run fun r s2 hq => ?_)
  cases r with
  | error e => exact (show False from hq).elim
  | ok fl =>
    cases fl with
    | ret u => exact I1.after hq
    | next => exact False.elim hq
    | brk => exact False.elim hq
    | cont => exact False.elim hq⟩
end
end Sd
namespace Sd
open PySem L2 PyProof.Rows L2H LamX
section
variable {K : PySem.W.Frag} {δ : DSt} {M : Mem} {P : SV → Mem → Prop} {D : DEnds} {p : Addr × Obj} {C D0 : Addr} {te to : TE}
def DictM (d : Option Addr) (M : Mem) : Prop := d = none ∨ ∃ dd fs, d = some dd ∧ M.o dd = some (.exd fs)
theorem DictM.at {d : Option Addr} {H H1 : Hp} (h : DictM d M) (w : WOk K H M H1) : DictAt d H1 := by
  rcases h with h | ⟨dd, fs, h, k⟩
  · exact .inl h
  · obtain ⟨_, o, h2, vs, rfl, _⟩ := w.obj dd _ k
    exact .inr ⟨dd, _, h, h2⟩
theorem dC_isPm {b : Bool} (hd : DictM p.2.dict M) (e : PySem.W.kitOne K (.ref D0) (.ref C) = some b) (k : P (.d (.bool b)) M) : dC K (rIsP K D0 p) [.m p.1, .m C] M P := fun vs H H1 hv w Q q => by
  cases hv with
  | cons h1 h2 =>
    cases h2 with
    | cons h3 h4 =>
      cases h4
      cases h1
      cases h3
      exact ⟨hd.at w, .ref C, .ref C, b, rfl, fun u r => r, e, q _ _ H M H1 k Step.refl w (.bl b)⟩
theorem dC_isPt {b : Bool} {n : String} (hd : DictM p.2.dict M) (e : PySem.W.kitOne K (.ref D0) (.type n) = some b) (k : P (.d (.bool b)) M) : dC K (rIsP K D0 p) [.m p.1, .t n] M P := fun vs H H1 hv w Q q => by
  cases hv with
  | cons h1 h2 =>
    cases h2 with
    | cons h3 h4 =>
      cases h4
      cases h1
      cases h3
      exact ⟨hd.at w, .ty n, .type n, b, rfl, fun u r => r, e, q _ _ H M H1 k Step.refl w (.bl b)⟩
theorem dE_fldE {f : Str} {a : Addr} {cls : Value} {d : Option Addr} (h : dE K te δ M fun x M1 => x = .m a ∧ cls = .ref C ∧ ∃ dd r, d = some dd ∧ M1.o dd = some (.exd [(f, r)]) ∧ P r M1) : dE K (tFldE C f a cls d te) δ M P := fun σ H H1 e w Q q =>
  h σ H H1 e w _ fun v x H' M' H2 hh s w' vx => by
    obtain ⟨rfl, hc, dd, r, hd, ho, k⟩ := hh
    obtain rfl : v = .ref a := vx
    obtain ⟨_, o, h2, vs, rfl, hv⟩ := w'.obj dd _ ho
    cases hv with
    | cons h3 h4 =>
      cases h4
      exact ⟨rfl, hc, dd, _, hd, h2, q _ r H' M' H2 k s w' h3⟩
theorem txt_dq {H : Hp} : ∀ ys : List Str, DqAll K H (ys.map V.str) (ys.map .str)
  | [] => .nil
  | y :: ys => .cons (.str y) (txt_dq ys)
theorem dE_split (h : dE K to δ M fun x M1 => ∃ a, x = .d (.str a) ∧ dE K te δ M1 fun y M2 => ∃ b, y = .d (.str b) ∧ (b.length == 0) = false ∧ a.length + 2 ≤ sizeLine ∧ P (.d (.list ((Txt.split a b).map .str))) M2) :
    dE K (tM1 (fun x xs H Q => ∃ a b, x = .str a ∧ xs = [.str b] ∧ (b.length == 0) = false ∧ a.length + 2 ≤ sizeLine ∧ rNewStrs (Txt.split a b) H Q) to te) δ M P := fun σ H H1 e w Q q =>
  h σ H H1 e w _ fun v x H' M' H2 hh s w' vx => by
    obtain ⟨a, rfl, hb⟩ := hh
    cases vx
    refine ⟨⟨a, rfl⟩, hb σ H' H2 (e.mono s.pure) w' _ fun v2 y H3 M3 H4 hk s2 w2 vy => ?_⟩
    obtain ⟨b, rfl, hz, hl, k⟩ := hk
    cases vy
    refine ⟨a, b, rfl, rfl, hz, hl, fun l hl2 => ?_⟩
    obtain ⟨w3, s3⟩ := laid_ok (o := .lst ((Txt.split a b).map V.str)) w2 hl2
    exact q _ _ _ M3 _ k ((s.trans w w' s2).trans w w2 s3) w3 (.lst (a := l) upd_same (txt_dq _))
theorem dE_join (h : dE K to δ M fun x M1 => ∃ a, x = .d (.str a) ∧ dE K te δ M1 fun y M2 => ∃ ys : List Str, SeqL M2 y (ys.map .str) ∧ (ys.map (·.length)).sum + ys.length * a.length ≤ 16777216 ∧ P (.d (.str (Txt.join a ys))) M2) :
    dE K (tM1 (fun x xs H Q => ∃ a p, ∃ ys : List Str, x = .str a ∧ xs = [.ref p] ∧ (SqL K H p (ys.map V.str) ∨ SqT K H p (ys.map V.str)) ∧ (ys.map (·.length)).sum + ys.length * a.length ≤ 16777216 ∧ Q (.str (Txt.join a ys)) H) to te) δ M P := fun σ H H1 e w Q q =>
  h σ H H1 e w _ fun v x H' M' H2 hh s w' vx => by
    obtain ⟨a, rfl, hb⟩ := hh
    cases vx
    refine ⟨⟨a, rfl⟩, hb σ H' H2 (e.mono s.pure) w' _ fun v2 y H3 M3 H4 hk s2 w2 vy => ?_⟩
    obtain ⟨ys, hs, hl, k⟩ := hk
    obtain ⟨l, us, rfl, h1, h2⟩ := hs.sq w2 vy
    obtain rfl := strs_of h2
    exact ⟨a, l, ys, rfl, rfl, .inl (SqL.of h1), hl, q _ _ H3 M3 H4 k (s.trans w w' s2) w2 (.str _)⟩
end
theorem kpe_join {X : Cx} {o e : Expr} {to te : TE} {apos pos : Pos} (K : PySem.W.Frag) (ho : PE X o to) (he : PE X e te) (hK : X.K = K := by rfl) (hs : starEach [e] X.env = [(false, eval e X.env)] := by rfl) (hbase : attributeBase o "join" X.env (eval o X.env) = eval o X.env := by rfl) (hline : (apos.endLine == pos.line) = true := by rfl) :
    PE X (.Call (.Attribute o "join" apos) [e] [] pos) (tM1 (fun x xs H Q => ∃ a p, ∃ ys : List Str, x = .str a ∧ xs = [.ref p] ∧ (SqL K H p (ys.map V.str) ∨ SqT K H p (ys.map V.str)) ∧ (ys.map (·.length)).sum + ys.length * a.length ≤ 16777216 ∧ Q (.str (Txt.join a ys)) H) to te) := hK ▸ pe_join ho he hs hbase hline
theorem okE_of {P0 : Program} {w0 : World} {K : PySem.W.Frag} {mg : Str → Option Value} {base : Heap} {x : Str} {st : Stmt} {f : Addr} {fd : FuncData} {N ps : List Str} {k : Nat} {S : Addr × Obj → SpD} (F : Fun K x x st f fd) (sc : FnScope N ps (defScope st)) (len : ∀ p rs M P, S p rs M P → rs.length = ps.length)
    (hbody : ∀ (p : Addr × Obj) (cdv : Value) (A : Around) (outer : List Env) (s : Shared) (H : Hp) (E : XK) (rs : List SV) (M : Mem) (P : SV → Mem → Prop), Hot1 A p → RoomH k (A.deeper (envOfC x (defScope st) s.heap.objs.size f cdv)) → S p rs M P →
      ∃ t, PSs (cxH CX0 P0 w0 K mg base N x (defScope st) f cdv A outer s H E p) (defBody st) t ∧ dS K t { nx := fun _ M' => rtOf P (.d .none) M', rt := rtOf P } (startD N.length rs) M) : FnE P0 w0 K mg base (k + 1) f fd ps fun p => spOf K (S p) := by
  refine fnE_of F sc (fun p vs H Q E h => ?_) (fun cdv p A outer s H vs Q E hot hr h => ?_)
  · obtain ⟨rs, H', M, P, _, v, hS, _⟩ := h
    rw [v.length]
    exact len p rs M P hS
  · obtain ⟨rs, H', M, P, wk, v, hS, q⟩ := h
    obtain ⟨t, h1, h2⟩ := hbody p cdv A outer s H E rs M P hot hr hS
    refine ⟨t, h1, h2 _ (L2.start N vs) H' H (start_ok v) wk ⟨fun δ' M' σ' H2 H3 p st e w' => ?_, fun r v H2 M' H3 p st w' vv => ?_, fun _ _ _ _ _ p => p.elim, fun _ _ _ _ _ p => p.elim, fun _ _ _ _ _ _ _ p => p.elim⟩⟩
    · obtain ⟨M0, p, ms⟩ := p
      obtain ⟨s1, w1⟩ := cut_ok ms st w'
      exact q _ _ H2 M0 H3 p s1 w1 .non
    · obtain ⟨M0, p, ms⟩ := p
      obtain ⟨s1, w1⟩ := cut_ok ms st w'
      exact q _ _ H2 M0 H3 p s1 w1 vv
section
variable {K : PySem.W.Frag} {δ : DSt} {M : Mem} {P : SV → Mem → Prop} {B : Addr} {q : Str}
theorem lam_step {H H1 H1' : Hp} (w : WOk K H M H1) (hB : M.o B = some (.tab q)) (h : LamStep B q H1 H1') : ∃ H', WOk K H' M H1' ∧ Step H H1 M H' H1' M := by
  rcases h with rfl | ⟨vs, l, c, h1, h2, rfl⟩
  · exact ⟨H, w, Step.refl⟩
  obtain ⟨nB, ob, e1, us, rfl, tr, old⟩ := w.obj B _ hB
  obtain rfl : vs = us := by rw [e1] at h1; cases h1; rfl
  have nc := w.freshH h2
  have ncB : c ≠ B := by rintro rfl; rw [e1] at h2; cases h2
  have ne : ∀ {b : Addr} {o : HO}, H1 b = some o → b ≠ c := fun {b o} e k => by rw [k, h2] at e; cases e
  refine ⟨upd H c (CodeO c q), ⟨fun b o e => ?_, fun b ds e => ?_, fun b ob e => ?_⟩, ⟨Ex.new nc, fun b o e n1 n2 => ?_, fun b n1 n2 n3 n4 => ?_⟩⟩
  · by_cases k : b = c
    · subst k; rw [upd_same] at e ⊢; exact e
    · rw [upd_ne k] at e ⊢
      rw [upd_ne (by rintro rfl; rw [nB] at e; cases e)]
      exact w.ex b o e
  · obtain ⟨a1, ws, a2, a3⟩ := w.cell b ds e
    have k := ne a2
    refine ⟨by rw [upd_ne k]; exact a1, ws, ?_, a3.mono (Ex.new nc)⟩
    rw [upd_ne k, upd_ne (by rintro rfl; rw [e1] at a2; cases a2)]
    exact a2
  · obtain ⟨a1, o, a2, a3⟩ := w.obj b ob e
    have k := ne a2
    by_cases kB : b = B
    · subst kB
      rw [hB] at e
      cases e
      refine ⟨by rw [upd_ne k]; exact a1, _, by rw [upd_ne k, upd_same], _, rfl, ?_, fun pos cv hc => ?_⟩
      · rw [show (vs ++ #[rawInt l.line, rawInt l.col, .ref c]).toList = vs.toList ++ [rawInt l.line, rawInt l.col, .ref c] by simp]
        exact PySem.TriplesOk_snoc _ _ _ _ tr
      · rw [show (vs ++ #[rawInt l.line, rawInt l.col, .ref c]).toList = vs.toList ++ [rawInt l.line, rawInt l.col, .ref c] by simp] at hc
        rcases among_app _ tr hc with z | z
        · obtain ⟨c0, b1, b2⟩ := old pos cv z
          exact ⟨c0, b1, Ex.new nc _ _ b2⟩
        · exact ⟨c, z, upd_same⟩
    · exact ⟨by rw [upd_ne k]; exact a1, o, by rw [upd_ne k, upd_ne kB]; exact a2, a3.mono (Ex.new nc)⟩
  · rw [upd_ne (ne e), upd_ne (by rintro rfl; rw [hB] at n2; cases n2)]
    exact e
  · have k : b ≠ c := by rintro rfl; exact n4.1 h2
    exact ⟨by rw [upd_ne k]; exact n1, n2, n3⟩
theorem dE_lamD {TT : (XK → Hp → VK → Prop) → Hp → VK → Prop} {t : XK → TE} (hB : M.o B = some (.tab q))
    (h : ∀ (σ : StS) (H H1 : Hp), EnvOk K H σ δ → WOk K H M H1 → ∀ Q : VK, (∀ v r H' M' H2, P r M' → Step H H1 M H' H2 M' → WOk K H' M' H2 → SVOk K H' v r → Q v H2) → TT (fun E H' Q' => t E σ H' Q') H1 Q) : dE K (tLamD B q TT t) δ M P := fun σ H H1 e w Q k => by
  obtain ⟨nB, ob, e1, us, rfl, tr, old⟩ := w.obj B _ hB
  refine ⟨⟨us, e1, tr, fun pos cv hc => (old pos cv hc).imp fun c z => ⟨z.1, w.ex _ _ z.2⟩⟩, fun H1' ls => ?_⟩
  obtain ⟨H', w', s'⟩ := lam_step w hB ls
  exact h σ H' H1' (e.mono s'.pure) w' Q fun v r H3 M3 H4 p s3 w3 vr => k v r H3 M3 H4 p (s'.trans w w' s3) w3 vr
end
end Sd
namespace Sd
open PySem L2 PyProof.Rows LamX
theorem ok_ofC {P0 : Program} {w0 : World} {K : PySem.W.Frag} {mg : Str → Option Value} {base : Heap} {x : Str} {st : Stmt} {f c : Addr} {N ps : List Str} {k : Nat} {S : SpD} {oc kV doc pm ct : Value} {od an : Option Addr} {sl : Array (Option Value)}
    (lk : K.lookup f = some ⟨oc, od, .func (PySem.W.fnOf x x (defArgs st) (defBody st) (defScope st) .none kV doc pm an (.ref c) ct), sl⟩) (cd : PySem.W.codeIn K (.ref c) x = true) (sc : FnScope N ps (defScope st)) (len : ∀ rs M P, S rs M P → rs.length = ps.length)
    (hbody : ∀ (A : Around) (outer : List Env) (s : Shared) (H : Hp) (E : XK), Room k (A.deeper (envOfC x (defScope st) s.heap.objs.size f (.ref c))) →
      ∃ t, PSs (cxOf CX0 P0 w0 K mg base N x (defScope st) f (.ref c) A outer s H E).nox (defBody st) t ∧ ∀ rs M P, S rs M P → dS K t { nx := fun _ M' => rtOf P (.d .none) M', rt := rtOf P } (startD N.length rs) M) :
    FnOk P0 w0 K mg base CX0 (k + 1) f (PySem.W.fnOf x x (defArgs st) (defBody st) (defScope st) .none kV doc pm an (.ref c) ct) ps (spOf K S) := by
  refine fn_of lk cd sc (fun vs H Q E h => ?_) fun A outer s H vs Q E hr h => ?_
  · obtain ⟨rs, H', M, P, _, v, hS, _⟩ := h
    rw [v.length]
    exact len rs M P hS
  · obtain ⟨rs, H', M, P, wk, v, hS, q⟩ := h
    obtain ⟨t, h1, h2⟩ := hbody A outer s H E hr
    refine ⟨t, h1.nox, h2 rs M P hS _ (L2.start N vs) H' H (start_ok v) wk ⟨fun δ' M' σ' H2 H3 p st e w' => ?_, fun r v H2 M' H3 p st w' vv => ?_, fun _ _ _ _ _ p => p.elim, fun _ _ _ _ _ p => p.elim, fun _ _ _ _ _ _ _ p => p.elim⟩⟩
    · obtain ⟨M0, p, ms⟩ := p
      obtain ⟨s1, w1⟩ := cut_ok ms st w'
      exact q _ _ H2 M0 H3 p s1 w1 .non
    · obtain ⟨M0, p, ms⟩ := p
      obtain ⟨s1, w1⟩ := cut_ok ms st w'
      exact q _ _ H2 M0 H3 p s1 w1 vv
/-- the state in which the law is called, one table laid aside -/
theorem start_tab {K : PySem.W.Frag} {H : Hp} {a B : Addr} {q : Str} {ns : List Int} (hB : H B = some (.tbl #[])) (h : SqL K H a (ns.map V.int)) :
    WOk K (fun b => if b = B then none else H b) ⟨fun _ => none, fun b => if b = B then some (.tab q) else none⟩ H ∧ SVOk K (fun b => if b = B then none else H b) (.ref a) (.l ns) := by
  refine ⟨⟨fun b o e => ?_, fun b ds e => (by cases e), fun b ob e => ?_⟩, a, rfl, ?_⟩
  · by_cases k : b = B
    · rw [if_pos k] at e; cases e
    · rw [if_neg k] at e; exact e
  · by_cases k : b = B
    · subst k
      have e' : (if b = b then some (Ob.tab q) else none) = some ob := e
      rw [if_pos rfl] at e'
      cases e'
      exact ⟨if_pos rfl, _, hB, #[], rfl, trivial, fun pos cv hc => by
        have z : codeAmong pos [] = some cv := hc
        simp [codeAmong] at z⟩
    · have e' : (if b = B then some (Ob.tab q) else none) = some ob := e
      rw [if_neg k] at e'
      cases e'
  · have hb : ∀ {o : HO}, H a = some o → (∀ ps, o ≠ .tbl ps) → (if a = B then none else H a) = some o := fun {o} e n => by
      rw [if_neg (by rintro rfl; rw [hB] at e; cases e; exact n _ rfl)]
      exact e
    rcases h with (h | ⟨o, h⟩) | h
    · exact .inl (.inl (hb h fun _ z => by cases z))
    · exact .inl (.inr ⟨o, hb h fun _ z => by cases z⟩)
    · exact .inr h
end Sd
namespace Sd
open PySem L2 PyProof.Rows
section
variable {K : PySem.W.Frag} {δ : DSt} {M0 M M2 : Mem} {H H1 H' H2 : Hp}
theorem MSub.no {a : Addr} (ms : MSub M0 M) (h : M a = none) (k : M.o a = none) : M0 a = none ∧ M0.o a = none := by
  constructor
  · cases q : M0 a with
    | none => rfl
    | some ds => rw [ms.l a ds q] at h; cases h
  · cases q : M0.o a with
    | none => rfl
    | some ob => rw [ms.o a ob q] at k; cases k
theorem Step.less (ms : MSub M0 M) (s : Step H H1 M0 H' H2 M2) : Step H H1 M H' H2 M2 :=
  ⟨s.pure, fun a u e n1 n2 => s.keep a u e (ms.no n1 n2).1 (ms.no n1 n2).2, fun a n1 n2 n3 n4 => s.new a n1 (ms.no n2 n3).1 (ms.no n2 n3).2 n4⟩
theorem WOk.less (ms : MSub M0 M) (w : WOk K H M H1) : WOk K H M0 H1 := ⟨w.ex, fun a ds e => w.cell a ds (ms.l a ds e), fun a ob e => w.obj a ob (ms.o a ob e)⟩
end
end Sd
namespace Sd
open PySem L2 PyProof.Rows
theorem val_sv {K : PySem.W.Frag} {H : Hp} : ∀ {ps : List (Str × SV)} {vs : List V} {k : Str} {r : SV}, SVsOk K H vs (ps.map Prod.snd) → ps.lookup k = some r → ∃ v, valV ((ps.map fun p => (Sum.inr p.1 : Key)).zip vs) (Sum.inr k) = some v ∧ SVOk K H v r
  | [], _, _, _, _, e => by cases e
  | p :: ps, _, k, d, h, e => by
    cases h with
    | cons h1 h2 =>
      rw [List.map_cons, List.zip_cons_cons]
      by_cases c : p.1 = k
      · subst c
        rw [List.lookup_cons_self] at e
        cases e
        exact ⟨_, valV_pos rfl, h1⟩
      · have c2 : (k == p.1) = false := beq_eq_false_iff_ne.mpr (Ne.symm c)
        rw [List.lookup_cons, c2] at e
        obtain ⟨v, e1, e2⟩ := val_sv h2 e
        exact ⟨v, by rw [valV_neg (fun z => c (Sum.inr.inj z))]; exact e1, e2⟩
/-- the dict with one text's value changed -/
def putD (f : Str) (r : SV) (ps : List (Str × SV)) : List (Str × SV) := ps.map fun p => if p.1 = f then (p.1, r) else p
theorem putD_zip {f : Str} {v : V} {r : SV} : ∀ (ps : List (Str × SV)) (vs : List V), vs.length = ps.length → ∃ us, ((ps.map fun p => (Sum.inr p.1 : Key)).zip vs).map (fun kv => if kv.1 = Sum.inr f then (kv.1, v) else kv) = ((putD f r ps).map fun p => (Sum.inr p.1 : Key)).zip us ∧ ∀ {K : PySem.W.Frag} {H : Hp}, SVOk K H v r → SVsOk K H vs (ps.map Prod.snd) → SVsOk K H us ((putD f r ps).map Prod.snd)
  | [], [], _ => ⟨[], rfl, fun _ _ => .nil⟩
  | (g, x) :: ps, u :: vs, hl => by
    obtain ⟨us, e1, e2⟩ := putD_zip (f := f) (v := v) (r := r) ps vs (by simpa using hl)
    by_cases e : g = f
    · subst e
      refine ⟨v :: us, ?_, fun h k => ?_⟩
      · rw [List.map_cons, List.zip_cons_cons, List.map_cons, e1]
        show (if (Sum.inr g : Key) = Sum.inr g then _ else _) :: _ = _
        rw [if_pos rfl]
        show _ = List.zip (List.map _ ((if g = g then (g, r) else (g, x)) :: putD g r ps)) _
        rw [if_pos rfl]
        rfl
      · show SVsOk _ _ _ (List.map Prod.snd ((if g = g then (g, r) else (g, x)) :: putD g r ps))
        rw [if_pos rfl]
        cases k with
        | cons k1 k2 => exact .cons h (e2 h k2)
    · refine ⟨u :: us, ?_, fun h k => ?_⟩
      · rw [List.map_cons, List.zip_cons_cons, List.map_cons, e1]
        show (if (Sum.inr g : Key) = Sum.inr f then _ else _) :: _ = _
        rw [if_neg (fun z => e (Sum.inr.inj z))]
        show _ = List.zip (List.map _ ((if g = f then (g, r) else (g, x)) :: putD f r ps)) _
        rw [if_neg e]
        rfl
      · show SVsOk _ _ _ (List.map Prod.snd ((if g = f then (g, r) else (g, x)) :: putD f r ps))
        rw [if_neg e]
        cases k with
        | cons k1 k2 => exact .cons k1 (e2 h k2)
theorem putK_there {ps : List (Str × SV)} {vs : List V} {f : Str} {v : V} {x : SV} (hl : vs.length = ps.length) (h : ps.lookup f = some x) :
    putK ((ps.map fun p => (Sum.inr p.1 : Key)).zip vs) (Sum.inr f) v = ((ps.map fun p => (Sum.inr p.1 : Key)).zip vs).map (fun kv => if kv.1 = Sum.inr f then (kv.1, v) else kv) := by
  unfold putK
  rw [if_pos]
  induction ps generalizing vs with
  | nil => cases h
  | cons p ps ih =>
    cases vs with
    | nil => cases hl
    | cons u vs =>
      rw [List.map_cons, List.zip_cons_cons, List.any_cons]
      by_cases c : p.1 = f
      · subst c
        rw [decide_eq_true rfl]
        rfl
      · have c2 : (f == p.1) = false := beq_eq_false_iff_ne.mpr (Ne.symm c)
        rw [List.lookup_cons, c2] at h
        rw [ih (by simpa using hl) h, Bool.or_true]
section
variable {K : PySem.W.Frag} {δ : DSt} {M : Mem} {P : SV → Mem → Prop} {D : DEnds} {ta tb tv : TE}
/-- w["x"] -/
theorem dE_wget (h : dE K ta δ M fun x M1 => dE K tb δ M1 fun y M2 => ∃ (a : Addr) (ps : List (Str × SV)) (k : Str) (r : SV), x = .m a ∧ y = .d (.str k) ∧ M2.o a = some (.dic ps) ∧ ps.lookup k = some r ∧ P r M2) : dE K (tDGet ta tb) δ M P := fun σ H H1 e w Q q =>
  h σ H H1 e w _ fun v x H' M' H2 hb s1 w1 vx => hb σ H' H2 (e.mono s1.pure) w1 _ fun u y H'' M'' H3 hr s2 w2 vy => by
    obtain ⟨a, ps, k, r, rfl, rfl, ho, hk, pp⟩ := hr
    obtain rfl : v = .ref a := vx
    cases vy
    obtain ⟨_, ob, h2, vs, rfl, hv⟩ := w2.obj a _ ho
    obtain ⟨z, e1, e2⟩ := val_sv hv hk
    refine ⟨a, z, rfl, ?_, q _ _ H'' M'' H3 pp (s1.trans w w1 s2) w2 e2⟩
    rw [← e1]
    exact DGet.k (k := Sum.inr k) h2
/-- w["x"] = v -/
theorem dS_wput (h : dE K tv δ M fun r M0 => dE K ta δ M0 fun x M1 => dE K tb δ M1 fun y M2 => ∃ (a : Addr) (ps : List (Str × SV)) (k : Str) (r0 : SV), x = .m a ∧ y = .d (.str k) ∧ M2.o a = some (.dic ps) ∧ ps.lookup k = some r0 ∧ ps.length < 1000 ∧ D.nx δ (oset M2 a (.dic (putD k r ps)))) : dS K (sDPut ta tb tv) D δ M := fun D' σ H H1 e w o =>
  h σ H H1 e w _ fun v r H0 M0 H01 ha s0 w0 vr => ha σ H0 H01 (e.mono s0.pure) w0 _ fun v1 x H' M' H2 hb s1 w1 vx => hb σ H' H2 ((e.mono s0.pure).mono s1.pure) w1 _ fun u y H'' M'' H3 hr s2 w2 vy => by
    obtain ⟨a, ps, k, r0, rfl, rfl, ho, hk, hn, pp⟩ := hr
    obtain rfl : v1 = .ref a := vx
    cases vy
    obtain ⟨_, ob, h2, vs, rfl, hv⟩ := w2.obj a _ ho
    have hlen : vs.length = ps.length := by rw [hv.length, List.length_map]
    obtain ⟨us, e1, e2⟩ := putD_zip (f := k) (v := v) (r := r) ps vs hlen
    obtain ⟨w3, s3⟩ := wrote_o (ob' := .dic (putD k r ps)) (o := .dK (putK ((ps.map fun p => (Sum.inr p.1 : Key)).zip vs) (Sum.inr k) v)) w2 ho ⟨us, by rw [putK_there hlen hk, e1], e2 ((vr.mono s1.pure).mono s2.pure) hv⟩
    refine ⟨a, _, rfl, DPut.k (k := Sum.inr k) h2 ?_, o.nx δ _ σ H'' _ pp (((s0.trans w w0 s1).trans w w1 s2).trans w w2 s3) (((e.mono s0.pure).mono s1.pure).mono s2.pure) w3⟩
    rw [List.length_zip, List.length_map, hlen, sizeLine_eq]
    omega
/-- the pairs of a display with texts as keys -/
def dPr (K : PySem.W.Frag) (trs : List (TE × TE)) (δ : DSt) (M : Mem) (P : List (Str × SV) → Mem → Prop) : Prop := ∀ (σ : L2.St) (H H1 : Hp), EnvOk K H σ δ → WOk K H M H1 → ∀ Q : List (V × V) → Hp → Prop,
  (∀ (vs : List V) rs H' M' H2, P rs M' → Step H H1 M H' H2 M' → WOk K H' M' H2 → SVsOk K H' vs (rs.map Prod.snd) → Q ((rs.map fun p => V.str p.1).zip vs) H2) → tPairs trs σ H1 Q
theorem dPr_nil {PP : List (Str × SV) → Mem → Prop} (p : PP [] M) : dPr K [] δ M PP := fun σ H H1 e w Q q => q [] [] H M H1 p Step.refl w .nil
theorem dPr_cons {PP : List (Str × SV) → Mem → Prop} {trs : List (TE × TE)} {f : Str} (h : dE K tb δ M fun y M1 => y = .d (.str f) ∧ dE K tv δ M1 fun r M2 => dPr K trs δ M2 fun rs M3 => PP ((f, r) :: rs) M3) : dPr K ((tb, tv) :: trs) δ M PP := fun σ H H1 e w Q q =>
  h σ H H1 e w _ fun u y H' M' H2 hb s1 w1 vy => by
    obtain ⟨rfl, hb⟩ := hb
    cases vy
    exact hb σ H' H2 (e.mono s1.pure) w1 _ fun v r H3 M3 H4 hc s2 w2 vr => hc σ H3 H4 ((e.mono s1.pure).mono s2.pure) w2 _ fun vs rs H5 M5 H6 p s3 w3 vv =>
      q (v :: vs) ((f, r) :: rs) H5 M5 H6 p ((s1.trans w w1 s2).trans w w2 s3) w3 (.cons (vr.mono s3.pure) vv)
theorem kv_zip : ∀ (ps : List (Str × SV)) (vs : List V), (ps.map fun p => V.str p.1).zip vs = ((ps.map fun p => (Sum.inr p.1 : Key)).zip vs).map fun kv => (kV kv.1, kv.2)
  | [], _ => rfl
  | _ :: _, [] => rfl
  | p :: ps, v :: vs => by
    rw [List.map_cons, List.zip_cons_cons, List.map_cons, List.zip_cons_cons, List.map_cons, kv_zip ps vs]
    rfl
/-- {"x": .., ..} -/
theorem dE_wnew {trs : List (TE × TE)} (h : ∀ a, M.o a = none → M a = none → dPr K trs δ (oset M a (.dic [])) fun ps M1 => M1.o a = some (.dic []) ∧ (ps.map Prod.fst).Nodup ∧ ps.length ≤ 15 ∧ P (.m a) (oset M1 a (.dic ps))) : dE K (tDisp trs) δ M P := fun σ H H1 e w Q q p hp => by
  obtain ⟨ho, w1, s1⟩ := laid_o (ob := .dic []) (o := .dK []) w hp ⟨[], rfl, .nil⟩
  refine h p ho (w.freshM hp) σ H _ e w1 _ fun vs ps H' M' H2 hb s2 w2 vv => ?_
  obtain ⟨hm, nd, hl, pp⟩ := hb
  obtain ⟨_, ob, h2, us, rfl, hu⟩ := w2.obj p _ hm
  have hlen : vs.length = ps.length := by rw [vv.length, List.length_map]
  obtain ⟨w3, s3⟩ := wrote_o (ob' := .dic ps) (o := .dK ((ps.map fun p => (Sum.inr p.1 : Key)).zip vs)) w2 hm ⟨vs, rfl, vv⟩
  refine ⟨h2, (ps.map fun p => (Sum.inr p.1 : Key)).zip vs, ?_, by rw [List.length_zip, List.length_map, hlen]; omega, ?_⟩
  · exact kv_zip ps vs
  · rw [merge_new _ _ (by
      rw [List.nil_append, List.map_fst_zip (by rw [hlen, List.length_map]; exact Nat.le_refl _)]
      have z : ps.map (fun p => (Sum.inr p.1 : Key)) = (ps.map Prod.fst).map Sum.inr := by rw [List.map_map]; rfl
      rw [z]
      exact List.Pairwise.map _ (fun a b hab e => hab (Sum.inr.inj e)) nd), List.nil_append]
    exact q _ _ _ _ _ pp ((s1.trans w w1 s2).trans w w2 s3) w3 rfl
end
end Sd
namespace Sd
open PySem L2 PyProof.Rows
theorem pe_callX {X : Cx} {K : PySem.W.Frag} {k : Nat} {x : Str} {ps : List Str} {S : SpX} {W : WX} {p pos : Pos} {e : Expr} {es : List Expr} {t : TA} (h : HasX X.prog X.w K X.mg X.base k x ps S) (hr : Room k X.A) (tk : L2N.Takes X W) (hg : Gl X x) (ha : PA X (e :: es) t) (hK : X.K = K := by rfl)
    (hdb : (x == ("__debug__" : Str)) = false := by decide) (he : starEach (e :: es) X.env = (false, eval e X.env) :: starEach es X.env := by rfl) (hpl : (backTo pos (starEach es X.env)).any (·.1) = false := by rfl) :
    PE X (.Call (.Name x p) (e :: es) [] pos) (tCallS (spOfX K S) (WE W) t) := by
  subst hK
  obtain ⟨f, fd, F, hm, hk, hb⟩ := h.ex
  exact pe_callS (CX := L2N.CX X.prog X.w) F hr hg hm hk hb (fun σ => L2N.passAt tk σ) ha hdb he hpl
theorem pe_callH0' {X : Cx} {K : PySem.W.Frag} {k : Nat} {x : Str} {S : SpD} {p pos : Pos} (hh : Has X.prog X.w K X.mg X.base k x [] S) (hr : Room k X.A) (hg : Gl X x) (h : X.K = K := by rfl)
    (hdb : (x == ("__debug__" : Str)) = false := by decide) : PE X (.Call (.Name x p) [] [] pos) (tCall (spOf K S) [] E0 tNil) := by
  subst h
  obtain ⟨f, fd, a, b, c, d⟩ := hh.ex
  exact pe_call0 a hr hg b c d .nil pass0 hdb
section
variable {K : PySem.W.Frag} {δ : DSt} {M : Mem} {P : SV → Mem → Prop} {PD : DSt → Mem → Prop} {D : DEnds} {ta tb te : TE} {t : TA}
theorem dEX_callX {S : SpX} {W : WX} {xs : Value → Option Addr → DSt → Mem → Prop} (h : dA K t δ M fun rs M1 => S rs M1 P (fun cls d M2 => xs cls d δ M2)) : dEX K W xs (tCallS (spOfX K S) (WE W) t) δ M P := fun σ H H1 e w Q q qx =>
  h σ H H1 e w _ fun vs rs H' M' H2 hb s1 w1 vx => ⟨rs, H', M', P, _, w1, vx, hb, fun v r H3 M3 H4 p s3 w3 vv => q v r H3 M3 H4 p (s1.trans w w1 s3) w3 vv, fun cls d H3 M3 H4 p s3 w3 => qx cls d δ M3 σ H3 H4 p (s1.trans w w1 s3) ((e.mono s1.pure).mono s3.pure) w3⟩
theorem dG_subE {d : PyData} (h : dE K ta δ M fun r M1 => ∃ a, r = .m a ∧ dE K tb δ M1 fun s M2 => ∃ (j : Nat) (ds : List PyData), s = .d (.int (j : Int)) ∧ M2 a = some ds ∧ j < ds.length ∧ PD δ (mset M2 a (ds.set j d))) : dG K (gSub ta tb rSetL) (.d d) δ M PD := fun v σ H H1 e w hv Q q =>
  h σ H H1 e w _ fun va ra H' M' H2 ⟨a, ea, hb⟩ s w' vva => hb σ H' H2 (e.mono s.pure) w' _ fun vb rb H'' M'' H3 ⟨j, ds, eb, hm, hj, pp⟩ s2 w2 vvb => by
    subst ea; subst eb
    cases vva; cases vvb
    obtain ⟨_, vs, h1, h2⟩ := w2.cell a ds hm
    have hv' : Dq K H'' v d := Dq.mono s2.pure _ _ (Dq.mono s.pure _ _ hv)
    obtain ⟨w3, s3⟩ := wrote_ok w2 hm (DqAll.set hv' j h2)
    refine ⟨a, vs, (j : Int), j, rfl, rfl, h1, ?_, q δ _ σ _ _ pp ((s.trans w w' s2).trans w w2 s3) (((e.mono s.pure).mono s2.pure).mono s3.pure) w3⟩
    unfold ixN
    rw [if_pos (by omega), if_pos (by rw [h2.length]; omega)]
    simp
/-- a, b = e1, e2 by way of a tuple -/
theorem dS_two {i j : Nat} (h : dA K t δ M fun rs M' => ∃ r s, rs = [r, s] ∧ D.nx ((δ.set i (some r)).set j (some s)) M') : dS K (tAsg (tTup t) (gTup K 2 (gCons (gName i) (gCons (gName j) gNil)))) D δ M := fun D' σ H H1 e w o =>
  h σ H H1 e w _ fun vs rs H' M' H2 p s w' vv => by
    obtain ⟨r, s', rfl, p⟩ := p
    cases vv with
    | cons h1 h2 => cases h2 with
      | cons h2 h3 =>
        cases h3
        refine ⟨(by show 2 ≤ sizeLine; decide), fun l hl => ?_⟩
        obtain ⟨w2, s2⟩ := laid_ok (o := .tup [_, _]) w' hl
        refine ⟨l, _, rfl, SqT.of upd_same, rfl, _, _, rfl, _, _, rfl, rfl, ?_⟩
        exact o.nx _ M' _ _ _ p (s.trans w w' s2) ((((e.mono s.pure).mono s2.pure).set i (h1.mono s2.pure)).set j (h2.mono s2.pure)) w2
theorem dC_intB {b : Bool} (p : P (.d (.int (if b then 1 else 0))) M) : dC K (fun xs H Q => (∃ i, xs = [.int i] ∧ Q (.int i) H) ∨ ∃ k, xs = [.bl k] ∧ Q (.int (if k then 1 else 0)) H) [.d (.bool b)] M P := fun vs H H1 hv wk Q q => by
  cases hv with
  | cons h t => cases t; cases h; exact .inr ⟨b, rfl, q _ _ H M H1 p Step.refl wk (.int _)⟩
end
end Sd
namespace Ma
open PySem
abbrev Q := Int × Int
/-- in lowest terms, from nought on -/
structure Red (q : Q) : Prop where
  p0 : 0 ≤ q.1
  q0 : 0 < q.2
  co : Int.gcd q.1 q.2 = 1
def low (t b : Int) : Q := (t / (Int.gcd t b : Int), b / (Int.gcd t b : Int))
theorem gcd_pos {t b : Int} (hb : 0 < b) : 0 < (Int.gcd t b : Int) := by
  have : Int.gcd t b ≠ 0 := fun h => by
    have := (Int.gcd_eq_zero_iff.mp h).2
    omega
  omega
theorem low_red {t b : Int} (ht : 0 ≤ t) (hb : 0 < b) : Red (low t b) := by
  have hg := gcd_pos (t := t) hb
  refine ⟨Int.ediv_nonneg ht (by omega), ?_, ?_⟩
  · have h1 : (Int.gcd t b : Int) * (b / (Int.gcd t b : Int)) = b := Int.mul_ediv_cancel' (Int.gcd_dvd_right t b)
    show 0 < b / (Int.gcd t b : Int)
    rcases Int.lt_or_le 0 (b / (Int.gcd t b : Int)) with h | h
    · exact h
    · exfalso
      have := Int.mul_nonneg (show 0 ≤ (Int.gcd t b : Int) by omega) (show 0 ≤ -(b / (Int.gcd t b : Int)) by omega)
      rw [Int.mul_neg, h1] at this
      omega
  · exact Int.gcd_ediv_gcd_ediv_gcd (by omega)
theorem low_eq {t b : Int} (hb : 0 < b) : t * (low t b).2 = (low t b).1 * b := by
  have h1 : (Int.gcd t b : Int) * (b / (Int.gcd t b : Int)) = b := Int.mul_ediv_cancel' (Int.gcd_dvd_right t b)
  have h2 : (Int.gcd t b : Int) * (t / (Int.gcd t b : Int)) = t := Int.mul_ediv_cancel' (Int.gcd_dvd_left t b)
  show t * (b / (Int.gcd t b : Int)) = (t / (Int.gcd t b : Int)) * b
  generalize (Int.gcd t b : Int) = g at *
  generalize t / g = t' at *
  generalize b / g = b' at *
  rw [← h1, ← h2]
  rw [Int.mul_assoc, Int.mul_left_comm]
theorem co_dvd {a b c : Int} (h : a ∣ b * c) (g : Int.gcd b a = 1) : a ∣ c := by
  have h1 : a.natAbs ∣ b.natAbs * c.natAbs := by
    rw [← Int.natAbs_mul]
    exact Int.natAbs_dvd_natAbs.mpr h
  have h2 : Nat.Coprime a.natAbs b.natAbs := by
    show Nat.gcd a.natAbs b.natAbs = 1
    rw [Nat.gcd_comm]
    exact g
  exact Int.natAbs_dvd_natAbs.mp (h2.dvd_of_dvd_mul_left h1)
theorem red_unique {x y : Q} (hx : Red x) (hy : Red y) (h : x.1 * y.2 = y.1 * x.2) : x = y := by
  have d1 : x.2 ∣ y.2 := by
    have : x.2 ∣ x.1 * y.2 := ⟨y.1, by rw [h, Int.mul_comm]⟩
    exact co_dvd this hx.co
  have d2 : y.2 ∣ x.2 := by
    have : y.2 ∣ y.1 * x.2 := ⟨x.1, by rw [← h, Int.mul_comm]⟩
    exact co_dvd this hy.co
  have e2 : x.2 = y.2 := Int.dvd_antisymm (Int.le_of_lt hx.q0) (Int.le_of_lt hy.q0) d1 d2
  have e1 : x.1 = y.1 := by
    rw [e2] at h
    exact Int.eq_of_mul_eq_mul_right (Int.ne_of_gt hy.q0) h
  exact Prod.ext e1 e2
theorem low_unique {t b : Int} {y : Q} (ht : 0 ≤ t) (hb : 0 < b) (hy : Red y) (h : t * y.2 = y.1 * b) : low t b = y := by
  refine red_unique (low_red ht hb) hy ?_
  have h1 := low_eq (t := t) hb
  have hb' : b ≠ 0 := by omega
  refine Int.eq_of_mul_eq_mul_right hb' ?_
  calc (low t b).1 * y.2 * b = (low t b).1 * b * y.2 := by rw [Int.mul_assoc, Int.mul_comm y.2 b, ← Int.mul_assoc]
    _ = t * (low t b).2 * y.2 := by rw [h1]
    _ = t * y.2 * (low t b).2 := by rw [Int.mul_assoc, Int.mul_comm (low t b).2 y.2, ← Int.mul_assoc]
    _ = y.1 * b * (low t b).2 := by rw [h]
    _ = y.1 * (low t b).2 * b := by rw [Int.mul_assoc, Int.mul_comm b, ← Int.mul_assoc]
theorem low_zero {b : Int} (hb : 0 < b) : low 0 b = (0, 1) := low_unique (Int.le_refl 0) hb ⟨Int.le_refl _, by decide, by decide⟩ (by simp)
theorem low_le {t b : Int} (ht : 0 ≤ t) (hb : 0 < b) : (low t b).1 ≤ t ∧ (low t b).2 ≤ b := by
  have hg := gcd_pos (t := t) hb
  exact ⟨Int.ediv_le_self _ ht, Int.ediv_le_self _ (by omega)⟩
theorem gcd_le {t b : Int} (hb : 0 < b) : (Int.gcd t b : Int) ≤ b := Int.le_of_dvd hb (Int.gcd_dvd_right t b)
theorem gcd_step {a b : Int} (ha : 0 ≤ a) (hb : 0 < b) : Int.gcd b (a % b) = Int.gcd a b := by
  obtain ⟨m, rfl⟩ := Int.eq_ofNat_of_zero_le ha
  obtain ⟨n, rfl⟩ := Int.eq_ofNat_of_zero_le (Int.le_of_lt hb)
  show Nat.gcd n (((m : Int) % (n : Int)).natAbs) = Nat.gcd m n
  rw [← Int.natCast_emod, Int.natAbs_natCast, Nat.gcd_comm m n, Nat.gcd_rec n m, Nat.gcd_comm]
structure Rope where
  n : Str
  a : Int
  b : Int
  c : Int
/-- the ropes drawn one behind the other, as the program goes -/
def goS (t b : Int) : List Rope → Option Q → Int → Int → Option Q
  | [], s, _, _ => s
  | r :: rs, none, k, l => goS t b rs (some (low (t + (l + r.b * r.a) * b) ((k + r.b) * b))) (k + r.b) (l + r.b * r.a)
  | r :: rs, some q, k, l => if r.a * q.2 < q.1 then goS t b rs (some (low (t + (l + r.b * r.a) * b) ((k + r.b) * b))) (k + r.b) (l + r.b * r.a) else some q
def bySlack (rs : List Rope) : List Rope := rs.mergeSort fun x y => decide (x.a ≤ y.a)
def sunkOf (rs : List Rope) (t b : Int) : Option Q := if t = 0 then some (0, 1) else goS t b (bySlack rs) none 0 0
end Ma
namespace Ma
open PySem
abbrev Pr := Int × Int
/-- how hard a rope of slack p.1 and stiffness p.2 pulls at q, times q.2 -/
def f1 (q : Q) (p : Pr) : Int := p.2 * max 0 (q.1 - p.1 * q.2)
def F (q : Q) (ps : List Pr) : Int := (ps.map (f1 q)).sum
theorem F_nil {q : Q} : F q [] = 0 := rfl
theorem F_cons {q : Q} {p : Pr} {ps : List Pr} : F q (p :: ps) = f1 q p + F q ps := by
  unfold F; rw [List.map_cons, List.sum_cons]
theorem F_append {q : Q} {ps qs : List Pr} : F q (ps ++ qs) = F q ps + F q qs := by
  unfold F; rw [List.map_append, List.sum_append]
theorem F_perm {q : Q} {ps qs : List Pr} (h : ps.Perm qs) : F q ps = F q qs := by
  induction h with
  | nil => rfl
  | cons x _ ih => rw [F_cons, F_cons, ih]
  | swap x y l => rw [F_cons, F_cons, F_cons, F_cons]; omega
  | trans _ _ h1 h2 => rw [h1, h2]
def PosB (ps : List Pr) : Prop := ∀ p ∈ ps, 0 < p.2
theorem f1_nn {q : Q} {p : Pr} (h : 0 < p.2) : 0 ≤ f1 q p := Int.mul_nonneg (Int.le_of_lt h) (by omega)
theorem F_nn {q : Q} : ∀ {ps : List Pr}, PosB ps → 0 ≤ F q ps
  | [], _ => Int.le_refl _
  | p :: ps, h => by
    rw [F_cons]
    have := f1_nn (q := q) (h p List.mem_cons_self)
    have := F_nn (q := q) (ps := ps) fun x hx => h x (List.mem_cons_of_mem _ hx)
    omega
theorem max_lt {x y : Q} {a : Int} (hx : 0 < x.2) (hy : 0 < y.2) (h : x.1 * y.2 < y.1 * x.2) :
    max 0 (x.1 - a * x.2) * y.2 ≤ max 0 (y.1 - a * y.2) * x.2 ∧ (0 < max 0 (y.1 - a * y.2) → max 0 (x.1 - a * x.2) * y.2 < max 0 (y.1 - a * y.2) * x.2) := by
  have e : (x.1 - a * x.2) * y.2 < (y.1 - a * y.2) * x.2 := by grind
  generalize x.1 - a * x.2 = u at *
  generalize y.1 - a * y.2 = v at *
  by_cases hu : 0 < u
  · have h1 : max 0 u = u := by omega
    rw [h1]
    have hv : 0 < v := by
      rcases Int.lt_or_le 0 v with h | h
      · exact h
      · exfalso
        have a1 := Int.mul_pos hu hy
        have a2 := Int.mul_nonneg (show 0 ≤ -v by omega) (Int.le_of_lt hx)
        rw [Int.neg_mul] at a2
        omega
    have h2 : max 0 v = v := by omega
    rw [h2]
    exact ⟨Int.le_of_lt e, fun _ => e⟩
  · have h1 : max 0 u = 0 := by omega
    rw [h1, Int.zero_mul]
    exact ⟨Int.mul_nonneg (by omega) (Int.le_of_lt hx), fun h => Int.mul_pos h hx⟩
theorem f1_lt {x y : Q} {p : Pr} (hp : 0 < p.2) (hx : 0 < x.2) (hy : 0 < y.2) (h : x.1 * y.2 < y.1 * x.2) :
    f1 x p * y.2 ≤ f1 y p * x.2 ∧ (0 < f1 y p → f1 x p * y.2 < f1 y p * x.2) := by
  obtain ⟨h1, h2⟩ := max_lt (a := p.1) hx hy h
  unfold f1
  generalize max 0 (x.1 - p.1 * x.2) = u at *
  generalize hv : max 0 (y.1 - p.1 * y.2) = v at *
  rw [Int.mul_assoc, Int.mul_assoc]
  refine ⟨Int.mul_le_mul_of_nonneg_left h1 (Int.le_of_lt hp), fun h3 => Int.mul_lt_mul_of_pos_left (h2 ?_) hp⟩
  rcases Int.lt_or_le 0 v with h | h
  · exact h
  · exfalso
    have := Int.mul_nonneg (Int.le_of_lt hp) (show 0 ≤ -v by omega)
    rw [Int.mul_neg] at this
    omega
theorem F_lt {x y : Q} (hx : 0 < x.2) (hy : 0 < y.2) (h : x.1 * y.2 < y.1 * x.2) : ∀ {ps : List Pr}, PosB ps → F x ps * y.2 ≤ F y ps * x.2 ∧ (0 < F y ps → F x ps * y.2 < F y ps * x.2)
  | [], _ => by rw [F_nil, F_nil]; exact ⟨by omega, fun h => by omega⟩
  | p :: ps, hp => by
    obtain ⟨h1, h2⟩ := F_lt hx hy h (ps := ps) fun z hz => hp z (List.mem_cons_of_mem _ hz)
    obtain ⟨h3, h4⟩ := f1_lt (hp p List.mem_cons_self) hx hy h
    have n1 := f1_nn (q := y) (hp p List.mem_cons_self)
    have n2 := F_nn (q := y) (ps := ps) fun z hz => hp z (List.mem_cons_of_mem _ hz)
    rw [F_cons, F_cons, Int.add_mul, Int.add_mul]
    refine ⟨by omega, fun h5 => ?_⟩
    rcases Int.lt_or_le 0 (f1 y p) with h6 | h6
    · have := h4 h6; omega
    · have := h2 (by omega); omega
/-- at q the ropes pull together t / b -/
structure Sol (ps : List Pr) (t b : Int) (q : Q) : Prop extends Red q where
  eq : F q ps * b = t * q.2
theorem sol_unique {ps : List Pr} {t b : Int} {x y : Q} (hp : PosB ps) (ht : 0 < t) (hb : 0 < b) (hx : Sol ps t b x) (hy : Sol ps t b y) : x = y := by
  have half : ∀ {x y : Q}, Sol ps t b x → Sol ps t b y → ¬ x.1 * y.2 < y.1 * x.2 := fun {x y} hx hy h => by
    obtain ⟨_, h2⟩ := F_lt hx.q0 hy.q0 h hp
    have hF : 0 < F y ps := by
      rcases Int.lt_or_le 0 (F y ps) with h | h
      · exact h
      · exfalso
        have a1 := Int.mul_pos ht hy.q0
        have a2 := Int.mul_nonneg (show 0 ≤ -F y ps by omega) (Int.le_of_lt hb)
        rw [Int.neg_mul, hy.eq] at a2
        omega
    have h3 := Int.mul_lt_mul_of_pos_right (h2 hF) hb
    have e1 : F x ps * y.2 * b = t * x.2 * y.2 := by rw [← hx.eq]; grind
    have e2 : F y ps * x.2 * b = t * y.2 * x.2 := by rw [← hy.eq]; grind
    rw [e1, e2] at h3
    have e3 : t * x.2 * y.2 = t * y.2 * x.2 := by grind
    omega
  have h1 := half hx hy
  have h2 := half hy hx
  exact red_unique hx.toRed hy.toRed (by omega)
def goP (t b : Int) : List Pr → Option Q → Int → Int → Option Q
  | [], s, _, _ => s
  | p :: ps, none, k, l => goP t b ps (some (low (t + (l + p.2 * p.1) * b) ((k + p.2) * b))) (k + p.2) (l + p.2 * p.1)
  | p :: ps, some q, k, l => if p.1 * q.2 < q.1 then goP t b ps (some (low (t + (l + p.2 * p.1) * b) ((k + p.2) * b))) (k + p.2) (l + p.2 * p.1) else some q
def pr (r : Rope) : Pr := (r.a, r.b)
theorem goS_P {t b : Int} : ∀ (rs : List Rope) (s : Option Q) (k l : Int), goS t b rs s k l = goP t b (rs.map pr) s k l
  | [], s, k, l => rfl
  | r :: rs, none, k, l => goS_P rs _ _ _
  | r :: rs, some q, k, l => by
    show (if r.a * q.2 < q.1 then goS t b rs _ _ _ else some q) = (if r.a * q.2 < q.1 then goP t b (rs.map pr) _ _ _ else some q)
    rw [goS_P rs]
    rfl
/-- what stands drawn: a prefix, its stiffness k, its l, and the sinking q -/
structure Dr (t b : Int) (ps : List Pr) (k l : Int) (q : Q) : Prop extends Red q where
  kp : 0 < k
  eq : q.1 * (k * b) = (t + l * b) * q.2
  fk : ∀ x : Q, (∀ p ∈ ps, p.1 * x.2 ≤ x.1) → F x ps = k * x.1 - l * x.2
  dr : ∀ p ∈ ps, p.1 * q.2 < q.1
theorem dr_step {t b k l : Int} {ps : List Pr} {p : Pr} (hb : 0 < b) (hp : 0 < p.2) (k0 : 0 ≤ k) (hfk : ∀ x : Q, (∀ p ∈ ps, p.1 * x.2 ≤ x.1) → F x ps = k * x.1 - l * x.2)
    (ht : 0 ≤ t + (l + p.2 * p.1) * b) (hs : ∀ z ∈ ps, z.1 ≤ p.1) (hlt : p.1 * ((k + p.2) * b) < t + (l + p.2 * p.1) * b) :
    Dr t b (ps ++ [p]) (k + p.2) (l + p.2 * p.1) (low (t + (l + p.2 * p.1) * b) ((k + p.2) * b)) := by
  have hkb : 0 < (k + p.2) * b := Int.mul_pos (by omega) hb
  have hr := low_red ht hkb
  have he := low_eq (t := t + (l + p.2 * p.1) * b) hkb
  generalize low (t + (l + p.2 * p.1) * b) ((k + p.2) * b) = q at *
  have hlast : p.1 * q.2 < q.1 := by
    have h1 := Int.mul_lt_mul_of_pos_right hlt hr.q0
    rw [he] at h1
    have h2 : p.1 * ((k + p.2) * b) * q.2 = p.1 * q.2 * ((k + p.2) * b) := by grind
    rw [h2] at h1
    exact Int.lt_of_mul_lt_mul_right h1 (Int.le_of_lt hkb)
  refine ⟨hr, by omega, he.symm, fun x hx => ?_, fun z hz => ?_⟩
  · rw [F_append, hfk x fun z hz => hx z (List.mem_append_left _ hz), F_cons, F_nil]
    have := hx p (List.mem_append_right _ (List.mem_singleton.mpr rfl))
    unfold f1
    rw [show max 0 (x.1 - p.1 * x.2) = x.1 - p.1 * x.2 by omega]
    grind
  · rcases List.mem_append.mp hz with h | h
    · have := Int.mul_le_mul_of_nonneg_right (hs z h) (Int.le_of_lt hr.q0)
      omega
    · rw [List.mem_singleton.mp h]; exact hlast
theorem F_zero {q : Q} : ∀ {ps : List Pr}, (∀ p ∈ ps, q.1 ≤ p.1 * q.2) → F q ps = 0
  | [], _ => rfl
  | p :: ps, h => by
    rw [F_cons, F_zero fun z hz => h z (List.mem_cons_of_mem _ hz)]
    have := h p List.mem_cons_self
    unfold f1
    rw [show max 0 (q.1 - p.1 * q.2) = 0 by omega]
    omega
theorem dr_sol {t b k l : Int} {ps rs : List Pr} {q : Q} (hb : 0 < b) (d : Dr t b ps k l q) (hr : ∀ p ∈ rs, q.1 ≤ p.1 * q.2) : Sol (ps ++ rs) t b q := by
  refine ⟨d.toRed, ?_⟩
  rw [F_append, F_zero hr, d.fk q fun p hp => Int.le_of_lt (d.dr p hp)]
  have := d.eq
  grind
theorem goP_sol {t b : Int} (hb : 0 < b) : ∀ (rs ps : List Pr) (q : Q) (k l : Int), PosB rs → (ps ++ rs).Pairwise (fun x y => x.1 ≤ y.1) → 0 ≤ t → 0 ≤ l → (∀ p ∈ rs, 0 ≤ p.1) → Dr t b ps k l q → ∃ q', goP t b rs (some q) k l = some q' ∧ Sol (ps ++ rs) t b q'
  | [], ps, q, k, l, _, _, _, _, _, d => ⟨q, rfl, dr_sol hb d fun p hp => by cases hp⟩
  | r :: rs, ps, q, k, l, hp, hs, ht, hl, ha, d => by
    have hs' := List.pairwise_append.mp hs
    have hcons := List.pairwise_cons.mp hs'.2.1
    by_cases hc : r.1 * q.2 < q.1
    · have hra : 0 ≤ r.2 * r.1 := Int.mul_nonneg (Int.le_of_lt (hp r List.mem_cons_self)) (ha r List.mem_cons_self)
      have htt : 0 ≤ t + (l + r.2 * r.1) * b := by have := Int.mul_nonneg (show 0 ≤ l + r.2 * r.1 by omega) (Int.le_of_lt hb); omega
      have hlt : r.1 * ((k + r.2) * b) < t + (l + r.2 * r.1) * b := by
        have h1 := Int.mul_lt_mul_of_pos_right hc (Int.mul_pos d.kp hb)
        rw [d.eq] at h1
        have h2 : r.1 * q.2 * (k * b) = r.1 * (k * b) * q.2 := by grind
        rw [h2] at h1
        have h3 := Int.lt_of_mul_lt_mul_right h1 (Int.le_of_lt d.q0)
        grind
      have d' := dr_step hb (hp r List.mem_cons_self) (Int.le_of_lt d.kp) d.fk htt (fun z hz => hs'.2.2 z hz r List.mem_cons_self) hlt
      obtain ⟨q', h1, h2⟩ := goP_sol hb rs (ps ++ [r]) _ _ _ (fun z hz => hp z (List.mem_cons_of_mem _ hz)) (by rw [List.append_assoc]; exact hs) ht (by omega) (fun z hz => ha z (List.mem_cons_of_mem _ hz)) d'
      refine ⟨q', ?_, by rw [List.append_assoc] at h2; exact h2⟩
      show (if r.1 * q.2 < q.1 then _ else _) = _
      rw [if_pos hc]
      exact h1
    · refine ⟨q, ?_, dr_sol hb d fun p hpp => ?_⟩
      · show (if r.1 * q.2 < q.1 then _ else _) = _
        rw [if_neg hc]
      · rcases List.mem_cons.mp hpp with rfl | h
        · omega
        · have := Int.mul_le_mul_of_nonneg_right (hcons.1 p h) (Int.le_of_lt d.q0)
          omega
theorem goP_first {t b : Int} (hb : 0 < b) {rs : List Pr} (h0 : rs ≠ []) (hp : PosB rs) (hs : rs.Pairwise fun x y => x.1 ≤ y.1) (ht : 0 < t) (ha : ∀ p ∈ rs, 0 ≤ p.1) : ∃ q', goP t b rs none 0 0 = some q' ∧ Sol rs t b q' := by
  cases rs with
  | nil => exact absurd rfl h0
  | cons r rs =>
    have hra : 0 ≤ r.2 * r.1 := Int.mul_nonneg (Int.le_of_lt (hp r List.mem_cons_self)) (ha r List.mem_cons_self)
    have htt : 0 ≤ t + (0 + r.2 * r.1) * b := by have := Int.mul_nonneg (show 0 ≤ 0 + r.2 * r.1 by omega) (Int.le_of_lt hb); omega
    have d := dr_step (t := t) (b := b) (k := 0) (l := 0) (ps := []) hb (hp r List.mem_cons_self) (Int.le_refl 0) (fun x _ => by rw [F_nil]; omega) htt (fun z hz => by cases hz) (by grind)
    exact goP_sol hb rs [r] _ _ _ (fun z hz => hp z (List.mem_cons_of_mem _ hz)) hs (Int.le_of_lt ht) (by omega) (fun z hz => ha z (List.mem_cons_of_mem _ hz)) d
/-- the law's way: it goes on to the end -/
def goL (t b : Int) : List Pr → Option Q → Int → Int → Option Q
  | [], s, _, _ => s
  | p :: ps, none, k, l => goL t b ps (some (low (t + b * (l + p.1 * p.2)) ((k + p.2) * b))) (k + p.2) (l + p.1 * p.2)
  | p :: ps, some q, k, l => goL t b ps (if p.1 * q.2 < q.1 then some (low (t + b * (l + p.1 * p.2)) ((k + p.2) * b)) else some q) (k + p.2) (l + p.1 * p.2)
theorem goL_stop {t b : Int} : ∀ (ps : List Pr) (q : Q) (k l : Int), (∀ p ∈ ps, ¬ p.1 * q.2 < q.1) → goL t b ps (some q) k l = some q
  | [], q, k, l, _ => rfl
  | p :: ps, q, k, l, h => by
    show goL t b ps (if p.1 * q.2 < q.1 then _ else some q) _ _ = _
    rw [if_neg (h p List.mem_cons_self)]
    exact goL_stop ps q _ _ fun z hz => h z (List.mem_cons_of_mem _ hz)
theorem goL_P {t b : Int} : ∀ (ps : List Pr) (s : Option Q) (k l : Int), (∀ q, s = some q → 0 < q.2) → (0 < b) → (0 ≤ t) → (0 ≤ k) → (0 ≤ l) → PosB ps → (∀ p ∈ ps, 0 ≤ p.1) → ps.Pairwise (fun x y => x.1 ≤ y.1) → goL t b ps s k l = goP t b ps s k l
  | [], s, k, l, _, _, _, _, _, _, _, _ => rfl
  | p :: ps, s, k, l, hq, hb, ht, hk, hl, hp, ha, hs => by
    have hc := List.pairwise_cons.mp hs
    have hpa : 0 ≤ p.1 * p.2 := Int.mul_nonneg (ha p List.mem_cons_self) (Int.le_of_lt (hp p List.mem_cons_self))
    have hp2 := hp p List.mem_cons_self
    have e1 : p.2 * p.1 = p.1 * p.2 := Int.mul_comm _ _
    have e2 : b * (l + p.1 * p.2) = (l + p.2 * p.1) * b := by rw [e1, Int.mul_comm]
    have hkb : 0 < (k + p.2) * b := Int.mul_pos (by omega) hb
    have htt : 0 ≤ t + (l + p.2 * p.1) * b := by have := Int.mul_nonneg (show 0 ≤ l + p.2 * p.1 by omega) (Int.le_of_lt hb); omega
    have go : goL t b ps (some (low (t + b * (l + p.1 * p.2)) ((k + p.2) * b))) (k + p.2) (l + p.1 * p.2) = goP t b ps (some (low (t + (l + p.2 * p.1) * b) ((k + p.2) * b))) (k + p.2) (l + p.2 * p.1) := by
      rw [e2, goL_P ps _ _ _ (fun q e => by cases e; exact (low_red htt hkb).q0) hb ht (by omega) (by omega) (fun z hz => hp z (List.mem_cons_of_mem _ hz)) (fun z hz => ha z (List.mem_cons_of_mem _ hz)) hc.2, e1]
    cases s with
    | none => exact go
    | some q =>
      show goL t b ps (if p.1 * q.2 < q.1 then some _ else some q) _ _ = (if p.1 * q.2 < q.1 then goP t b ps _ _ _ else some q)
      by_cases h : p.1 * q.2 < q.1
      · rw [if_pos h, if_pos h]; exact go
      · rw [if_neg h, if_neg h]
        refine goL_stop ps q _ _ fun z hz h2 => h ?_
        have := Int.mul_le_mul_of_nonneg_right (hc.1 z hz) (Int.le_of_lt (hq q rfl))
        omega
theorem bySlack_sorted (rs : List Rope) : ((bySlack rs).map pr).Pairwise fun x y => x.1 ≤ y.1 := by
  rw [List.pairwise_map]
  unfold bySlack
  have h := List.pairwise_mergeSort (le := fun x y : Rope => decide (x.a ≤ y.a)) (fun a b c h1 h2 => decide_eq_true (by have := of_decide_eq_true h1; have := of_decide_eq_true h2; omega)) (fun a b => by
    simp only [Bool.or_eq_true, decide_eq_true_eq]; omega) rs
  exact h.imp fun h => of_decide_eq_true h
theorem bySlack_perm (rs : List Rope) : ((bySlack rs).map pr).Perm (rs.map pr) := (List.mergeSort_perm _ _).map _
/-- what the ropes ask -/
structure Pos (rs : List Rope) : Prop where
  a : ∀ r ∈ rs, 0 ≤ r.a
  b : ∀ r ∈ rs, 0 < r.b
theorem Pos.pb {rs : List Rope} (h : Pos rs) : PosB (rs.map pr) := fun p hp => by
  obtain ⟨r, hr, rfl⟩ := List.mem_map.mp hp
  exact h.b r hr
theorem Pos.pa {rs : List Rope} (h : Pos rs) : ∀ p ∈ rs.map pr, 0 ≤ p.1 := fun p hp => by
  obtain ⟨r, hr, rfl⟩ := List.mem_map.mp hp
  exact h.a r hr
theorem sunk_sol {rs : List Rope} {t b : Int} (h0 : rs ≠ []) (hp : Pos rs) (ht : 0 < t) (hb : 0 < b) : ∃ q, sunkOf rs t b = some q ∧ Sol (rs.map pr) t b q := by
  have pm := bySlack_perm rs
  have hne : (bySlack rs).map pr ≠ [] := fun e => h0 (by
    have := pm.length_eq
    rw [e, List.length_map] at this
    exact List.length_eq_zero_iff.mp this.symm)
  obtain ⟨q, h1, h2⟩ := goP_first (t := t) (b := b) hb hne (fun p hpp => hp.pb p (pm.mem_iff.mp hpp)) (bySlack_sorted rs) ht (fun p hpp => hp.pa p (pm.mem_iff.mp hpp))
  refine ⟨q, ?_, ⟨h2.toRed, by rw [← F_perm pm]; exact h2.eq⟩⟩
  unfold sunkOf
  rw [if_neg (by omega), goS_P]
  exact h1
/-- any order by the slacks comes to the same -/
theorem goL_sunk {rs : List Rope} {ps : List Pr} {t b : Int} (hp : Pos rs) (ht : 0 < t) (hb : 0 < b) (pm : ps.Perm (rs.map pr)) (hs : ps.Pairwise fun x y => x.1 ≤ y.1) : goL t b ps none 0 0 = sunkOf rs t b := by
  have pb : PosB ps := fun p hpp => hp.pb p (pm.mem_iff.mp hpp)
  have pa : ∀ p ∈ ps, 0 ≤ p.1 := fun p hpp => hp.pa p (pm.mem_iff.mp hpp)
  rw [goL_P ps none 0 0 (fun q e => by cases e) hb (Int.le_of_lt ht) (Int.le_refl 0) (Int.le_refl 0) pb pa hs]
  cases rs with
  | nil =>
    have : ps = [] := List.length_eq_zero_iff.mp pm.length_eq
    subst this
    unfold sunkOf
    rw [if_neg (by omega)]
    unfold bySlack
    rw [List.mergeSort_nil]
    rfl
  | cons r rs =>
    have h0 : ps ≠ [] := fun e => by
      have := pm.length_eq
      rw [e] at this
      simp at this
    obtain ⟨q1, h1, h2⟩ := goP_first (t := t) (b := b) hb h0 pb hs ht pa
    obtain ⟨q2, h3, h4⟩ := sunk_sol (t := t) (b := b) (List.cons_ne_nil r rs) hp ht hb
    rw [h1, h3]
    have h5 : Sol (((r :: rs)).map pr) t b q1 := ⟨h2.toRed, by rw [← F_perm pm]; exact h2.eq⟩
    rw [sol_unique hp.pb ht hb h5 h4]
end Ma
namespace K2
open PySem L2 Sd Ma
def topS (i : Nat) : Stmt := PySem.Challenge.pw_strandpull_k11_works_by_hand.main.body.getD i (.Pass ⟨0, 0, 0, 0⟩)
local macro_rules | `(tactic| walk_at "d1") => `(tactic| first
  | ((with_reducible refine' dE_var ?dv ?_); (case dv => rfl))
  | with_reducible refine' dE_int ?_
  | with_reducible refine' dE_str ?_
  | with_reducible refine' dE_bl ?_
  | with_reducible refine' dE_non ?_
  | ((with_reducible refine' dE_nt ?dv ?_); (case dv => assumption))
  | with_reducible refine' dE_ref ?_
  | with_reducible refine' dE_op ?_
  | with_reducible refine' dE_un ?_
  | with_reducible refine' dE_cmp ?_
  | with_reducible refine' dE_isN ?_
  | with_reducible refine' dE_notN ?_
  | with_reducible refine' dE_call ?_
  | with_reducible refine' dE_cb ?_
  | with_reducible refine' dE_kw ?_
  | with_reducible refine' dE_tup ?_
  | with_reducible refine' dE_if ?_
  | with_reducible refine' dE_and ?_
  | with_reducible refine' dE_or ?_
  | with_reducible refine' dE_not ?_
  | with_reducible refine' dE_sl ?_
  | with_reducible refine' dO_none ?_
  | with_reducible refine' dO_some ?_
  | with_reducible refine' dA_cons ?_
  | with_reducible refine' dA_nil ?_
  | with_reducible refine' dT_B ?_
  | with_reducible refine' dT_test ?_
  | with_reducible refine' dT_and ?_
  | with_reducible refine' dT_or ?_
  | with_reducible refine' dT_not ?_
  | with_reducible refine' dT_yes ?_
  | with_reducible refine' dR_I0i ?_
  | with_reducible refine' dU_neg ?_
  | ((with_reducible refine' dR_ixT ?dv ?_); (case dv => rfl))
  | with_reducible refine' dS_seq ?_
  | with_reducible refine' dS_next ?_
  | with_reducible refine' dS_ret ?_
  | with_reducible refine' dS_drop ?_
  | with_reducible refine' dS_if ?_
  | with_reducible refine' dS_asg ?_
  | with_reducible refine' dS_par ?_
  | with_reducible refine' dG_name ?_
  | ((with_reducible refine' dG_tup ?dv ?_); (case dv => rfl); (dsimp only [List.map]))
  | with_reducible refine' dGs_cons ?_
  | with_reducible refine' dGs_nil ?_
  | with_reducible refine' dC_abs ?_
  | with_reducible refine' dC_max2 ?_
  | with_reducible refine' dC_min2 ?_
  | with_reducible refine' rtOf.of ?_
  | with_reducible refine' ex_cmp ?_
  | with_reducible refine' ex_bool ?_
  | with_reducible refine' ex_int ?_
  | with_reducible refine' ex_list ?_
  | with_reducible refine' ex_tup ?_
  | with_reducible refine' ex_d ?_
  | with_reducible refine' ex_m ?_
  | with_reducible refine' ex_par ?_
  | with_reducible refine' ex_rg1 ?_
  | with_reducible refine' ex_rg2 ?_
  | ((with_reducible refine' ex_dat ?dv ?dw ?_); (case dv => rfl); (case dw => exact Nat.le_of_ble_eq_true rfl))
  | ((fail_if_success (with_reducible show ∃ _, _)); (fail_if_success (with_reducible show _ ∧ _)); refine ⟨_, _, rfl, ?_⟩)
  | ((fail_if_success (with_reducible show ∃ _, _)); (fail_if_success (with_reducible show _ ∧ _)); refine ⟨_, rfl, ?_⟩)
  | fail)
local macro_rules | `(tactic| walk_at "d") => `(tactic| repeat' walk_at "d1")
local macro_rules | `(tactic| walk_at "e1") => `(tactic| first
  | ((with_reducible refine' dE_var ?dv ?_); (case dv => rfl))
  | with_reducible refine' dE_int ?_
  | with_reducible refine' dE_str ?_
  | with_reducible refine' dE_bl ?_
  | with_reducible refine' dE_non ?_
  | ((with_reducible refine' dE_nt ?dv ?_); (case dv => assumption))
  | with_reducible refine' dE_ref ?_
  | with_reducible refine' dE_op ?_
  | with_reducible refine' dE_un ?_
  | with_reducible refine' dE_cmp ?_
  | with_reducible refine' dE_isN ?_
  | with_reducible refine' dE_notN ?_
  | with_reducible refine' dE_call ?_
  | with_reducible refine' dE_cb ?_
  | with_reducible refine' dE_kw ?_
  | with_reducible refine' dE_tup ?_
  | with_reducible refine' dE_if ?_
  | with_reducible refine' dE_and ?_
  | with_reducible refine' dE_or ?_
  | with_reducible refine' dE_not ?_
  | with_reducible refine' dE_sl ?_
  | with_reducible refine' dO_none ?_
  | with_reducible refine' dO_some ?_
  | with_reducible refine' dA_cons ?_
  | with_reducible refine' dA_nil ?_
  | with_reducible refine' dT_B ?_
  | with_reducible refine' dT_test ?_
  | with_reducible refine' dT_and ?_
  | with_reducible refine' dT_or ?_
  | with_reducible refine' dT_not ?_
  | with_reducible refine' dT_yes ?_
  | with_reducible refine' dR_I0i ?_
  | with_reducible refine' dU_neg ?_
  | ((with_reducible refine' dR_ixT ?dv ?_); (case dv => rfl))
  | with_reducible refine' dS_next ?_
  | with_reducible refine' dS_ret ?_
  | with_reducible refine' dS_drop ?_
  | with_reducible refine' dS_if ?_
  | with_reducible refine' dS_asg ?_
  | with_reducible refine' dS_par ?_
  | with_reducible refine' dG_name ?_
  | ((with_reducible refine' dG_tup ?dv ?_); (case dv => rfl); (dsimp only [List.map]))
  | with_reducible refine' dGs_cons ?_
  | with_reducible refine' dGs_nil ?_
  | with_reducible refine' dC_abs ?_
  | with_reducible refine' dC_max2 ?_
  | with_reducible refine' dC_min2 ?_
  | with_reducible refine' rtOf.of ?_
  | with_reducible refine' ex_cmp ?_
  | with_reducible refine' ex_bool ?_
  | with_reducible refine' ex_int ?_
  | with_reducible refine' ex_list ?_
  | with_reducible refine' ex_tup ?_
  | with_reducible refine' ex_d ?_
  | with_reducible refine' ex_m ?_
  | with_reducible refine' ex_par ?_
  | with_reducible refine' ex_rg1 ?_
  | with_reducible refine' ex_rg2 ?_
  | ((with_reducible refine' ex_dat ?dv ?dw ?_); (case dv => rfl); (case dw => exact Nat.le_of_ble_eq_true rfl))
  | ((fail_if_success (with_reducible show ∃ _, _)); (fail_if_success (with_reducible show _ ∧ _)); refine ⟨_, _, rfl, ?_⟩)
  | ((fail_if_success (with_reducible show ∃ _, _)); (fail_if_success (with_reducible show _ ∧ _)); refine ⟨_, rfl, ?_⟩)
  | fail)
local macro_rules | `(tactic| walk_at "e") => `(tactic| repeat' walk_at "e1")
/-- a size -/
def Sz (n : Nat) (x : Int) : Prop := x.natAbs < 2 ^ n
abbrev fr (q : Q) : PyData := .tuple [.int q.1, .int q.2]
structure Txt (mg : Str → Option Value) : Prop where
  len : mg "len" = none
  abs : mg "abs" = none
  max : mg "max" = none
  min : mg "min" = none
  sum : mg "sum" = none
  sorted : mg "sorted" = none
  tuple : mg "tuple" = none
  range : mg "range" = none
  list : mg "list" = none
  isinstance : mg "isinstance" = none
  bool : mg "bool" = none
  set : mg "set" = none
  dict : mg "dict" = none
  int : mg "int" = none
  str : mg "str" = none
  all : mg "all" = none
  zip : mg "zip" = none
  any : mg "any" = none
  enumerate : mg "enumerate" = none
  super : mg "super" = none
  ValueError : mg "ValueError" = none
def S_cd : SpD := fun rs M P => ∃ a b : Int, rs = [.d (.int a), .d (.int b)] ∧ 0 ≤ a ∧ 0 ≤ b ∧ P (.d (.int (Int.gcd a b : Int))) M
def S_fraction : SpD := fun rs M P => ∃ t b : Int, rs = [.d (.int t), .d (.int b)] ∧ 0 ≤ t ∧ 0 < b ∧ Sz 8000 b ∧ P (.d (fr (low t b))) M
theorem getElem?_map_some {α β : Type} {f : α → β} {l : List α} {i : Nat} {y : β} (h : (l.map f)[i]? = some y) : ∃ x, l[i]? = some x ∧ y = f x := by
  rw [List.getElem?_map] at h
  cases q : l[i]? with
  | none => rw [q] at h; cases h
  | some x => rw [q] at h; exact ⟨x, rfl, (Option.some.inj h).symm⟩
section
variable {P : Program} {w : World} {K : PySem.W.Frag} {mg : Str → Option Value} {base : Heap} {f : Addr} {fd : FuncData}
abbrev s_common_divisor : Stmt := topS 19
theorem sc_common_divisor : FnScope ["one", "other"] ["one", "other"] (defScope s_common_divisor) := ⟨rfl, rfl, rfl, by decide +kernel, rfl, by decide +kernel, by decide +kernel⟩
theorem ok_common_divisor (F : Fun K "common_divisor" "common_divisor" s_common_divisor f fd) : FnOk P w K mg base CX0 1 f fd ["one", "other"] (spOf K S_cd) := by
  refine ok_of F sc_common_divisor (fun rs M P h => by obtain ⟨a, b, rfl, _⟩ := h; rfl) fun cdv A outer s H E hr => ⟨_, (pss_cons (ps_while PassesOwn.never (pt_cmp (pc_gt (pv 1) pe_int)) (pss_one (ps_par (i := 0) (j := 1) (by rfl) sc_common_divisor.nd rfl rfl (by decide) rfl rfl (pa_cons (pv 1) (pa_cons (pe_op op_mod (pv 0) (pv 1)) pa_nil)) (by rfl))))
      (pss_one (ps_ret (pv 0)))), fun rs M P h => ?_⟩
  obtain ⟨a, b, rfl, ha, hb, p⟩ := h
  refine dS_seq (dS_while (fun m δ M' => ∃ a' b' : Int, δ = [some (.d (.int a')), some (.d (.int b'))] ∧ M' = M ∧ 0 ≤ a' ∧ 0 ≤ b' ∧ Int.gcd a' b' = Int.gcd a b ∧ m = b'.toNat) b.toNat ⟨a, b, rfl, rfl, ha, hb, rfl, rfl⟩ ?_)
  rintro m δ M' ⟨a', b', rfl, rfl, ha', hb', hg, rfl⟩
  walk_at "d"
  refine ifB (fun h => ?_) (fun h => ?_)
  · have h0 : 0 < b' := of_decide_eq_true h
    walk_at "d"
    refine dR_Ii h0 ?_
    walk_at "d"
    exact ⟨(a' % b').toNat, by have := Int.emod_lt_of_pos a' h0; have := Int.emod_nonneg a' (Int.ne_of_gt h0); omega, b', a' % b', rfl, rfl, hb', Int.emod_nonneg _ (Int.ne_of_gt h0), by rw [gcd_step ha' h0, hg], rfl⟩
  · have h0 : b' = 0 := by have := of_decide_eq_false h; omega
    subst h0
    walk_at "d"
    rw [← hg, Int.gcd_zero_right] at p
    rw [show ((a'.natAbs : Nat) : Int) = a' by omega] at p
    exact p
abbrev s_fraction : Stmt := topS 20
theorem sc_fraction : FnScope ["top", "bottom", "divisor"] ["top", "bottom"] (defScope s_fraction) := ⟨rfl, rfl, rfl, by decide +kernel, rfl, by decide +kernel, by decide +kernel⟩
theorem ok_fraction (F : Fun K "fraction" "fraction" s_fraction f fd) (c_common_divisor : Has P w K mg base 1 "common_divisor" ["one", "other"] S_cd) : FnOk P w K mg base CX0 2 f fd ["top", "bottom"] (spOf K S_fraction) := by
  refine ok_of F sc_fraction (fun rs M P h => by obtain ⟨a, b, rfl, _⟩ := h; rfl) fun cdv A outer s H E hr => ⟨_, (pss_cons (ps_set (i := 2) sc_fraction.nd rfl (Or.inl rfl) (pe_callH' c_common_divisor (hr.mono (by first | decide | omega)) rfl (pa_cons (pv 0) (pa_cons (pv 1) pa_nil))))
      (pss_one (ps_ret (pe_tup (pa_cons (pe_op op_fdivW (pv 0) (pv 2)) (pa_cons (pe_op op_fdivW (pv 1) (pv 2)) pa_nil)))))), fun rs M P h => ?_⟩
  obtain ⟨t, b, rfl, ht, hb, hz, p⟩ := h
  walk_at "d"
  have hg := gcd_pos (t := t) hb
  have hl := gcd_le (t := t) hb
  have hd : ∀ i, CDivW i (Int.gcd t b : Int) := fun i => wide_div hg (wide_le (by omega) hl hz) (by decide) (by decide)
  refine ⟨ht, by omega, ?_⟩
  walk_at "d"
  refine dR_Ii (hd t) ?_
  walk_at "d"
  refine dR_Ii (hd b) ?_
  walk_at "d"
  exact p
abbrev _root_.Ma.Rope.d (r : Rope) : PyData := .tuple [.str r.n, .int r.a, .int r.b, .int r.c]
structure _root_.Ma.Rope.Ok (r : Rope) : Prop where
  a0 : 0 ≤ r.a
  aS : Sz 40 r.a
  b0 : 0 < r.b
  bS : Sz 40 r.b
  c0 : 0 < r.c
  cS : Sz 40 r.c
/-- the names of those that are broken -/
abbrev nm (ns : List Str) : PyData := .tuple (ns.map .str)
def leftOf (rs : List Rope) (ns : List Str) : List Rope := rs.filter fun r => !ns.contains r.n
def S_left : SpD := fun rs M P => ∃ (ro : List Rope) (ns : List Str), rs = [.d (.tuple (ro.map Rope.d)), .d (nm ns)] ∧ ro.length ≤ 100 ∧ P (.d (.list ((leftOf ro ns).map Rope.d))) M
def S_drawn : SpD := fun rs M P => ∃ (a : Int) (q : Q), rs = [.d (.int a), .d (fr q)] ∧ Sz 100 a ∧ Sz 2000 q.2 ∧ P (.d (.bool (decide (a * q.2 < q.1)))) M
def pullOf (r : Rope) (q : Q) : Q := if r.a * q.2 < q.1 then low (r.b * (q.1 - r.a * q.2)) q.2 else (0, 1)
def S_pull : SpD := fun rs M P => ∃ (r : Rope) (q : Q), rs = [.d r.d, .d (fr q)] ∧ r.Ok ∧ 0 < q.2 ∧ Sz 2000 q.1 ∧ Sz 2000 q.2 ∧ P (.d (fr (pullOf r q))) M
theorem Sz.mul {m n : Nat} {x y : Int} (h : Sz m x) (k : Sz n y) : Sz (m + n) (x * y) := wide_lt h k
theorem Sz.mulOk {m n : Nat} {x y : Int} (h : Sz m x) (k : Sz n y) (h0 : 0 < m) (h1 : 0 < n) (hs : m + n ≤ 1000000) : CMulW x y := wide_mul h k h0 h1 hs
theorem Sz.up {m n : Nat} {x : Int} (h : Sz m x) (k : m ≤ n) : Sz n x := Nat.lt_of_lt_of_le h (Nat.pow_le_pow_right (by decide) k)
theorem Sz.add {m : Nat} {x y : Int} (h : Sz m x) (k : Sz m y) : Sz (m + 1) (x + y) := by
  have h' : x.natAbs < 2 ^ m := h
  have k' : y.natAbs < 2 ^ m := k
  show (x + y).natAbs < 2 ^ (m + 1)
  rw [Nat.pow_succ]
  omega
theorem Sz.sub {m : Nat} {x y : Int} (h : Sz m x) (k : Sz m y) : Sz (m + 1) (x - y) := by
  have h' : x.natAbs < 2 ^ m := h
  have k' : y.natAbs < 2 ^ m := k
  show (x - y).natAbs < 2 ^ (m + 1)
  rw [Nat.pow_succ]
  omega
theorem Sz.le {m : Nat} {x y : Int} (h : Sz m y) (h0 : 0 ≤ x) (h1 : x ≤ y) : Sz m x := wide_le h0 h1 h
abbrev s_ropes_left : Stmt := topS 29
theorem sc_ropes_left : FnScope ["bundle", "broken", "rope"] ["bundle", "broken"] (defScope s_ropes_left) := ⟨rfl, rfl, rfl, by decide +kernel, rfl, by decide +kernel, by decide +kernel⟩
theorem ok_ropes_left (F : Fun K "ropes_left" "ropes_left" s_ropes_left f fd) : FnOk P w K mg base CX0 1 f fd ["bundle", "broken"] (spOf K S_left) := by
  refine ok_of F sc_ropes_left (fun rs M P h => by obtain ⟨a, b, rfl, _⟩ := h; rfl) fun cdv A outer s H E hr => ⟨_, (pss_one (ps_ret (pe_lc (own := [("rope", 2)]) (by rfl) sc_ropes_left.nd (kpi_tup K (pv 0)) (blkOk_by (N := ["bundle", "broken", "rope"]) (sc := defScope s_ropes_left) (own := [("rope", 2)]) (by decide +kernel)) (fun _ _ _ _ _ => (pg_name (i := 2) sc_ropes_left.nd rfl (Or.inl rfl))) (fun _ _ _ _ _ => (pts_one (pt_cmpR (kop_notIn K) (pe_ix (kix_tup K) (pv 2) pe_int (fun _ _ => rfl)) (pv 1) (by rfl)))) (fun _ _ _ _ _ => (pv 2))))), fun rs M P h => ?_⟩
  obtain ⟨ro, ns, rfl, hl, p⟩ := h
  walk_at "d"
  refine dE_lcT (gw_name 2) ?_
  walk_at "d"
  refine ⟨by rw [List.length_map]; omega, fun i acc M' => M' = M ∧ acc = (leftOf (ro.take i) ns).map Rope.d, ⟨rfl, rfl⟩, fun i x acc M' hx hI => ?_, fun acc M' hI => .inl ?_⟩
  · obtain ⟨rfl, rfl⟩ := hI
    obtain ⟨r, hr1, rfl⟩ := getElem?_map_some hx
    walk_at "d"
    refine dR_no (ns := ns) (.inr (.inl rfl)) ?_
    walk_at "d"
    have ht : ro.take (i + 1) = ro.take i ++ [r] := by rw [List.take_succ, hr1]; rfl
    refine ifB (fun h => ?_) (fun h => ?_)
    · walk_at "d"
      refine ⟨rfl, ?_⟩
      rw [ht]
      unfold leftOf
      rw [List.filter_append, List.map_append, List.filter_cons, if_pos h]
      rfl
    · refine ⟨rfl, ?_⟩
      rw [ht]
      unfold leftOf
      rw [List.filter_append, List.map_append, List.filter_cons, if_neg (by rw [h]; decide)]
      simp
  · obtain ⟨rfl, rfl⟩ := hI
    rw [List.length_map, List.take_length]
    exact rtOf.of p
abbrev s_is_drawn : Stmt := topS 32
theorem sc_is_drawn : FnScope ["slack", "sunk"] ["slack", "sunk"] (defScope s_is_drawn) := ⟨rfl, rfl, rfl, by decide +kernel, rfl, by decide +kernel, by decide +kernel⟩
theorem ok_is_drawn (F : Fun K "is_drawn" "is_drawn" s_is_drawn f fd) : FnOk P w K mg base CX0 1 f fd ["slack", "sunk"] (spOf K S_drawn) := by
  refine ok_of F sc_is_drawn (fun rs M P h => by obtain ⟨a, b, rfl, _⟩ := h; rfl) fun cdv A outer s H E hr => ⟨_, (pss_one (ps_ret (pe_cmp (pc_gt (pe_ix (kix_tup K) (pv 1) pe_int (fun _ _ => rfl)) (pe_op op_mulW (pv 0) (pe_ix (kix_tup K) (pv 1) pe_int (fun _ _ => rfl))))))), fun rs M P h => ?_⟩
  obtain ⟨a, q, rfl, h1, h2, p⟩ := h
  walk_at "d"
  refine dR_Ii (h1.mulOk h2 (by decide) (by decide) (by decide)) ?_
  walk_at "d"
  exact p
abbrev s_pull_at : Stmt := topS 33
theorem sc_pull_at : FnScope ["rope", "sunk", "slack", "stiff", "top", "bottom"] ["rope", "sunk"] (defScope s_pull_at) := ⟨rfl, rfl, rfl, by decide +kernel, rfl, by decide +kernel, by decide +kernel⟩
theorem ok_pull_at {a_N : Addr} (N : Nt K mg a_N) (F : Fun K "pull_at" "pull_at" s_pull_at f fd) (c_is_drawn : Has P w K mg base 1 "is_drawn" ["slack", "sunk"] S_drawn) (c_fraction : Has P w K mg base 2 "fraction" ["top", "bottom"] S_fraction) : FnOk P w K mg base CX0 3 f fd ["rope", "sunk"] (spOf K S_pull) := by
  refine ok_of F sc_pull_at (fun rs M P h => by obtain ⟨a, b, rfl, _⟩ := h; rfl) fun cdv A outer s H E hr => ⟨_, (pss_cons (ps_set (i := 2) sc_pull_at.nd rfl (Or.inl rfl) (pe_ix (kix_tup K) (pv 0) pe_int (fun _ _ => rfl)))
      (pss_cons (ps_set (i := 3) sc_pull_at.nd rfl (Or.inl rfl) (pe_ix (kix_tup K) (pv 0) pe_int (fun _ _ => rfl)))
      (pss_cons (ps_if (pt_not (pt_val (pe_callH' c_is_drawn (hr.mono (by first | decide | omega)) rfl (pa_cons (pv 2) (pa_cons (pv 1) pa_nil))))) (pss_one (ps_ret (pe_glob (v := .ref a_N) rfl N.m rfl))) pss_nil)
      (pss_cons (ps_asg (pv 1) (kpg_tup K (n := 2) rfl (pgs_cons (pg_name (i := 4) sc_pull_at.nd rfl (Or.inl rfl)) (pgs_cons (pg_name (i := 5) sc_pull_at.nd rfl (Or.inl rfl)) pgs_nil))))
      (pss_one (ps_ret (pe_callH' c_fraction (hr.mono (by first | decide | omega)) rfl (pa_cons (pe_op op_mulW (pv 3) (pe_op op_sub (pv 4) (pe_op op_mulW (pv 2) (pv 5)))) (pa_cons (pv 5) pa_nil))))))))), fun rs M P h => ?_⟩
  obtain ⟨r, q, rfl, hr1, hq0, hq1, hq2, p⟩ := h
  walk_at "d"
  refine ⟨hr1.aS.up (by decide), hq2, ?_⟩
  walk_at "d"
  refine ifB (fun h => ?_) (fun h => ?_)
  · walk_at "d"
    unfold pullOf at p
    rw [if_neg (by simpa using h)] at p
    exact p
  · have h' : r.a * q.2 < q.1 := by simpa using h
    unfold pullOf at p
    rw [if_pos h'] at p
    walk_at "d"
    have z1 : Sz 2040 (r.a * q.2) := (hr1.aS.mul hq2).up (by decide)
    refine dR_Ii (hr1.aS.mulOk hq2 (by decide) (by decide) (by decide)) ?_
    walk_at "d"
    have z2 : Sz 2041 (q.1 - r.a * q.2) := (hq1.up (by decide)).sub z1
    refine dR_Ii (hr1.bS.mulOk z2 (by decide) (by decide) (by decide)) ?_
    walk_at "d"
    exact ⟨Int.mul_nonneg (Int.le_of_lt hr1.b0) (by omega), hq0, hq2.up (by decide), rtOf.of p⟩
end
end K2
namespace K2
open PySem L2 Sd Ma
local macro_rules | `(tactic| walk_at "d1") => `(tactic| first
  | ((with_reducible refine' dE_var ?dv ?_); (case dv => rfl))
  | with_reducible refine' dE_int ?_
  | with_reducible refine' dE_str ?_
  | with_reducible refine' dE_bl ?_
  | with_reducible refine' dE_non ?_
  | ((with_reducible refine' dE_nt ?dv ?_); (case dv => assumption))
  | with_reducible refine' dE_ref ?_
  | with_reducible refine' dE_op ?_
  | with_reducible refine' dE_un ?_
  | with_reducible refine' dE_cmp ?_
  | with_reducible refine' dE_isN ?_
  | with_reducible refine' dE_notN ?_
  | with_reducible refine' dE_call ?_
  | with_reducible refine' dE_cb ?_
  | with_reducible refine' dE_kw ?_
  | with_reducible refine' dE_tup ?_
  | with_reducible refine' dE_if ?_
  | with_reducible refine' dE_and ?_
  | with_reducible refine' dE_or ?_
  | with_reducible refine' dE_not ?_
  | with_reducible refine' dE_sl ?_
  | with_reducible refine' dO_none ?_
  | with_reducible refine' dO_some ?_
  | with_reducible refine' dA_cons ?_
  | with_reducible refine' dA_nil ?_
  | with_reducible refine' dT_B ?_
  | with_reducible refine' dT_test ?_
  | with_reducible refine' dT_and ?_
  | with_reducible refine' dT_or ?_
  | with_reducible refine' dT_not ?_
  | with_reducible refine' dT_yes ?_
  | with_reducible refine' dR_I0i ?_
  | with_reducible refine' dU_neg ?_
  | ((with_reducible refine' dR_ixT ?dv ?_); (case dv => rfl))
  | with_reducible refine' dS_seq ?_
  | with_reducible refine' dS_next ?_
  | with_reducible refine' dS_ret ?_
  | with_reducible refine' dS_drop ?_
  | with_reducible refine' dS_if ?_
  | with_reducible refine' dS_asg ?_
  | with_reducible refine' dS_par ?_
  | with_reducible refine' dG_name ?_
  | ((with_reducible refine' dG_tup ?dv ?_); (case dv => rfl); (dsimp only [List.map]))
  | with_reducible refine' dGs_cons ?_
  | with_reducible refine' dGs_nil ?_
  | with_reducible refine' dC_abs ?_
  | with_reducible refine' dC_max2 ?_
  | with_reducible refine' dC_min2 ?_
  | with_reducible refine' rtOf.of ?_
  | with_reducible refine' ex_cmp ?_
  | with_reducible refine' ex_bool ?_
  | with_reducible refine' ex_int ?_
  | with_reducible refine' ex_list ?_
  | with_reducible refine' ex_tup ?_
  | with_reducible refine' ex_d ?_
  | with_reducible refine' ex_m ?_
  | with_reducible refine' ex_par ?_
  | with_reducible refine' ex_rg1 ?_
  | with_reducible refine' ex_rg2 ?_
  | ((with_reducible refine' ex_dat ?dv ?dw ?_); (case dv => rfl); (case dw => exact Nat.le_of_ble_eq_true rfl))
  | ((fail_if_success (with_reducible show ∃ _, _)); (fail_if_success (with_reducible show _ ∧ _)); refine ⟨_, _, rfl, ?_⟩)
  | ((fail_if_success (with_reducible show ∃ _, _)); (fail_if_success (with_reducible show _ ∧ _)); refine ⟨_, rfl, ?_⟩)
  | fail)
local macro_rules | `(tactic| walk_at "d") => `(tactic| repeat' walk_at "d1")
local macro_rules | `(tactic| walk_at "e1") => `(tactic| first
  | ((with_reducible refine' dE_var ?dv ?_); (case dv => rfl))
  | with_reducible refine' dE_int ?_
  | with_reducible refine' dE_str ?_
  | with_reducible refine' dE_bl ?_
  | with_reducible refine' dE_non ?_
  | ((with_reducible refine' dE_nt ?dv ?_); (case dv => assumption))
  | with_reducible refine' dE_ref ?_
  | with_reducible refine' dE_op ?_
  | with_reducible refine' dE_un ?_
  | with_reducible refine' dE_cmp ?_
  | with_reducible refine' dE_isN ?_
  | with_reducible refine' dE_notN ?_
  | with_reducible refine' dE_call ?_
  | with_reducible refine' dE_cb ?_
  | with_reducible refine' dE_kw ?_
  | with_reducible refine' dE_tup ?_
  | with_reducible refine' dE_if ?_
  | with_reducible refine' dE_and ?_
  | with_reducible refine' dE_or ?_
  | with_reducible refine' dE_not ?_
  | with_reducible refine' dE_sl ?_
  | with_reducible refine' dO_none ?_
  | with_reducible refine' dO_some ?_
  | with_reducible refine' dA_cons ?_
  | with_reducible refine' dA_nil ?_
  | with_reducible refine' dT_B ?_
  | with_reducible refine' dT_test ?_
  | with_reducible refine' dT_and ?_
  | with_reducible refine' dT_or ?_
  | with_reducible refine' dT_not ?_
  | with_reducible refine' dT_yes ?_
  | with_reducible refine' dR_I0i ?_
  | with_reducible refine' dU_neg ?_
  | ((with_reducible refine' dR_ixT ?dv ?_); (case dv => rfl))
  | with_reducible refine' dS_next ?_
  | with_reducible refine' dS_ret ?_
  | with_reducible refine' dS_drop ?_
  | with_reducible refine' dS_if ?_
  | with_reducible refine' dS_asg ?_
  | with_reducible refine' dS_par ?_
  | with_reducible refine' dG_name ?_
  | ((with_reducible refine' dG_tup ?dv ?_); (case dv => rfl); (dsimp only [List.map]))
  | with_reducible refine' dGs_cons ?_
  | with_reducible refine' dGs_nil ?_
  | with_reducible refine' dC_abs ?_
  | with_reducible refine' dC_max2 ?_
  | with_reducible refine' dC_min2 ?_
  | with_reducible refine' rtOf.of ?_
  | with_reducible refine' ex_cmp ?_
  | with_reducible refine' ex_bool ?_
  | with_reducible refine' ex_int ?_
  | with_reducible refine' ex_list ?_
  | with_reducible refine' ex_tup ?_
  | with_reducible refine' ex_d ?_
  | with_reducible refine' ex_m ?_
  | with_reducible refine' ex_par ?_
  | with_reducible refine' ex_rg1 ?_
  | with_reducible refine' ex_rg2 ?_
  | ((with_reducible refine' ex_dat ?dv ?dw ?_); (case dv => rfl); (case dw => exact Nat.le_of_ble_eq_true rfl))
  | ((fail_if_success (with_reducible show ∃ _, _)); (fail_if_success (with_reducible show _ ∧ _)); refine ⟨_, _, rfl, ?_⟩)
  | ((fail_if_success (with_reducible show ∃ _, _)); (fail_if_success (with_reducible show _ ∧ _)); refine ⟨_, rfl, ?_⟩)
  | fail)
local macro_rules | `(tactic| walk_at "e") => `(tactic| repeat' walk_at "e1")
section
variable {P : Program} {w : World} {K : PySem.W.Frag} {mg : Str → Option Value} {base : Heap} {f : Addr} {fd : FuncData}
abbrev keyS : PyData → Option Int := itemKey 1
def kvS (d : PyData) : Int := (itemKey 1 d).getD 0
abbrev opt : Option Q → PyData
  | none => .none
  | some q => fr q
def S_sunk : SpD := fun rs M P => ∃ (ro : List Rope) (t b : Int), rs = [.d (.list (ro.map Rope.d)), .d (fr (t, b))] ∧ ro.length ≤ 100 ∧ (∀ r ∈ ro, r.Ok) ∧ 0 ≤ t ∧ 0 < b ∧ Sz 300 t ∧ Sz 300 b ∧ P (.d (opt (sunkOf ro t b))) M
abbrev s_slack_of : Stmt := topS 31
theorem sc_slack_of : FnScope ["rope"] ["rope"] (defScope s_slack_of) := ⟨rfl, rfl, rfl, by decide +kernel, rfl, by decide +kernel, by decide +kernel⟩
abbrev s_sunk_by : Stmt := topS 30
theorem sc_sunk_by : FnScope ["left", "load", "top", "bottom", "sunk", "stiff_drawn", "lost_to_slack", "name", "slack", "stiff", "strong"] ["left", "load"] (defScope s_sunk_by) := ⟨rfl, rfl, rfl, by decide +kernel, rfl, by decide +kernel, by decide +kernel⟩
theorem ok_sunk_by {f_slack_of a_N : Addr} (N : Nt K mg a_N) (T : Txt mg) (F : Fun K "sunk_by" "sunk_by" s_sunk_by f fd) (c_slack_of_key : KeyFn P w K f_slack_of keyS) (c_slack_of_mg : mg "slack_of" = some (.ref f_slack_of)) (c_is_drawn : Has P w K mg base 1 "is_drawn" ["slack", "sunk"] S_drawn) (c_fraction : Has P w K mg base 2 "fraction" ["top", "bottom"] S_fraction) : FnOk P w K mg base CX0 4 f fd ["left", "load"] (spOf K S_sunk) := by
  refine ok_of F sc_sunk_by (fun rs M P h => by obtain ⟨a, b, c, rfl, _⟩ := h; rfl) fun cdv A outer s H E hr => ⟨_, (pss_cons (ps_asg (pv 1) (kpg_tup K (n := 2) rfl (pgs_cons (pg_name (i := 2) sc_sunk_by.nd rfl (Or.inl rfl)) (pgs_cons (pg_name (i := 3) sc_sunk_by.nd rfl (Or.inl rfl)) pgs_nil))))
      (pss_cons (ps_if (pt_cmp (pc_eqI (pv 2) pe_int)) (pss_one (ps_ret (pe_glob (v := .ref a_N) rfl N.m rfl))) pss_nil)
      (pss_cons (ps_set (i := 4) sc_sunk_by.nd rfl (Or.inl rfl) pe_non)
      (pss_cons (ps_set (i := 5) sc_sunk_by.nd rfl (Or.inl rfl) pe_int)
      (pss_cons (ps_set (i := 6) sc_sunk_by.nd rfl (Or.inl rfl) pe_int)
      (pss_cons (ps_for PassesOwn.never rfl (kpi_list K (pe_callBK (kcr_sortedF K c_slack_of_key hr (by decide)) (by rfl) T.sorted (by decide +kernel) (pa_cons (pv 0) pa_nil) (pk_cons (pe_glob (v := .ref f_slack_of) rfl c_slack_of_mg rfl) pk_nil))) (kpg_tup K (n := 4) rfl (pgs_cons (pg_name (i := 7) sc_sunk_by.nd rfl (Or.inl rfl)) (pgs_cons (pg_name (i := 8) sc_sunk_by.nd rfl (Or.inl rfl)) (pgs_cons (pg_name (i := 9) sc_sunk_by.nd rfl (Or.inl rfl)) (pgs_cons (pg_name (i := 10) sc_sunk_by.nd rfl (Or.inl rfl)) pgs_nil))))) (pss_cons (ps_if (PW.pt (pw_and (pt_cmp (pc_notN (pv 4))) (pw_and1 (pt_not (pt_val (pe_callH' c_is_drawn (hr.mono (by first | decide | omega)) rfl (pa_cons (pv 8) (pa_cons (pv 4) pa_nil)))))))) (pss_one (ps_ret (pv 4))) pss_nil)
      (pss_cons (ps_aug (i := 5) sc_sunk_by.nd rfl (Or.inl rfl) (pv 9) ip_add)
      (pss_cons (ps_aug (i := 6) sc_sunk_by.nd rfl (Or.inl rfl) (pe_op op_mulW (pv 9) (pv 8)) ip_add)
      (pss_one (ps_set (i := 4) sc_sunk_by.nd rfl (Or.inl rfl) (pe_callH' c_fraction (hr.mono (by first | decide | omega)) rfl (pa_cons (pe_op op_add (pv 2) (pe_op op_mulW (pv 6) (pv 3))) (pa_cons (pe_op op_mulW (pv 5) (pv 3)) pa_nil)))))))))
      (pss_one (ps_ret (pv 4))))))))), fun rs M P h => ?_⟩
  obtain ⟨ro, t, b, rfl, hl, hro, ht, hb, st, sb, p⟩ := h
  walk_at "d"
  refine ifB (fun h => ?_) (fun h => ?_)
  · walk_at "d"
    have h0 : t = 0 := of_decide_eq_true h
    unfold sunkOf at p
    rw [if_pos h0] at p
    exact p
  have h0 : t ≠ 0 := of_decide_eq_false h
  unfold sunkOf at p
  rw [if_neg h0] at p
  walk_at "d"
  refine dS_forL ?_
  walk_at "d"
  refine dK_sortedF (kv := kvS) (.inl rfl) (fun d hd => ?_) ?_
  · obtain ⟨r, _, rfl⟩ := List.mem_map.mp hd
    rfl
  rw [show (ro.map Rope.d).mergeSort (fun a b => decide (kvS a ≤ kvS b)) = (bySlack ro).map Rope.d from (List.map_mergeSort (r := fun x y : Rope => decide (x.a ≤ y.a)) (f := Rope.d) (fun a _ b _ => rfl)).symm]
  have hlen : (bySlack ro).length ≤ 100 := by unfold bySlack; rw [List.length_mergeSort]; exact hl
  have hok : ∀ r ∈ bySlack ro, r.Ok := fun r hr => hro r (List.mem_mergeSort.mp hr)
  generalize bySlack ro = so at hlen hok p
  refine ⟨_, rfl, fun i δ M' => ∃ (sk : Option Q) (k l : Int) (x1 x2 x3 x4 : Option SV), δ = [some (.d (.list (ro.map Rope.d))), some (.d (fr (t, b))), some (.d (.int t)), some (.d (.int b)), some (.d (opt sk)), some (.d (.int k)), some (.d (.int l)), x1, x2, x3, x4] ∧
      M' = M ∧ goS t b (so.drop i) sk k l = goS t b so none 0 0 ∧ Sz (41 + i) k ∧ Sz (81 + i) l ∧ 0 ≤ k ∧ 0 ≤ l ∧ (∀ q, sk = some q → 0 < q.2 ∧ Sz 600 q.2), ⟨none, 0, 0, _, _, _, _, rfl, rfl, rfl, Nat.pow_pos (by decide), Nat.pow_pos (by decide), by decide, by decide, fun q e => by cases e⟩, fun i x δ M' hx hI => ?_, fun δ M' hI => ?_⟩
  · obtain ⟨sk, k, l, x1, x2, x3, x4, rfl, rfl, hg, zk, zl, k0, l0, hq⟩ := hI
    obtain ⟨r, hr1, rfl⟩ := getElem?_map_some hx
    have hi : i < so.length := (List.getElem?_eq_some_iff.mp hr1).1
    have rok := hok r (List.mem_of_getElem? hr1)
    have hdr : so.drop i = r :: so.drop (i + 1) := by rw [List.drop_eq_getElem_cons hi, (List.getElem?_eq_some_iff.mp hr1).2]
    have next : ∀ (sk' : Option Q), sk' = some (low (t + (l + r.b * r.a) * b) ((k + r.b) * b)) → goS t b (so.drop (i + 1)) sk' (k + r.b) (l + r.b * r.a) = goS t b so none 0 0 →
        ∃ (sk : Option Q) (k' l' : Int) (x1 x2 x3 x4 : Option SV), [some (.d (.list (ro.map Rope.d))), some (.d (fr (t, b))), some (.d (.int t)), some (.d (.int b)), some (.d (opt sk')), some (.d (.int (k + r.b))), some (.d (.int (l + r.b * r.a))), some (.d (.str r.n)), some (.d (.int r.a)), some (.d (.int r.b)), some (.d (.int r.c))] = [some (.d (.list (ro.map Rope.d))), some (.d (fr (t, b))), some (.d (.int t)), some (.d (.int b)), some (.d (opt sk)), some (.d (.int k')), some (.d (.int l')), x1, x2, x3, x4] ∧
      M' = M' ∧ goS t b (so.drop (i + 1)) sk k' l' = goS t b so none 0 0 ∧ Sz (41 + (i + 1)) k' ∧ Sz (81 + (i + 1)) l' ∧ 0 ≤ k' ∧ 0 ≤ l' ∧ (∀ q, sk = some q → 0 < q.2 ∧ Sz 600 q.2) := fun sk' e1 e2 => by
      have hba : 0 ≤ r.b * r.a := Int.mul_nonneg (Int.le_of_lt rok.b0) rok.a0
      have hkb : 0 < (k + r.b) * b := Int.mul_pos (by have := rok.b0; omega) hb
      have zk' : Sz (41 + (i + 1)) (k + r.b) := (zk.add (rok.bS.up (by omega))).up (by omega)
      have zl' : Sz (81 + (i + 1)) (l + r.b * r.a) := (zl.add ((rok.bS.mul rok.aS).up (by omega))).up (by omega)
      refine ⟨sk', k + r.b, l + r.b * r.a, _, _, _, _, rfl, rfl, e2, zk', zl', by have := rok.b0; omega, by omega, fun q e => ?_⟩
      rw [e1] at e
      cases e
      have hz : Sz 600 ((k + r.b) * b) := (zk'.mul sb).up (by omega)
      have ht' : 0 ≤ t + (l + r.b * r.a) * b := by
        have := Int.mul_nonneg (show 0 ≤ l + r.b * r.a by omega) (Int.le_of_lt hb)
        omega
      exact ⟨(low_red ht' hkb).q0, hz.le (Int.le_of_lt (low_red ht' hkb).q0) (low_le ht' hkb).2⟩
    have zk' : Sz (41 + (i + 1)) (k + r.b) := (zk.add (rok.bS.up (by omega))).up (by omega)
    have zl' : Sz (81 + (i + 1)) (l + r.b * r.a) := (zl.add ((rok.bS.mul rok.aS).up (by omega))).up (by omega)
    have hba : 0 ≤ r.b * r.a := Int.mul_nonneg (Int.le_of_lt rok.b0) rok.a0
    have hkb : 0 < (k + r.b) * b := Int.mul_pos (by have := rok.b0; omega) hb
    have ht' : 0 ≤ t + (l + r.b * r.a) * b := by
      have := Int.mul_nonneg (show 0 ≤ l + r.b * r.a by omega) (Int.le_of_lt hb)
      omega
    cases sk with
    | none =>
      walk_at "d"
      refine ifF rfl ?_
      refine ifF rfl ?_
      walk_at "d"
      refine dS_aug (a := k) rfl ?_
      walk_at "d"
      refine dS_aug (a := l) rfl ?_
      walk_at "d"
      refine dR_Ii (rok.bS.mulOk rok.aS (by decide) (by decide) (by decide)) ?_
      walk_at "d"
      refine dR_Ii (zl'.mulOk sb (by omega) (by omega) (by omega)) ?_
      walk_at "d"
      refine dR_Ii (zk'.mulOk sb (by omega) (by omega) (by omega)) ?_
      walk_at "d"
      refine ⟨ht', hkb, (zk'.mul sb).up (by omega), ?_⟩
      walk_at "d"
      exact next _ rfl (by rw [hdr] at hg; exact hg)
    | some q =>
      obtain ⟨q0, qs⟩ := hq q rfl
      walk_at "d"
      refine ifT rfl ?_
      walk_at "d"
      refine ⟨rok.aS.up (by decide), qs.up (by decide), ?_⟩
      walk_at "d"
      rw [hdr] at hg
      refine ifB (fun h => ?_) (fun h => ?_)
      · walk_at "d"
        have hg' : (if r.a * q.2 < q.1 then goS t b (so.drop (i + 1)) (some (low (t + (l + r.b * r.a) * b) ((k + r.b) * b))) (k + r.b) (l + r.b * r.a) else some q) = goS t b so none 0 0 := hg
        rw [if_neg (by simpa using h)] at hg'
        rw [← hg'] at p
        exact p
      · have hg' : (if r.a * q.2 < q.1 then goS t b (so.drop (i + 1)) (some (low (t + (l + r.b * r.a) * b) ((k + r.b) * b))) (k + r.b) (l + r.b * r.a) else some q) = goS t b so none 0 0 := hg
        rw [if_pos (by simpa using h)] at hg'
        walk_at "d"
        refine dS_aug (a := k) rfl ?_
        walk_at "d"
        refine dS_aug (a := l) rfl ?_
        walk_at "d"
        refine dR_Ii (rok.bS.mulOk rok.aS (by decide) (by decide) (by decide)) ?_
        walk_at "d"
        refine dR_Ii (zl'.mulOk sb (by omega) (by omega) (by omega)) ?_
        walk_at "d"
        refine dR_Ii (zk'.mulOk sb (by omega) (by omega) (by omega)) ?_
        walk_at "d"
        refine ⟨ht', hkb, (zk'.mul sb).up (by omega), ?_⟩
        walk_at "d"
        exact next _ rfl hg'
  · obtain ⟨sk, k, l, x1, x2, x3, x4, rfl, rfl, hg, _⟩ := hI
    rw [List.length_map, List.drop_length] at hg
    walk_at "d"
    rw [← hg] at p
    exact p
end
end K2
namespace K2
open PySem L2 Sd Ma
local macro_rules | `(tactic| walk_at "d1") => `(tactic| first
  | ((with_reducible refine' dE_var ?dv ?_); (case dv => rfl))
  | with_reducible refine' dE_int ?_
  | with_reducible refine' dE_str ?_
  | with_reducible refine' dE_bl ?_
  | with_reducible refine' dE_non ?_
  | ((with_reducible refine' dE_nt ?dv ?_); (case dv => assumption))
  | with_reducible refine' dE_ref ?_
  | with_reducible refine' dE_op ?_
  | with_reducible refine' dE_un ?_
  | with_reducible refine' dE_cmp ?_
  | with_reducible refine' dE_isN ?_
  | with_reducible refine' dE_notN ?_
  | with_reducible refine' dE_call ?_
  | with_reducible refine' dE_cb ?_
  | with_reducible refine' dE_kw ?_
  | with_reducible refine' dE_tup ?_
  | with_reducible refine' dE_if ?_
  | with_reducible refine' dE_and ?_
  | with_reducible refine' dE_or ?_
  | with_reducible refine' dE_not ?_
  | with_reducible refine' dE_sl ?_
  | with_reducible refine' dO_none ?_
  | with_reducible refine' dO_some ?_
  | with_reducible refine' dA_cons ?_
  | with_reducible refine' dA_nil ?_
  | with_reducible refine' dT_B ?_
  | with_reducible refine' dT_test ?_
  | with_reducible refine' dT_and ?_
  | with_reducible refine' dT_or ?_
  | with_reducible refine' dT_not ?_
  | with_reducible refine' dT_yes ?_
  | with_reducible refine' dR_I0i ?_
  | with_reducible refine' dU_neg ?_
  | ((with_reducible refine' dR_ixT ?dv ?_); (case dv => rfl))
  | with_reducible refine' dS_seq ?_
  | with_reducible refine' dS_next ?_
  | with_reducible refine' dS_ret ?_
  | with_reducible refine' dS_drop ?_
  | with_reducible refine' dS_if ?_
  | with_reducible refine' dS_asg ?_
  | with_reducible refine' dS_par ?_
  | with_reducible refine' dG_name ?_
  | ((with_reducible refine' dG_tup ?dv ?_); (case dv => rfl); (dsimp only [List.map]))
  | with_reducible refine' dGs_cons ?_
  | with_reducible refine' dGs_nil ?_
  | with_reducible refine' dC_abs ?_
  | with_reducible refine' dC_max2 ?_
  | with_reducible refine' dC_min2 ?_
  | with_reducible refine' rtOf.of ?_
  | with_reducible refine' ex_cmp ?_
  | with_reducible refine' ex_bool ?_
  | with_reducible refine' ex_int ?_
  | with_reducible refine' ex_list ?_
  | with_reducible refine' ex_tup ?_
  | with_reducible refine' ex_d ?_
  | with_reducible refine' ex_m ?_
  | with_reducible refine' ex_par ?_
  | with_reducible refine' ex_rg1 ?_
  | with_reducible refine' ex_rg2 ?_
  | ((with_reducible refine' ex_dat ?dv ?dw ?_); (case dv => rfl); (case dw => exact Nat.le_of_ble_eq_true rfl))
  | ((fail_if_success (with_reducible show ∃ _, _)); (fail_if_success (with_reducible show _ ∧ _)); refine ⟨_, _, rfl, ?_⟩)
  | ((fail_if_success (with_reducible show ∃ _, _)); (fail_if_success (with_reducible show _ ∧ _)); refine ⟨_, rfl, ?_⟩)
  | fail)
local macro_rules | `(tactic| walk_at "d") => `(tactic| repeat' walk_at "d1")
local macro_rules | `(tactic| walk_at "e1") => `(tactic| first
  | ((with_reducible refine' dE_var ?dv ?_); (case dv => rfl))
  | with_reducible refine' dE_int ?_
  | with_reducible refine' dE_str ?_
  | with_reducible refine' dE_bl ?_
  | with_reducible refine' dE_non ?_
  | ((with_reducible refine' dE_nt ?dv ?_); (case dv => assumption))
  | with_reducible refine' dE_ref ?_
  | with_reducible refine' dE_op ?_
  | with_reducible refine' dE_un ?_
  | with_reducible refine' dE_cmp ?_
  | with_reducible refine' dE_isN ?_
  | with_reducible refine' dE_notN ?_
  | with_reducible refine' dE_call ?_
  | with_reducible refine' dE_cb ?_
  | with_reducible refine' dE_kw ?_
  | with_reducible refine' dE_tup ?_
  | with_reducible refine' dE_if ?_
  | with_reducible refine' dE_and ?_
  | with_reducible refine' dE_or ?_
  | with_reducible refine' dE_not ?_
  | with_reducible refine' dE_sl ?_
  | with_reducible refine' dO_none ?_
  | with_reducible refine' dO_some ?_
  | with_reducible refine' dA_cons ?_
  | with_reducible refine' dA_nil ?_
  | with_reducible refine' dT_B ?_
  | with_reducible refine' dT_test ?_
  | with_reducible refine' dT_and ?_
  | with_reducible refine' dT_or ?_
  | with_reducible refine' dT_not ?_
  | with_reducible refine' dT_yes ?_
  | with_reducible refine' dR_I0i ?_
  | with_reducible refine' dU_neg ?_
  | ((with_reducible refine' dR_ixT ?dv ?_); (case dv => rfl))
  | with_reducible refine' dS_next ?_
  | with_reducible refine' dS_ret ?_
  | with_reducible refine' dS_drop ?_
  | with_reducible refine' dS_if ?_
  | with_reducible refine' dS_asg ?_
  | with_reducible refine' dS_par ?_
  | with_reducible refine' dG_name ?_
  | ((with_reducible refine' dG_tup ?dv ?_); (case dv => rfl); (dsimp only [List.map]))
  | with_reducible refine' dGs_cons ?_
  | with_reducible refine' dGs_nil ?_
  | with_reducible refine' dC_abs ?_
  | with_reducible refine' dC_max2 ?_
  | with_reducible refine' dC_min2 ?_
  | with_reducible refine' rtOf.of ?_
  | with_reducible refine' ex_cmp ?_
  | with_reducible refine' ex_bool ?_
  | with_reducible refine' ex_int ?_
  | with_reducible refine' ex_list ?_
  | with_reducible refine' ex_tup ?_
  | with_reducible refine' ex_d ?_
  | with_reducible refine' ex_m ?_
  | with_reducible refine' ex_par ?_
  | with_reducible refine' ex_rg1 ?_
  | with_reducible refine' ex_rg2 ?_
  | ((with_reducible refine' ex_dat ?dv ?dw ?_); (case dv => rfl); (case dw => exact Nat.le_of_ble_eq_true rfl))
  | ((fail_if_success (with_reducible show ∃ _, _)); (fail_if_success (with_reducible show _ ∧ _)); refine ⟨_, _, rfl, ?_⟩)
  | ((fail_if_success (with_reducible show ∃ _, _)); (fail_if_success (with_reducible show _ ∧ _)); refine ⟨_, rfl, ?_⟩)
  | fail)
local macro_rules | `(tactic| walk_at "e") => `(tactic| repeat' walk_at "e1")
structure QOk (q : Q) : Prop extends Red q where
  s1 : Sz 600 q.1
  s2 : Sz 600 q.2
theorem goS_ok {t b : Int} (ht : 0 ≤ t) (hb : 0 < b) (st : Sz 300 t) (sb : Sz 300 b) : ∀ (rs : List Rope) (s : Option Q) (k l : Int) (m : Nat), m + rs.length ≤ 100 → (∀ r ∈ rs, r.Ok) → Sz (41 + m) k → Sz (81 + m) l → 0 ≤ k → 0 ≤ l → (∀ q, s = some q → QOk q) → ∀ q, goS t b rs s k l = some q → QOk q
  | [], s, k, l, m, _, _, _, _, _, _, hs, q, e => hs q e
  | r :: rs, s, k, l, m, hm, hro, zk, zl, k0, l0, hs, q, e => by
    rw [List.length_cons] at hm
    have rok := hro r List.mem_cons_self
    have hba : 0 ≤ r.b * r.a := Int.mul_nonneg (Int.le_of_lt rok.b0) rok.a0
    have hkb : 0 < (k + r.b) * b := Int.mul_pos (by have := rok.b0; omega) hb
    have zk' : Sz (41 + (m + 1)) (k + r.b) := (zk.add (rok.bS.up (by omega))).up (by omega)
    have zl' : Sz (81 + (m + 1)) (l + r.b * r.a) := (zl.add ((rok.bS.mul rok.aS).up (by omega))).up (by omega)
    have ht' : 0 ≤ t + (l + r.b * r.a) * b := by
      have := Int.mul_nonneg (show 0 ≤ l + r.b * r.a by omega) (Int.le_of_lt hb)
      omega
    have hz : Sz 600 ((k + r.b) * b) := (zk'.mul sb).up (by omega)
    have hz1 : Sz 600 (t + (l + r.b * r.a) * b) := (Sz.add (st.up (show 300 ≤ 500 by decide)) ((zl'.mul sb).up (by omega))).up (by decide)
    have new : QOk (low (t + (l + r.b * r.a) * b) ((k + r.b) * b)) := ⟨low_red ht' hkb, hz1.le (low_red ht' hkb).p0 (low_le ht' hkb).1, hz.le (Int.le_of_lt (low_red ht' hkb).q0) (low_le ht' hkb).2⟩
    have go : goS t b rs (some (low (t + (l + r.b * r.a) * b) ((k + r.b) * b))) (k + r.b) (l + r.b * r.a) = some q → QOk q := fun e => goS_ok ht hb st sb rs _ _ _ (m + 1) (by omega) (fun x hx => hro x (List.mem_cons_of_mem _ hx)) zk' zl' (by have := rok.b0; omega) (by omega) (fun q' e' => by cases e'; exact new) q e
    cases s with
    | none => exact go e
    | some q0 =>
      have e' : (if r.a * q0.2 < q0.1 then goS t b rs (some (low (t + (l + r.b * r.a) * b) ((k + r.b) * b))) (k + r.b) (l + r.b * r.a) else some q0) = some q := e
      by_cases hc : r.a * q0.2 < q0.1
      · rw [if_pos hc] at e'; exact go e'
      · rw [if_neg hc] at e'; exact hs q e'
theorem sunk_ok {ro : List Rope} {t b : Int} (hl : ro.length ≤ 100) (hro : ∀ r ∈ ro, r.Ok) (ht : 0 ≤ t) (hb : 0 < b) (st : Sz 300 t) (sb : Sz 300 b) {q : Q} (e : sunkOf ro t b = some q) : QOk q := by
  unfold sunkOf at e
  by_cases h : t = 0
  · rw [if_pos h] at e; cases e
    exact ⟨⟨by decide, by decide, by decide⟩, Nat.pow_pos (by decide), Nat.lt_of_lt_of_le (by decide) (Nat.pow_le_pow_right (by decide) (show 1 ≤ 600 by decide))⟩
  · rw [if_neg h] at e
    exact goS_ok ht hb st sb (bySlack ro) none 0 0 0 (by unfold bySlack; rw [List.length_mergeSort]; omega) (fun r hr => hro r (List.mem_mergeSort.mp hr)) (Nat.pow_pos (by decide)) (Nat.pow_pos (by decide)) (by decide) (by decide) (fun q e => by cases e) q e
theorem goS_some {t b : Int} : ∀ (rs : List Rope) (q : Q) (k l : Int), ∃ q', goS t b rs (some q) k l = some q'
  | [], q, k, l => ⟨q, rfl⟩
  | r :: rs, q, k, l => by
    show ∃ q', (if r.a * q.2 < q.1 then goS t b rs (some (low (t + (l + r.b * r.a) * b) ((k + r.b) * b))) (k + r.b) (l + r.b * r.a) else some q) = some q'
    by_cases hc : r.a * q.2 < q.1
    · rw [if_pos hc]; exact goS_some rs _ _ _
    · rw [if_neg hc]; exact ⟨q, rfl⟩
/-- the ropes of a bundle -/
structure BOk (ro : List Rope) : Prop where
  len : ro.length ≤ 100
  ok : ∀ r ∈ ro, r.Ok
structure LOk (q : Q) : Prop extends Red q where
  s1 : Sz 300 q.1
  s2 : Sz 300 q.2
abbrev bd (ro : List Rope) : PyData := .tuple (ro.map Rope.d)
abbrev ld (ro : List Rope) : PyData := .list (ro.map Rope.d)
theorem left_ok {ro : List Rope} (h : BOk ro) (ns : List Str) : BOk (leftOf ro ns) := ⟨Nat.le_trans (List.length_filter_le _ _) h.len, fun r hr => h.ok r (List.mem_filter.mp hr).1⟩
theorem sunk_some {ro : List Rope} {t b : Int} (h : ro ≠ []) : ∃ q, sunkOf ro t b = some q := by
  unfold sunkOf
  by_cases h0 : t = 0
  · rw [if_pos h0]; exact ⟨_, rfl⟩
  · rw [if_neg h0]
    cases e : bySlack ro with
    | nil =>
      exfalso
      have := congrArg List.length e
      unfold bySlack at this
      rw [List.length_mergeSort] at this
      exact h (List.length_eq_zero_iff.mp this)
    | cons r rs => exact goS_some rs _ _ _
end K2
namespace K2
open PySem L2 Sd Ma
local macro_rules | `(tactic| walk_at "d1") => `(tactic| first
  | ((with_reducible refine' dE_var ?dv ?_); (case dv => rfl))
  | with_reducible refine' dE_int ?_
  | with_reducible refine' dE_str ?_
  | with_reducible refine' dE_bl ?_
  | with_reducible refine' dE_non ?_
  | ((with_reducible refine' dE_nt ?dv ?_); (case dv => assumption))
  | with_reducible refine' dE_ref ?_
  | with_reducible refine' dE_op ?_
  | with_reducible refine' dE_un ?_
  | with_reducible refine' dE_cmp ?_
  | with_reducible refine' dE_isN ?_
  | with_reducible refine' dE_notN ?_
  | with_reducible refine' dE_call ?_
  | with_reducible refine' dE_cb ?_
  | with_reducible refine' dE_kw ?_
  | with_reducible refine' dE_tup ?_
  | with_reducible refine' dE_if ?_
  | with_reducible refine' dE_and ?_
  | with_reducible refine' dE_or ?_
  | with_reducible refine' dE_not ?_
  | with_reducible refine' dE_sl ?_
  | with_reducible refine' dO_none ?_
  | with_reducible refine' dO_some ?_
  | with_reducible refine' dA_cons ?_
  | with_reducible refine' dA_nil ?_
  | with_reducible refine' dT_B ?_
  | with_reducible refine' dT_test ?_
  | with_reducible refine' dT_and ?_
  | with_reducible refine' dT_or ?_
  | with_reducible refine' dT_not ?_
  | with_reducible refine' dT_yes ?_
  | with_reducible refine' dR_I0i ?_
  | with_reducible refine' dU_neg ?_
  | ((with_reducible refine' dR_ixT ?dv ?_); (case dv => rfl))
  | with_reducible refine' dS_seq ?_
  | with_reducible refine' dS_next ?_
  | with_reducible refine' dS_ret ?_
  | with_reducible refine' dS_drop ?_
  | with_reducible refine' dS_if ?_
  | with_reducible refine' dS_asg ?_
  | with_reducible refine' dS_par ?_
  | with_reducible refine' dG_name ?_
  | ((with_reducible refine' dG_tup ?dv ?_); (case dv => rfl); (dsimp only [List.map]))
  | with_reducible refine' dGs_cons ?_
  | with_reducible refine' dGs_nil ?_
  | with_reducible refine' dC_abs ?_
  | with_reducible refine' dC_max2 ?_
  | with_reducible refine' dC_min2 ?_
  | with_reducible refine' rtOf.of ?_
  | with_reducible refine' ex_cmp ?_
  | with_reducible refine' ex_bool ?_
  | with_reducible refine' ex_int ?_
  | with_reducible refine' ex_list ?_
  | with_reducible refine' ex_tup ?_
  | with_reducible refine' ex_d ?_
  | with_reducible refine' ex_m ?_
  | with_reducible refine' ex_par ?_
  | with_reducible refine' ex_rg1 ?_
  | with_reducible refine' ex_rg2 ?_
  | ((with_reducible refine' ex_dat ?dv ?dw ?_); (case dv => rfl); (case dw => exact Nat.le_of_ble_eq_true rfl))
  | ((fail_if_success (with_reducible show ∃ _, _)); (fail_if_success (with_reducible show _ ∧ _)); refine ⟨_, _, rfl, ?_⟩)
  | ((fail_if_success (with_reducible show ∃ _, _)); (fail_if_success (with_reducible show _ ∧ _)); refine ⟨_, rfl, ?_⟩)
  | fail)
local macro_rules | `(tactic| walk_at "d") => `(tactic| repeat' walk_at "d1")
local macro_rules | `(tactic| walk_at "e1") => `(tactic| first
  | ((with_reducible refine' dE_var ?dv ?_); (case dv => rfl))
  | with_reducible refine' dE_int ?_
  | with_reducible refine' dE_str ?_
  | with_reducible refine' dE_bl ?_
  | with_reducible refine' dE_non ?_
  | ((with_reducible refine' dE_nt ?dv ?_); (case dv => assumption))
  | with_reducible refine' dE_ref ?_
  | with_reducible refine' dE_op ?_
  | with_reducible refine' dE_un ?_
  | with_reducible refine' dE_cmp ?_
  | with_reducible refine' dE_isN ?_
  | with_reducible refine' dE_notN ?_
  | with_reducible refine' dE_call ?_
  | with_reducible refine' dE_cb ?_
  | with_reducible refine' dE_kw ?_
  | with_reducible refine' dE_tup ?_
  | with_reducible refine' dE_if ?_
  | with_reducible refine' dE_and ?_
  | with_reducible refine' dE_or ?_
  | with_reducible refine' dE_not ?_
  | with_reducible refine' dE_sl ?_
  | with_reducible refine' dO_none ?_
  | with_reducible refine' dO_some ?_
  | with_reducible refine' dA_cons ?_
  | with_reducible refine' dA_nil ?_
  | with_reducible refine' dT_B ?_
  | with_reducible refine' dT_test ?_
  | with_reducible refine' dT_and ?_
  | with_reducible refine' dT_or ?_
  | with_reducible refine' dT_not ?_
  | with_reducible refine' dT_yes ?_
  | with_reducible refine' dR_I0i ?_
  | with_reducible refine' dU_neg ?_
  | ((with_reducible refine' dR_ixT ?dv ?_); (case dv => rfl))
  | with_reducible refine' dS_next ?_
  | with_reducible refine' dS_ret ?_
  | with_reducible refine' dS_drop ?_
  | with_reducible refine' dS_if ?_
  | with_reducible refine' dS_asg ?_
  | with_reducible refine' dS_par ?_
  | with_reducible refine' dG_name ?_
  | ((with_reducible refine' dG_tup ?dv ?_); (case dv => rfl); (dsimp only [List.map]))
  | with_reducible refine' dGs_cons ?_
  | with_reducible refine' dGs_nil ?_
  | with_reducible refine' dC_abs ?_
  | with_reducible refine' dC_max2 ?_
  | with_reducible refine' dC_min2 ?_
  | with_reducible refine' rtOf.of ?_
  | with_reducible refine' ex_cmp ?_
  | with_reducible refine' ex_bool ?_
  | with_reducible refine' ex_int ?_
  | with_reducible refine' ex_list ?_
  | with_reducible refine' ex_tup ?_
  | with_reducible refine' ex_d ?_
  | with_reducible refine' ex_m ?_
  | with_reducible refine' ex_par ?_
  | with_reducible refine' ex_rg1 ?_
  | with_reducible refine' ex_rg2 ?_
  | ((with_reducible refine' ex_dat ?dv ?dw ?_); (case dv => rfl); (case dw => exact Nat.le_of_ble_eq_true rfl))
  | ((fail_if_success (with_reducible show ∃ _, _)); (fail_if_success (with_reducible show _ ∧ _)); refine ⟨_, _, rfl, ?_⟩)
  | ((fail_if_success (with_reducible show ∃ _, _)); (fail_if_success (with_reducible show _ ∧ _)); refine ⟨_, rfl, ?_⟩)
  | fail)
local macro_rules | `(tactic| walk_at "e") => `(tactic| repeat' walk_at "e1")
def Shp (n : Nat) (d : PyData) : Prop := d.canLay0 = true ∧ d.depth ≤ n
theorem Shp.shaped {n : Nat} {d : PyData} (h : Shp n d) (hn : n ≤ 64 := by decide) : SeqAt.shaped d = true := by
  unfold SeqAt.shaped
  rw [h.1, Bool.true_and]
  exact decide_eq_true (Nat.le_trans h.2 hn)
theorem Shp.int {n : Nat} {i : Int} : Shp n (.int i) := ⟨rfl, Nat.zero_le _⟩
theorem Shp.str {n : Nat} {x : Str} (h : PyData.canLay0 (.str x) = true) : Shp n (.str x) := ⟨h, Nat.zero_le _⟩
theorem Shp.non {n : Nat} : Shp n .none := ⟨rfl, Nat.zero_le _⟩
theorem Shp.bool {n : Nat} {b : Bool} : Shp n (.bool b) := ⟨rfl, Nat.zero_le _⟩
theorem shp_all {n : Nat} : ∀ {ds : List PyData}, (∀ d ∈ ds, Shp n d) → PyData.canLayAll0 ds = true ∧ PyData.depthAll ds ≤ n
  | [], _ => ⟨rfl, Nat.zero_le _⟩
  | d :: ds, h => by
    obtain ⟨h1, h2⟩ := shp_all (ds := ds) fun x hx => h x (List.mem_cons_of_mem _ hx)
    obtain ⟨h3, h4⟩ := h d List.mem_cons_self
    refine ⟨?_, ?_⟩
    · rw [PyData.canLayAll0, h3, h1]; rfl
    · rw [PyData.depthAll]; omega
theorem Shp.list {n : Nat} {ds : List PyData} (h : ∀ d ∈ ds, Shp n d) : Shp (n + 1) (.list ds) := by
  obtain ⟨h1, h2⟩ := shp_all h
  exact ⟨by rw [PyData.canLay0]; exact h1, by rw [PyData.depth]; omega⟩
theorem Shp.tup {n : Nat} {ds : List PyData} (h : ∀ d ∈ ds, Shp n d) : Shp (n + 1) (.tuple ds) := by
  obtain ⟨h1, h2⟩ := shp_all h
  exact ⟨by rw [PyData.canLay0]; exact h1, by rw [PyData.depth]; omega⟩
theorem Shp.fr {q : Q} : Shp 1 (fr q) := Shp.tup fun d hd => by
  rcases List.mem_cons.mp hd with rfl | hd
  · exact .int
  · rcases List.mem_cons.mp hd with rfl | hd
    · exact .int
    · cases hd
theorem Shp.rope {r : Rope} (hn : PyData.canLay0 (.str r.n) = true) : Shp 1 r.d := Shp.tup fun d hd => by
  simp only [List.mem_cons, List.not_mem_nil, or_false] at hd
  rcases hd with rfl | rfl | rfl | rfl
  · exact .str hn
  · exact .int
  · exact .int
  · exact .int
theorem Shp.opt {o : Option Q} : Shp 1 (opt o) := by
  cases o with
  | none => exact .non
  | some q => exact .fr
def Bag (ds : List PyData) : Prop := ∃ x y : Int, ds = [.int x, .int y] ∧ 0 ≤ x ∧ 0 ≤ y ∧ y < 2147483648
theorem sz_lt {n : Nat} {x : Int} (h0 : 0 ≤ x) (h : x < 2 ^ n) : Sz n x := by
  show x.natAbs < 2 ^ n
  have e : ((2 ^ n : Nat) : Int) = 2 ^ n := by simp
  omega
section
variable {P : Program} {w : World} {K : PySem.W.Frag} {mg : Str → Option Value} {base : Heap} {f : Addr} {fd : FuncData}
def S_bag : SpD := fun rs M P => ∃ (ns : List Int) (k : Int), rs = [.l ns, .d (.int k)] ∧ 0 ≤ k ∧ k < 1000 ∧ ∀ a ds, M a = none → Bag ds → P (.m a) (mset M a ds)
/-- a bag stands at b; it was drawn from -/
def BI (M : Mem) (b : Addr) : Prop := ∃ ds, M b = some ds ∧ Bag ds
def BS (M : Mem) (b : Addr) (M' : Mem) : Prop := ∃ ds, Bag ds ∧ M' = mset M b ds
theorem BS.bi {M M' : Mem} {b : Addr} (h : BS M b M') : BI M' b := by
  obtain ⟨ds, h1, rfl⟩ := h
  exact ⟨ds, mset_same, h1⟩
theorem BS.trans {M M1 M2 : Mem} {b : Addr} (h : BS M b M1) (k : BS M1 b M2) : BS M b M2 := by
  obtain ⟨ds, h1, rfl⟩ := h
  obtain ⟨es, h2, rfl⟩ := k
  exact ⟨es, h2, mset_mset⟩
theorem BS.ne {M M' : Mem} {b c : Addr} (h : BS M b M') (n : c ≠ b) : M' c = M c := by
  obtain ⟨ds, h1, rfl⟩ := h
  exact mset_ne n
theorem mset_self {M : Mem} {b : Addr} {ds : List PyData} (h : M b = some ds) : mset M b ds = M := Mem.ext' (fun c => by
  show (if c = b then some ds else M c) = M c
  split
  · rename_i e; rw [e, h]
  · rfl) fun _ => rfl
theorem BI.refl {M : Mem} {b : Addr} (h : BI M b) : BS M b M := by
  obtain ⟨ds, h1, h2⟩ := h
  exact ⟨ds, h2, (mset_self h1).symm⟩
def S_take : SpD := fun rs M P => ∃ (b : Addr) (n : Int), rs = [.m b, .d (.int n)] ∧ 0 < n ∧ n < 2147483648 ∧ BI M b ∧ ∀ i M', 0 ≤ i → i < n → BS M b M' → P (.d (.int i)) M'
def S_of : SpD := fun rs M P => ∃ (b : Addr) (s : SV) (es : List PyData), rs = [.m b, s] ∧ SeqL M s es ∧ s ≠ .m b ∧ es ≠ [] ∧ es.length ≤ 1000 ∧ BI M b ∧ ∀ d M', d ∈ es → BS M b M' → P (.d d) M'
abbrev S_lowest : SpD := S_fraction
abbrev s_law_bag : Stmt := topS 44
theorem sc_law_bag : FnScope ["script", "k", "cell"] ["script", "k"] (defScope s_law_bag) := ⟨rfl, rfl, rfl, by decide +kernel, rfl, by decide +kernel, by decide +kernel⟩
theorem ok_law_bag (T : Txt mg) (F : Fun K "_law_bag" "_law_bag" s_law_bag f fd) : FnOk P w K mg base CX0 1 f fd ["script", "k"] (spOf K S_bag) := by
  refine ok_of F sc_law_bag (fun rs M P h => by obtain ⟨a, b, rfl, _⟩ := h; rfl) fun cdv A outer s H E hr => ⟨_, (pss_cons (ps_set (i := 2) sc_law_bag.nd rfl (Or.inl rfl) pe_int)
      (pss_cons (ps_if (pt_cmp (pc_lt (pv 1) (pe_callB (kcall_len K) (by rfl) T.len (by decide +kernel) (pa_cons (pv 0) pa_nil)))) (pss_one (ps_set (i := 2) sc_law_bag.nd rfl (Or.inl rfl) (pe_callB call_abs (by rfl) T.abs (by decide +kernel) (pa_cons (pe_ix (kix_list K) (pv 0) (pv 1) (fun _ _ => rfl)) pa_nil)))) pss_nil)
      (pss_cons (ps_if (pt_cmp (pc_lt (pv 2) (pe_op op_pow pe_int pe_int))) (pss_one (ps_ret (pe_lst (pa_cons pe_int (pa_cons (pe_op op_add pe_int (pe_op op_mod (pe_op op_add (pe_op op_mulW (pv 2) pe_int) (pe_op op_mulW pe_int (pv 1))) pe_int)) pa_nil))))) pss_nil)
      (pss_one (ps_ret (pe_lst (pa_cons (pv 2) (pa_cons (pe_op op_add pe_int (pe_op op_mod (pe_op op_add (pv 2) (pv 1)) pe_int)) pa_nil)))))))), fun rs M P h => ?_⟩
  obtain ⟨ns, k, rfl, h0, h1, p⟩ := h
  have rest : ∀ c : Int, 0 ≤ c → dS K (tSeq (tIfS (tB (tCmp (fun i j => decide (i < j)) (tVar 2) (tOp (rI CPow fun i j => .int (i ^ j.toNat)) (tC (.int 10)) (tC (.int 18)))))
      (tRet (tLst (tCons (tC (.int 0)) (tCons (tOp (rI0 fun i j => .int (i + j)) (tC (.int 1)) (tOp (rI (fun _ j => 0 < j) fun i j => .int (i % j)) (tOp (rI0 fun i j => .int (i + j)) (tOp (rI CMulW fun i j => .int (i * j)) (tVar 2) (tC (.int 7919))) (tOp (rI CMulW fun i j => .int (i * j)) (tC (.int 104729)) (tVar 1))) (tC (.int 2147483646)))) tNil)))) tNext)
      (tRet (tLst (tCons (tVar 2) (tCons (tOp (rI0 fun i j => .int (i + j)) (tC (.int 1)) (tOp (rI (fun _ j => 0 < j) fun i j => .int (i % j)) (tOp (rI0 fun i j => .int (i + j)) (tVar 2) (tVar 1)) (tC (.int 2147483646)))) tNil)))))
      { nx := fun _ M' => rtOf P (.d .none) M', rt := rtOf P } [some (.l ns), some (.d (.int k)), some (.d (.int c))] M := fun c hc => by
    walk_at "d"
    refine dR_Ii (show CPow 10 18 from ⟨by decide, by decide, by decide⟩) ?_
    walk_at "d"
    refine ifB (fun h => ?_) (fun h => ?_)
    · have hc2 : c < 10 ^ 18 := of_decide_eq_true h
      walk_at "d"
      refine dE_lstM ?_
      walk_at "d"
      refine dR_Ii (Sz.mulOk (m := 100) (n := 100) (sz_lt hc (Int.lt_trans hc2 (by decide))) (sz_lt (by decide) (by decide)) (by decide) (by decide) (by decide)) ?_
      walk_at "d"
      refine dR_Ii (Sz.mulOk (m := 100) (n := 100) (sz_lt (by decide) (by decide)) (sz_lt h0 (Int.lt_trans h1 (by decide))) (by decide) (by decide) (by decide)) ?_
      walk_at "d"
      refine dR_Ii (by decide) ?_
      walk_at "d"
      intro a ha
      refine rtOf.of (p a _ ha ⟨_, _, rfl, by decide, ?_, ?_⟩)
      · have := Int.emod_nonneg (c * 7919 + 104729 * k) (show (2147483646 : Int) ≠ 0 by decide); omega
      · have := Int.emod_lt_of_pos (c * 7919 + 104729 * k) (show (0 : Int) < 2147483646 by decide); omega
    · walk_at "d"
      refine dE_lstM ?_
      walk_at "d"
      refine dR_Ii (by decide) ?_
      walk_at "d"
      intro a ha
      refine rtOf.of (p a _ ha ⟨_, _, rfl, hc, ?_, ?_⟩)
      · have := Int.emod_nonneg (c + k) (show (2147483646 : Int) ≠ 0 by decide); omega
      · have := Int.emod_lt_of_pos (c + k) (show (0 : Int) < 2147483646 by decide); omega
  walk_at "d"
  refine dC_lenS ?_
  walk_at "d"
  refine ifB (fun h => ?_) (fun h => ?_)
  · have hk : k < ns.length := of_decide_eq_true h
    walk_at "e"
    have hj : k.toNat < ns.length := by omega
    refine dR_ixS (n := ns[k.toNat]) ?_ ?_
    · unfold atI ixN
      rw [if_pos h0, if_pos hk]
      simp [hj]
    walk_at "e"
    refine rest _ ?_
    split <;> omega
  · walk_at "e"
    exact rest 0 (by decide)
end
end K2
namespace K2
open PySem L2 Sd Ma
local macro_rules | `(tactic| walk_at "d1") => `(tactic| first
  | ((with_reducible refine' dE_var ?dv ?_); (case dv => rfl))
  | with_reducible refine' dE_int ?_
  | with_reducible refine' dE_str ?_
  | with_reducible refine' dE_bl ?_
  | with_reducible refine' dE_non ?_
  | ((with_reducible refine' dE_nt ?dv ?_); (case dv => assumption))
  | with_reducible refine' dE_ref ?_
  | with_reducible refine' dE_op ?_
  | with_reducible refine' dE_un ?_
  | with_reducible refine' dE_cmp ?_
  | with_reducible refine' dE_isN ?_
  | with_reducible refine' dE_notN ?_
  | with_reducible refine' dE_call ?_
  | with_reducible refine' dE_cb ?_
  | with_reducible refine' dE_kw ?_
  | with_reducible refine' dE_tup ?_
  | with_reducible refine' dE_if ?_
  | with_reducible refine' dE_and ?_
  | with_reducible refine' dE_or ?_
  | with_reducible refine' dE_not ?_
  | with_reducible refine' dE_sl ?_
  | with_reducible refine' dO_none ?_
  | with_reducible refine' dO_some ?_
  | with_reducible refine' dA_cons ?_
  | with_reducible refine' dA_nil ?_
  | with_reducible refine' dT_B ?_
  | with_reducible refine' dT_test ?_
  | with_reducible refine' dT_and ?_
  | with_reducible refine' dT_or ?_
  | with_reducible refine' dT_not ?_
  | with_reducible refine' dT_yes ?_
  | with_reducible refine' dR_I0i ?_
  | with_reducible refine' dU_neg ?_
  | ((with_reducible refine' dR_ixT ?dv ?_); (case dv => rfl))
  | with_reducible refine' dS_seq ?_
  | with_reducible refine' dS_next ?_
  | with_reducible refine' dS_ret ?_
  | with_reducible refine' dS_drop ?_
  | with_reducible refine' dS_if ?_
  | with_reducible refine' dS_asg ?_
  | with_reducible refine' dS_par ?_
  | with_reducible refine' dG_name ?_
  | ((with_reducible refine' dG_tup ?dv ?_); (case dv => rfl); (dsimp only [List.map]))
  | with_reducible refine' dGs_cons ?_
  | with_reducible refine' dGs_nil ?_
  | with_reducible refine' dC_abs ?_
  | with_reducible refine' dC_max2 ?_
  | with_reducible refine' dC_min2 ?_
  | with_reducible refine' rtOf.of ?_
  | with_reducible refine' ex_cmp ?_
  | with_reducible refine' ex_bool ?_
  | with_reducible refine' ex_int ?_
  | with_reducible refine' ex_list ?_
  | with_reducible refine' ex_tup ?_
  | with_reducible refine' ex_d ?_
  | with_reducible refine' ex_m ?_
  | with_reducible refine' ex_par ?_
  | with_reducible refine' ex_rg1 ?_
  | with_reducible refine' ex_rg2 ?_
  | ((with_reducible refine' ex_dat ?dv ?dw ?_); (case dv => rfl); (case dw => exact Nat.le_of_ble_eq_true rfl))
  | ((fail_if_success (with_reducible show ∃ _, _)); (fail_if_success (with_reducible show _ ∧ _)); refine ⟨_, _, rfl, ?_⟩)
  | ((fail_if_success (with_reducible show ∃ _, _)); (fail_if_success (with_reducible show _ ∧ _)); refine ⟨_, rfl, ?_⟩)
  | fail)
local macro_rules | `(tactic| walk_at "d") => `(tactic| repeat' walk_at "d1")
local macro_rules | `(tactic| walk_at "e1") => `(tactic| first
  | ((with_reducible refine' dE_var ?dv ?_); (case dv => rfl))
  | with_reducible refine' dE_int ?_
  | with_reducible refine' dE_str ?_
  | with_reducible refine' dE_bl ?_
  | with_reducible refine' dE_non ?_
  | ((with_reducible refine' dE_nt ?dv ?_); (case dv => assumption))
  | with_reducible refine' dE_ref ?_
  | with_reducible refine' dE_op ?_
  | with_reducible refine' dE_un ?_
  | with_reducible refine' dE_cmp ?_
  | with_reducible refine' dE_isN ?_
  | with_reducible refine' dE_notN ?_
  | with_reducible refine' dE_call ?_
  | with_reducible refine' dE_cb ?_
  | with_reducible refine' dE_kw ?_
  | with_reducible refine' dE_tup ?_
  | with_reducible refine' dE_if ?_
  | with_reducible refine' dE_and ?_
  | with_reducible refine' dE_or ?_
  | with_reducible refine' dE_not ?_
  | with_reducible refine' dE_sl ?_
  | with_reducible refine' dO_none ?_
  | with_reducible refine' dO_some ?_
  | with_reducible refine' dA_cons ?_
  | with_reducible refine' dA_nil ?_
  | with_reducible refine' dT_B ?_
  | with_reducible refine' dT_test ?_
  | with_reducible refine' dT_and ?_
  | with_reducible refine' dT_or ?_
  | with_reducible refine' dT_not ?_
  | with_reducible refine' dT_yes ?_
  | with_reducible refine' dR_I0i ?_
  | with_reducible refine' dU_neg ?_
  | ((with_reducible refine' dR_ixT ?dv ?_); (case dv => rfl))
  | with_reducible refine' dS_next ?_
  | with_reducible refine' dS_ret ?_
  | with_reducible refine' dS_drop ?_
  | with_reducible refine' dS_if ?_
  | with_reducible refine' dS_asg ?_
  | with_reducible refine' dS_par ?_
  | with_reducible refine' dG_name ?_
  | ((with_reducible refine' dG_tup ?dv ?_); (case dv => rfl); (dsimp only [List.map]))
  | with_reducible refine' dGs_cons ?_
  | with_reducible refine' dGs_nil ?_
  | with_reducible refine' dC_abs ?_
  | with_reducible refine' dC_max2 ?_
  | with_reducible refine' dC_min2 ?_
  | with_reducible refine' rtOf.of ?_
  | with_reducible refine' ex_cmp ?_
  | with_reducible refine' ex_bool ?_
  | with_reducible refine' ex_int ?_
  | with_reducible refine' ex_list ?_
  | with_reducible refine' ex_tup ?_
  | with_reducible refine' ex_d ?_
  | with_reducible refine' ex_m ?_
  | with_reducible refine' ex_par ?_
  | with_reducible refine' ex_rg1 ?_
  | with_reducible refine' ex_rg2 ?_
  | ((with_reducible refine' ex_dat ?dv ?dw ?_); (case dv => rfl); (case dw => exact Nat.le_of_ble_eq_true rfl))
  | ((fail_if_success (with_reducible show ∃ _, _)); (fail_if_success (with_reducible show _ ∧ _)); refine ⟨_, _, rfl, ?_⟩)
  | ((fail_if_success (with_reducible show ∃ _, _)); (fail_if_success (with_reducible show _ ∧ _)); refine ⟨_, rfl, ?_⟩)
  | fail)
local macro_rules | `(tactic| walk_at "e") => `(tactic| repeat' walk_at "e1")
theorem atI_nat' {α : Type} {es : List α} {i : Int} (h0 : 0 ≤ i) (h1 : i < es.length) : ∃ d, atI es i = some d ∧ d ∈ es := by
  have hj : i.toNat < es.length := by omega
  refine ⟨es[i.toNat], ?_, List.getElem_mem hj⟩
  unfold atI ixN
  rw [if_pos h0, if_pos h1]
  simp [hj]
section
variable {P : Program} {w : World} {K : PySem.W.Frag} {mg : Str → Option Value} {base : Heap} {f : Addr} {fd : FuncData}
abbrev s_law_take : Stmt := topS 45
theorem sc_law_take : FnScope ["bag", "many", "found"] ["bag", "many"] (defScope s_law_take) := ⟨rfl, rfl, rfl, by decide +kernel, rfl, by decide +kernel, by decide +kernel⟩
theorem ok_law_take (F : Fun K "_law_take" "_law_take" s_law_take f fd) : FnOk P w K mg base CX0 1 f fd ["bag", "many"] (spOf K S_take) := by
  refine ok_of F sc_law_take (fun rs M P h => by obtain ⟨a, b, rfl, _⟩ := h; rfl) fun cdv A outer s H E hr => ⟨_, (pss_cons (ps_if (pt_cmp (pc_gt (pe_ix (kix_list K) (pv 0) pe_int (fun _ _ => rfl)) pe_int)) (pss_cons (ps_set (i := 2) sc_law_take.nd rfl (Or.inl rfl) (pe_op op_mod (pe_ix (kix_list K) (pv 0) pe_int (fun _ _ => rfl)) (pv 1)))
      (pss_cons (ps_asg (pe_op op_fdivW (pe_ix (kix_list K) (pv 0) pe_int (fun _ _ => rfl)) (pv 1)) (pg_sub (pv 0) pe_int set_list))
      (pss_one (ps_ret (pv 2))))) pss_nil)
      (pss_cons (ps_asg (pe_op op_mod (pe_op op_mulW (pe_ix (kix_list K) (pv 0) pe_int (fun _ _ => rfl)) pe_int) pe_int) (pg_sub (pv 0) pe_int set_list))
      (pss_one (ps_ret (pe_op op_mod (pe_op op_fdivW (pe_op op_mod (pe_op op_mulW (pe_ix (kix_list K) (pv 0) pe_int (fun _ _ => rfl)) (pe_ix (kix_list K) (pv 0) pe_int (fun _ _ => rfl))) pe_int) pe_int) (pv 1)))))), fun rs M P h => ?_⟩
  obtain ⟨b, n, rfl, h0, h1, ⟨ds, hm, x, y, rfl, hx, hy, hy2⟩, p⟩ := h
  have hd : ∀ i, CDivW i n := fun i => wide_div (b := 40) h0 (sz_lt (by omega) (by omega)) (by decide) (by decide)
  walk_at "d"
  refine dR_ixL (.inr ⟨b, rfl, hm⟩) rfl ?_
  walk_at "d"
  refine ifB (fun h => ?_) (fun h => ?_)
  · have hx0 : 0 < x := of_decide_eq_true h
    walk_at "d"
    refine dR_ixL (.inr ⟨b, rfl, hm⟩) rfl ?_
    walk_at "d"
    refine dR_Ii h0 ?_
    walk_at "d"
    refine dR_ixL (.inr ⟨b, rfl, hm⟩) rfl ?_
    walk_at "d"
    refine dR_Ii (hd x) ?_
    refine dG_sub (a := b) (j := 0) (ds := [.int x, .int y]) ?_
    walk_at "d"
    refine ⟨rfl, ?_⟩
    walk_at "d"
    refine ⟨rfl, hm, by simp, ?_⟩
    walk_at "d"
    refine p _ _ (Int.emod_nonneg _ (Int.ne_of_gt h0)) (Int.emod_lt_of_pos _ h0) ⟨_, ⟨x / n, y, rfl, Int.ediv_nonneg hx (by omega), hy, hy2⟩, rfl⟩
  · walk_at "d"
    refine dR_ixL (.inr ⟨b, rfl, hm⟩) rfl ?_
    walk_at "d"
    refine dR_Ii (Sz.mulOk (m := 100) (n := 100) (sz_lt (by omega) (by omega)) (sz_lt (by decide) (by decide)) (by decide) (by decide) (by decide)) ?_
    walk_at "d"
    refine dR_Ii (by decide) ?_
    have e1 := Int.emod_nonneg (y * 48271) (show (2147483647 : Int) ≠ 0 by decide)
    have e2 := Int.emod_lt_of_pos (y * 48271) (show (0 : Int) < 2147483647 by decide)
    generalize hz : y * 48271 % 2147483647 = z at e1 e2
    refine dG_sub (a := b) (j := 1) (ds := [.int x, .int y]) ?_
    walk_at "d"
    refine ⟨rfl, ?_⟩
    walk_at "d"
    refine ⟨rfl, hm, by simp, ?_⟩
    walk_at "d"
    refine dR_ixL (.inr ⟨b, rfl, mset_same⟩) rfl ?_
    walk_at "d"
    refine dR_ixL (.inr ⟨b, rfl, mset_same⟩) rfl ?_
    refine dR_Ii (Sz.mulOk (m := 100) (n := 100) (sz_lt (by omega) (by omega)) (sz_lt (by omega) (by omega)) (by decide) (by decide) (by decide)) ?_
    walk_at "d"
    refine dR_Ii (by decide) ?_
    walk_at "d"
    refine dR_Ii (wide_div (b := 40) (by decide) (by decide) (by decide) (by decide)) ?_
    walk_at "d"
    refine dR_Ii h0 ?_
    walk_at "d"
    exact p _ _ (Int.emod_nonneg _ (Int.ne_of_gt h0)) (Int.emod_lt_of_pos _ h0) ⟨_, ⟨x, z, rfl, hx, e1, by omega⟩, rfl⟩
abbrev s_law_of : Stmt := topS 46
theorem sc_law_of : FnScope ["bag", "some"] ["bag", "some"] (defScope s_law_of) := ⟨rfl, rfl, rfl, by decide +kernel, rfl, by decide +kernel, by decide +kernel⟩
theorem ok_law_of (T : Txt mg) (F : Fun K "_law_of" "_law_of" s_law_of f fd) (c_law_take : Has P w K mg base 1 "_law_take" ["bag", "many"] S_take) : FnOk P w K mg base CX0 2 f fd ["bag", "some"] (spOf K S_of) := by
  refine ok_of F sc_law_of (fun rs M P h => by obtain ⟨a, b, c, rfl, _⟩ := h; rfl) fun cdv A outer s H E hr => ⟨_, (pss_one (ps_ret (pe_ix (kix_list K) (pv 1) (pe_callH' c_law_take (hr.mono (by first | decide | omega)) rfl (pa_cons (pv 0) (pa_cons (pe_callB (kcall_len K) (by rfl) T.len (by decide +kernel) (pa_cons (pv 1) pa_nil)) pa_nil))) (fun _ _ => rfl)))), fun rs M P h => ?_⟩
  obtain ⟨b, sv, es, rfl, hs, hne, h0, h1, hb, p⟩ := h
  have hlen : 0 < es.length := List.length_pos_iff.mpr h0
  walk_at "d"
  refine dC_len (ds := es) (by rcases hs with rfl | ⟨a, rfl, hm⟩; exact .inl rfl; exact .inr (.inr ⟨a, rfl, hm⟩)) ?_
  walk_at "d"
  refine ⟨by omega, by omega, hb, fun i M' i0 i1 hB => ?_⟩
  obtain ⟨d, hd, hdm⟩ := atI_nat' (es := es) i0 i1
  refine dR_ixL (ds := es) ?_ hd (rtOf.of (p d M' hdm hB))
  rcases hs with rfl | ⟨a, rfl, hm⟩
  · exact .inl rfl
  · refine .inr ⟨a, rfl, ?_⟩
    rw [hB.ne (fun e => hne (by rw [e]))]
    exact hm
abbrev s_law_lowest : Stmt := topS 51
theorem sc_law_lowest : FnScope ["top", "bottom", "one", "other"] ["top", "bottom"] (defScope s_law_lowest) := ⟨rfl, rfl, rfl, by decide +kernel, rfl, by decide +kernel, by decide +kernel⟩
theorem ok_law_lowest (T : Txt mg) (F : Fun K "_law_lowest" "_law_lowest" s_law_lowest f fd) : FnOk P w K mg base CX0 1 f fd ["top", "bottom"] (spOf K S_lowest) := by
  refine ok_of F sc_law_lowest (fun rs M P h => by obtain ⟨a, b, rfl, _⟩ := h; rfl) fun cdv A outer s H E hr => ⟨_, (pss_cons (ps_par (i := 2) (j := 3) (by rfl) sc_law_lowest.nd rfl rfl (by decide) rfl rfl (pa_cons (pe_callB call_abs (by rfl) T.abs (by decide +kernel) (pa_cons (pv 0) pa_nil)) (pa_cons (pv 1) pa_nil)) (by rfl))
      (pss_cons (ps_while PassesOwn.never (pt_cmp (pc_gt (pv 3) pe_int)) (pss_one (ps_par (i := 2) (j := 3) (by rfl) sc_law_lowest.nd rfl rfl (by decide) rfl rfl (pa_cons (pv 3) (pa_cons (pe_op op_mod (pv 2) (pv 3)) pa_nil)) (by rfl))))
      (pss_one (ps_ret (pe_tup (pa_cons (pe_op op_fdivW (pv 0) (pv 2)) (pa_cons (pe_op op_fdivW (pv 1) (pv 2)) pa_nil))))))), fun rs M P h => ?_⟩
  obtain ⟨t, b, rfl, ht, hb, hz, p⟩ := h
  have hg := gcd_pos (t := t) hb
  have hl := gcd_le (t := t) hb
  have hd : ∀ i, CDivW i (Int.gcd t b : Int) := fun i => wide_div hg (wide_le (by omega) hl hz) (by decide) (by decide)
  walk_at "d"
  rw [show (if t < 0 then -t else t) = t by split <;> omega]
  refine dS_while (fun m δ M' => ∃ a' b' : Int, δ = [some (.d (.int t)), some (.d (.int b)), some (.d (.int a')), some (.d (.int b'))] ∧ M' = M ∧ 0 ≤ a' ∧ 0 ≤ b' ∧ Int.gcd a' b' = Int.gcd t b ∧ m = b'.toNat) b.toNat ⟨t, b, rfl, rfl, ht, by omega, rfl, rfl⟩ ?_
  rintro m δ M' ⟨a', b', rfl, rfl, ha', hb', hg', rfl⟩
  walk_at "d"
  refine ifB (fun h => ?_) (fun h => ?_)
  · have h0 : 0 < b' := of_decide_eq_true h
    walk_at "d"
    refine dR_Ii h0 ?_
    walk_at "d"
    exact ⟨(a' % b').toNat, by have := Int.emod_lt_of_pos a' h0; have := Int.emod_nonneg a' (Int.ne_of_gt h0); omega, b', a' % b', rfl, rfl, hb', Int.emod_nonneg _ (Int.ne_of_gt h0), by rw [gcd_step ha' h0, hg'], rfl⟩
  · have h0 : b' = 0 := by have := of_decide_eq_false h; omega
    subst h0
    rw [Int.gcd_zero_right] at hg'
    have ea : a' = (Int.gcd t b : Int) := by omega
    subst ea
    walk_at "d"
    refine dR_Ii (hd t) ?_
    walk_at "d"
    refine dR_Ii (hd b) ?_
    walk_at "d"
    exact p
end
end K2
namespace K2
open PySem L2 Sd Ma
local macro_rules | `(tactic| walk_at "d1") => `(tactic| first
  | ((with_reducible refine' dE_var ?dv ?_); (case dv => rfl))
  | with_reducible refine' dE_int ?_
  | with_reducible refine' dE_str ?_
  | with_reducible refine' dE_bl ?_
  | with_reducible refine' dE_non ?_
  | ((with_reducible refine' dE_nt ?dv ?_); (case dv => assumption))
  | with_reducible refine' dE_ref ?_
  | with_reducible refine' dE_op ?_
  | with_reducible refine' dE_un ?_
  | with_reducible refine' dE_cmp ?_
  | with_reducible refine' dE_isN ?_
  | with_reducible refine' dE_notN ?_
  | with_reducible refine' dE_call ?_
  | with_reducible refine' dE_cb ?_
  | with_reducible refine' dE_kw ?_
  | with_reducible refine' dE_tup ?_
  | with_reducible refine' dE_if ?_
  | with_reducible refine' dE_and ?_
  | with_reducible refine' dE_or ?_
  | with_reducible refine' dE_not ?_
  | with_reducible refine' dE_sl ?_
  | with_reducible refine' dO_none ?_
  | with_reducible refine' dO_some ?_
  | with_reducible refine' dA_cons ?_
  | with_reducible refine' dA_nil ?_
  | with_reducible refine' dT_B ?_
  | with_reducible refine' dT_test ?_
  | with_reducible refine' dT_and ?_
  | with_reducible refine' dT_or ?_
  | with_reducible refine' dT_not ?_
  | with_reducible refine' dT_yes ?_
  | with_reducible refine' dR_I0i ?_
  | with_reducible refine' dU_neg ?_
  | ((with_reducible refine' dR_ixT ?dv ?_); (case dv => rfl))
  | with_reducible refine' dS_seq ?_
  | with_reducible refine' dS_next ?_
  | with_reducible refine' dS_ret ?_
  | with_reducible refine' dS_drop ?_
  | with_reducible refine' dS_if ?_
  | with_reducible refine' dS_asg ?_
  | with_reducible refine' dS_par ?_
  | with_reducible refine' dG_name ?_
  | ((with_reducible refine' dG_tup ?dv ?_); (case dv => rfl); (dsimp only [List.map]))
  | with_reducible refine' dGs_cons ?_
  | with_reducible refine' dGs_nil ?_
  | with_reducible refine' dC_abs ?_
  | with_reducible refine' dC_max2 ?_
  | with_reducible refine' dC_min2 ?_
  | with_reducible refine' rtOf.of ?_
  | with_reducible refine' ex_cmp ?_
  | with_reducible refine' ex_bool ?_
  | with_reducible refine' ex_int ?_
  | with_reducible refine' ex_list ?_
  | with_reducible refine' ex_tup ?_
  | with_reducible refine' ex_d ?_
  | with_reducible refine' ex_m ?_
  | with_reducible refine' ex_par ?_
  | with_reducible refine' ex_rg1 ?_
  | with_reducible refine' ex_rg2 ?_
  | ((with_reducible refine' ex_dat ?dv ?dw ?_); (case dv => rfl); (case dw => exact Nat.le_of_ble_eq_true rfl))
  | ((fail_if_success (with_reducible show ∃ _, _)); (fail_if_success (with_reducible show _ ∧ _)); refine ⟨_, _, rfl, ?_⟩)
  | ((fail_if_success (with_reducible show ∃ _, _)); (fail_if_success (with_reducible show _ ∧ _)); refine ⟨_, rfl, ?_⟩)
  | fail)
local macro_rules | `(tactic| walk_at "d") => `(tactic| repeat' walk_at "d1")
local macro_rules | `(tactic| walk_at "e1") => `(tactic| first
  | ((with_reducible refine' dE_var ?dv ?_); (case dv => rfl))
  | with_reducible refine' dE_int ?_
  | with_reducible refine' dE_str ?_
  | with_reducible refine' dE_bl ?_
  | with_reducible refine' dE_non ?_
  | ((with_reducible refine' dE_nt ?dv ?_); (case dv => assumption))
  | with_reducible refine' dE_ref ?_
  | with_reducible refine' dE_op ?_
  | with_reducible refine' dE_un ?_
  | with_reducible refine' dE_cmp ?_
  | with_reducible refine' dE_isN ?_
  | with_reducible refine' dE_notN ?_
  | with_reducible refine' dE_call ?_
  | with_reducible refine' dE_cb ?_
  | with_reducible refine' dE_kw ?_
  | with_reducible refine' dE_tup ?_
  | with_reducible refine' dE_if ?_
  | with_reducible refine' dE_and ?_
  | with_reducible refine' dE_or ?_
  | with_reducible refine' dE_not ?_
  | with_reducible refine' dE_sl ?_
  | with_reducible refine' dO_none ?_
  | with_reducible refine' dO_some ?_
  | with_reducible refine' dA_cons ?_
  | with_reducible refine' dA_nil ?_
  | with_reducible refine' dT_B ?_
  | with_reducible refine' dT_test ?_
  | with_reducible refine' dT_and ?_
  | with_reducible refine' dT_or ?_
  | with_reducible refine' dT_not ?_
  | with_reducible refine' dT_yes ?_
  | with_reducible refine' dR_I0i ?_
  | with_reducible refine' dU_neg ?_
  | ((with_reducible refine' dR_ixT ?dv ?_); (case dv => rfl))
  | with_reducible refine' dS_next ?_
  | with_reducible refine' dS_ret ?_
  | with_reducible refine' dS_drop ?_
  | with_reducible refine' dS_if ?_
  | with_reducible refine' dS_asg ?_
  | with_reducible refine' dS_par ?_
  | with_reducible refine' dG_name ?_
  | ((with_reducible refine' dG_tup ?dv ?_); (case dv => rfl); (dsimp only [List.map]))
  | with_reducible refine' dGs_cons ?_
  | with_reducible refine' dGs_nil ?_
  | with_reducible refine' dC_abs ?_
  | with_reducible refine' dC_max2 ?_
  | with_reducible refine' dC_min2 ?_
  | with_reducible refine' rtOf.of ?_
  | with_reducible refine' ex_cmp ?_
  | with_reducible refine' ex_bool ?_
  | with_reducible refine' ex_int ?_
  | with_reducible refine' ex_list ?_
  | with_reducible refine' ex_tup ?_
  | with_reducible refine' ex_d ?_
  | with_reducible refine' ex_m ?_
  | with_reducible refine' ex_par ?_
  | with_reducible refine' ex_rg1 ?_
  | with_reducible refine' ex_rg2 ?_
  | ((with_reducible refine' ex_dat ?dv ?dw ?_); (case dv => rfl); (case dw => exact Nat.le_of_ble_eq_true rfl))
  | ((fail_if_success (with_reducible show ∃ _, _)); (fail_if_success (with_reducible show _ ∧ _)); refine ⟨_, _, rfl, ?_⟩)
  | ((fail_if_success (with_reducible show ∃ _, _)); (fail_if_success (with_reducible show _ ∧ _)); refine ⟨_, rfl, ?_⟩)
  | fail)
local macro_rules | `(tactic| walk_at "e") => `(tactic| repeat' walk_at "e1")
theorem pickI {ns : List Int} {i : Int} (h0 : 0 ≤ i) (h1 : i < ns.length) : ∃ n, atI (ns.map PyData.int) i = some (.int n) ∧ n ∈ ns := by
  obtain ⟨d, hd, hm⟩ := atI_nat' (es := ns.map PyData.int) h0 (by rw [List.length_map]; exact h1)
  obtain ⟨n, hn, rfl⟩ := List.mem_map.mp hm
  exact ⟨n, hd, hn⟩
structure _root_.Ma.Rope.Fine (r : Rope) : Prop where
  a0 : 0 ≤ r.a
  a1 : r.a ≤ 1000
  b0 : 1 ≤ r.b
  b1 : r.b ≤ 100
  c0 : 1 ≤ r.c
  c1 : r.c ≤ 1000000
theorem fine_ok {r : Rope} (h : r.Fine) : r.Ok := ⟨h.a0, sz_lt h.a0 (by have := h.a1; omega), by have := h.b0; omega, sz_lt (by have := h.b0; omega) (by have := h.b1; omega), by have := h.c0; omega, sz_lt (by have := h.c0; omega) (by have := h.c1; omega)⟩
/-- a bundle: names short, of plain letters, rising -/
structure Bun (ro : List Rope) : Prop where
  ne : ro ≠ []
  len : ro.length ≤ 6
  asc : ∀ r ∈ ro, r.n.length ≤ 10 ∧ ∀ c ∈ r.n.cps.toList, c < 128
  ris : (ro.map Rope.n).Pairwise fun a b => a.cps.toList < b.cps.toList
  fine : ∀ r ∈ ro, r.Fine
theorem Bun.ok {ro : List Rope} (h : Bun ro) : BOk ro := ⟨by have := h.len; omega, fun r hr => fine_ok (h.fine r hr)⟩
section
variable {P : Program} {w : World} {K : PySem.W.Frag} {mg : Str → Option Value} {base : Heap} {f : Addr} {fd : FuncData}
def S_rope : SpD := fun rs M P => ∃ (b : Addr) (x : Str), rs = [.m b, .d (.str x)] ∧ BI M b ∧ ∀ (r : Rope) M', r.n = x → r.Fine → BS M b M' → P (.d r.d) M'
def S_load : SpD := fun rs M P => ∃ (b : Addr), rs = [.m b] ∧ BI M b ∧ ∀ (q : Q) M', Red q → q.1 ≤ 3000000 → q.2 ≤ 6 → BS M b M' → P (.d (fr q)) M'
abbrev s_law_rope : Stmt := topS 52
theorem sc_law_rope : FnScope ["bag", "name", "slack", "stiff"] ["bag", "name"] (defScope s_law_rope) := ⟨rfl, rfl, rfl, by decide +kernel, rfl, by decide +kernel, by decide +kernel⟩
theorem ok_law_rope (F : Fun K "_law_rope" "_law_rope" s_law_rope f fd) (c_law_take : Has P w K mg base 1 "_law_take" ["bag", "many"] S_take) : FnOk P w K mg base CX0 2 f fd ["bag", "name"] (spOf K S_rope) := by
  refine ok_of F sc_law_rope (fun rs M P h => by obtain ⟨a, b, rfl, _⟩ := h; rfl) fun cdv A outer s H E hr => ⟨_, (pss_cons (ps_set (i := 2) sc_law_rope.nd rfl (Or.inl rfl) (pe_callH' c_law_take (hr.mono (by first | decide | omega)) rfl (pa_cons (pv 0) (pa_cons (pe_ix (kix_list K) (pe_lst (pa_cons pe_int (pa_cons pe_int (pa_cons pe_int pa_nil)))) (pe_callH' c_law_take (hr.mono (by first | decide | omega)) rfl (pa_cons (pv 0) (pa_cons pe_int pa_nil))) (fun _ _ => rfl)) pa_nil))))
      (pss_cons (ps_set (i := 3) sc_law_rope.nd rfl (Or.inl rfl) (pe_op op_add pe_int (pe_callH' c_law_take (hr.mono (by first | decide | omega)) rfl (pa_cons (pv 0) (pa_cons (pe_ix (kix_list K) (pe_lst (pa_cons pe_int (pa_cons pe_int (pa_cons pe_int pa_nil)))) (pe_callH' c_law_take (hr.mono (by first | decide | omega)) rfl (pa_cons (pv 0) (pa_cons pe_int pa_nil))) (fun _ _ => rfl)) pa_nil)))))
      (pss_one (ps_ret (pe_tup (pa_cons (pv 1) (pa_cons (pv 2) (pa_cons (pv 3) (pa_cons (pe_op op_add pe_int (pe_callH' c_law_take (hr.mono (by first | decide | omega)) rfl (pa_cons (pv 0) (pa_cons (pe_ix (kix_list K) (pe_lst (pa_cons pe_int (pa_cons pe_int (pa_cons pe_int pa_nil)))) (pe_callH' c_law_take (hr.mono (by first | decide | omega)) rfl (pa_cons (pv 0) (pa_cons pe_int pa_nil))) (fun _ _ => rfl)) pa_nil)))) pa_nil))))))))), fun rs M P h => ?_⟩
  obtain ⟨b, x, rfl, hb, p⟩ := h
  walk_at "d"
  refine dE_lst ?_
  walk_at "d"
  refine ⟨by decide, by decide, hb, fun i M1 i0 i1 B1 => ?_⟩
  obtain ⟨n1, hn1, hm1⟩ := pickI (ns := [3, 30, 1001]) i0 i1
  refine dR_ixL (.inl rfl) hn1 ?_
  have hn1' : 1 ≤ n1 ∧ n1 ≤ 1001 := by simp at hm1; omega
  walk_at "d"
  refine ⟨by omega, by omega, B1.bi, fun i2 M2 i20 i21 B2 => ?_⟩
  walk_at "d"
  refine dE_lst ?_
  walk_at "d"
  refine ⟨by decide, by decide, B2.bi, fun i3 M3 i30 i31 B3 => ?_⟩
  obtain ⟨n3, hn3, hm3⟩ := pickI (ns := [3, 10, 100]) i30 i31
  refine dR_ixL (.inl rfl) hn3 ?_
  have hn3' : 1 ≤ n3 ∧ n3 ≤ 100 := by simp at hm3; omega
  walk_at "d"
  refine ⟨by omega, by omega, B3.bi, fun i4 M4 i40 i41 B4 => ?_⟩
  walk_at "d"
  refine dE_lst ?_
  walk_at "d"
  refine ⟨by decide, by decide, B4.bi, fun i5 M5 i50 i51 B5 => ?_⟩
  obtain ⟨n5, hn5, hm5⟩ := pickI (ns := [12, 200, 1000000]) i50 i51
  refine dR_ixL (.inl rfl) hn5 ?_
  have hn5' : 1 ≤ n5 ∧ n5 ≤ 1000000 := by simp at hm5; omega
  walk_at "d"
  refine ⟨by omega, by omega, B5.bi, fun i6 M6 i60 i61 B6 => ?_⟩
  walk_at "d"
  exact p ⟨x, i2, 1 + i4, 1 + i6⟩ M6 rfl ⟨i20, by show i2 ≤ 1000; omega, by show 1 ≤ 1 + i4; omega, by show 1 + i4 ≤ 100; omega, by show 1 ≤ 1 + i6; omega, by show 1 + i6 ≤ 1000000; omega⟩ (((((B1.trans B2).trans B3).trans B4).trans B5).trans B6)
abbrev s_law_load : Stmt := topS 53
theorem sc_law_load : FnScope ["bag", "wide"] ["bag"] (defScope s_law_load) := ⟨rfl, rfl, rfl, by decide +kernel, rfl, by decide +kernel, by decide +kernel⟩
theorem ok_law_load (F : Fun K "_law_load" "_law_load" s_law_load f fd) (c_law_take : Has P w K mg base 1 "_law_take" ["bag", "many"] S_take) (c_law_lowest : Has P w K mg base 1 "_law_lowest" ["top", "bottom"] S_lowest) : FnOk P w K mg base CX0 2 f fd ["bag"] (spOf K S_load) := by
  refine ok_of F sc_law_load (fun rs M P h => by obtain ⟨a, rfl, _⟩ := h; rfl) fun cdv A outer s H E hr => ⟨_, (pss_cons (ps_set (i := 1) sc_law_load.nd rfl (Or.inl rfl) (pe_ix (kix_list K) (pe_lst (pa_cons pe_int (pa_cons pe_int (pa_cons pe_int (pa_cons pe_int pa_nil))))) (pe_callH' c_law_take (hr.mono (by first | decide | omega)) rfl (pa_cons (pv 0) (pa_cons pe_int pa_nil))) (fun _ _ => rfl)))
      (pss_one (ps_ret (pe_callH' c_law_lowest (hr.mono (by first | decide | omega)) rfl (pa_cons (pe_callH' c_law_take (hr.mono (by first | decide | omega)) rfl (pa_cons (pv 0) (pa_cons (pv 1) pa_nil))) (pa_cons (pe_op op_add pe_int (pe_callH' c_law_take (hr.mono (by first | decide | omega)) rfl (pa_cons (pv 0) (pa_cons (pe_ix (kix_list K) (pe_lst (pa_cons pe_int (pa_cons pe_int pa_nil))) (pe_callH' c_law_take (hr.mono (by first | decide | omega)) rfl (pa_cons (pv 0) (pa_cons pe_int pa_nil))) (fun _ _ => rfl)) pa_nil)))) pa_nil)))))), fun rs M P h => ?_⟩
  obtain ⟨b, rfl, hb, p⟩ := h
  walk_at "d"
  refine dE_lst ?_
  walk_at "d"
  refine ⟨by decide, by decide, hb, fun i M1 i0 i1 B1 => ?_⟩
  obtain ⟨n1, hn1, hm1⟩ := pickI (ns := [1, 30, 1000, 3000000]) i0 i1
  refine dR_ixL (.inl rfl) hn1 ?_
  have hn1' : 1 ≤ n1 ∧ n1 ≤ 3000000 := by simp at hm1; omega
  walk_at "d"
  refine ⟨by omega, by omega, B1.bi, fun i2 M2 i20 i21 B2 => ?_⟩
  walk_at "d"
  refine dE_lst ?_
  walk_at "d"
  refine ⟨by decide, by decide, B2.bi, fun i3 M3 i30 i31 B3 => ?_⟩
  obtain ⟨n3, hn3, hm3⟩ := pickI (ns := [1, 6]) i30 i31
  refine dR_ixL (.inl rfl) hn3 ?_
  have hn3' : 1 ≤ n3 ∧ n3 ≤ 6 := by simp at hm3; omega
  walk_at "d"
  refine ⟨by omega, by omega, B3.bi, fun i4 M4 i40 i41 B4 => ?_⟩
  walk_at "d"
  have hb4 : 0 < 1 + i4 := by omega
  refine ⟨i20, hb4, sz_lt (n := 8000) (by omega) ?_, ?_⟩
  · exact Int.lt_of_le_of_lt (show 1 + i4 ≤ 6 by omega) (Int.lt_of_lt_of_le (show (6 : Int) < 2 ^ 3 by decide) (by
      have := Nat.pow_le_pow_right (show 0 < 2 by decide) (show 3 ≤ 8000 by decide)
      have e1 : ((2 ^ 8000 : Nat) : Int) = (2 : Int) ^ 8000 := by simp
      have e2 : ((2 ^ 3 : Nat) : Int) = (2 : Int) ^ 3 := by simp
      omega))
  · have hl := low_le i20 hb4
    exact rtOf.of (p _ M4 (low_red i20 hb4) (by omega) (by omega) (((B1.trans B2).trans B3).trans B4))
end
end K2
namespace K2
open PySem L2 Sd Ma
local macro_rules | `(tactic| walk_at "d1") => `(tactic| first
  | ((with_reducible refine' dE_var ?dv ?_); (case dv => rfl))
  | with_reducible refine' dE_int ?_
  | with_reducible refine' dE_str ?_
  | with_reducible refine' dE_bl ?_
  | with_reducible refine' dE_non ?_
  | ((with_reducible refine' dE_nt ?dv ?_); (case dv => assumption))
  | with_reducible refine' dE_ref ?_
  | with_reducible refine' dE_op ?_
  | with_reducible refine' dE_un ?_
  | with_reducible refine' dE_cmp ?_
  | with_reducible refine' dE_isN ?_
  | with_reducible refine' dE_notN ?_
  | with_reducible refine' dE_call ?_
  | with_reducible refine' dE_cb ?_
  | with_reducible refine' dE_kw ?_
  | with_reducible refine' dE_tup ?_
  | with_reducible refine' dE_if ?_
  | with_reducible refine' dE_and ?_
  | with_reducible refine' dE_or ?_
  | with_reducible refine' dE_not ?_
  | with_reducible refine' dE_sl ?_
  | with_reducible refine' dO_none ?_
  | with_reducible refine' dO_some ?_
  | with_reducible refine' dA_cons ?_
  | with_reducible refine' dA_nil ?_
  | with_reducible refine' dT_B ?_
  | with_reducible refine' dT_test ?_
  | with_reducible refine' dT_and ?_
  | with_reducible refine' dT_or ?_
  | with_reducible refine' dT_not ?_
  | with_reducible refine' dT_yes ?_
  | with_reducible refine' dR_I0i ?_
  | with_reducible refine' dU_neg ?_
  | ((with_reducible refine' dR_ixT ?dv ?_); (case dv => rfl))
  | with_reducible refine' dS_seq ?_
  | with_reducible refine' dS_next ?_
  | with_reducible refine' dS_ret ?_
  | with_reducible refine' dS_drop ?_
  | with_reducible refine' dS_if ?_
  | with_reducible refine' dS_asg ?_
  | with_reducible refine' dS_par ?_
  | with_reducible refine' dG_name ?_
  | ((with_reducible refine' dG_tup ?dv ?_); (case dv => rfl); (dsimp only [List.map]))
  | with_reducible refine' dGs_cons ?_
  | with_reducible refine' dGs_nil ?_
  | with_reducible refine' dC_abs ?_
  | with_reducible refine' dC_max2 ?_
  | with_reducible refine' dC_min2 ?_
  | with_reducible refine' rtOf.of ?_
  | with_reducible refine' ex_cmp ?_
  | with_reducible refine' ex_bool ?_
  | with_reducible refine' ex_int ?_
  | with_reducible refine' ex_list ?_
  | with_reducible refine' ex_tup ?_
  | with_reducible refine' ex_d ?_
  | with_reducible refine' ex_m ?_
  | with_reducible refine' ex_par ?_
  | with_reducible refine' ex_rg1 ?_
  | with_reducible refine' ex_rg2 ?_
  | ((with_reducible refine' ex_dat ?dv ?dw ?_); (case dv => rfl); (case dw => exact Nat.le_of_ble_eq_true rfl))
  | ((fail_if_success (with_reducible show ∃ _, _)); (fail_if_success (with_reducible show _ ∧ _)); refine ⟨_, _, rfl, ?_⟩)
  | ((fail_if_success (with_reducible show ∃ _, _)); (fail_if_success (with_reducible show _ ∧ _)); refine ⟨_, rfl, ?_⟩)
  | fail)
local macro_rules | `(tactic| walk_at "d") => `(tactic| repeat' walk_at "d1")
local macro_rules | `(tactic| walk_at "e1") => `(tactic| first
  | ((with_reducible refine' dE_var ?dv ?_); (case dv => rfl))
  | with_reducible refine' dE_int ?_
  | with_reducible refine' dE_str ?_
  | with_reducible refine' dE_bl ?_
  | with_reducible refine' dE_non ?_
  | ((with_reducible refine' dE_nt ?dv ?_); (case dv => assumption))
  | with_reducible refine' dE_ref ?_
  | with_reducible refine' dE_op ?_
  | with_reducible refine' dE_un ?_
  | with_reducible refine' dE_cmp ?_
  | with_reducible refine' dE_isN ?_
  | with_reducible refine' dE_notN ?_
  | with_reducible refine' dE_call ?_
  | with_reducible refine' dE_cb ?_
  | with_reducible refine' dE_kw ?_
  | with_reducible refine' dE_tup ?_
  | with_reducible refine' dE_if ?_
  | with_reducible refine' dE_and ?_
  | with_reducible refine' dE_or ?_
  | with_reducible refine' dE_not ?_
  | with_reducible refine' dE_sl ?_
  | with_reducible refine' dO_none ?_
  | with_reducible refine' dO_some ?_
  | with_reducible refine' dA_cons ?_
  | with_reducible refine' dA_nil ?_
  | with_reducible refine' dT_B ?_
  | with_reducible refine' dT_test ?_
  | with_reducible refine' dT_and ?_
  | with_reducible refine' dT_or ?_
  | with_reducible refine' dT_not ?_
  | with_reducible refine' dT_yes ?_
  | with_reducible refine' dR_I0i ?_
  | with_reducible refine' dU_neg ?_
  | ((with_reducible refine' dR_ixT ?dv ?_); (case dv => rfl))
  | with_reducible refine' dS_next ?_
  | with_reducible refine' dS_ret ?_
  | with_reducible refine' dS_drop ?_
  | with_reducible refine' dS_if ?_
  | with_reducible refine' dS_asg ?_
  | with_reducible refine' dS_par ?_
  | with_reducible refine' dG_name ?_
  | ((with_reducible refine' dG_tup ?dv ?_); (case dv => rfl); (dsimp only [List.map]))
  | with_reducible refine' dGs_cons ?_
  | with_reducible refine' dGs_nil ?_
  | with_reducible refine' dC_abs ?_
  | with_reducible refine' dC_max2 ?_
  | with_reducible refine' dC_min2 ?_
  | with_reducible refine' rtOf.of ?_
  | with_reducible refine' ex_cmp ?_
  | with_reducible refine' ex_bool ?_
  | with_reducible refine' ex_int ?_
  | with_reducible refine' ex_list ?_
  | with_reducible refine' ex_tup ?_
  | with_reducible refine' ex_d ?_
  | with_reducible refine' ex_m ?_
  | with_reducible refine' ex_par ?_
  | with_reducible refine' ex_rg1 ?_
  | with_reducible refine' ex_rg2 ?_
  | ((with_reducible refine' ex_dat ?dv ?dw ?_); (case dv => rfl); (case dw => exact Nat.le_of_ble_eq_true rfl))
  | ((fail_if_success (with_reducible show ∃ _, _)); (fail_if_success (with_reducible show _ ∧ _)); refine ⟨_, _, rfl, ?_⟩)
  | ((fail_if_success (with_reducible show ∃ _, _)); (fail_if_success (with_reducible show _ ∧ _)); refine ⟨_, rfl, ?_⟩)
  | fail)
local macro_rules | `(tactic| walk_at "e") => `(tactic| repeat' walk_at "e1")
theorem mset_comm {M : Mem} {a b : Addr} {x y : List PyData} (h : a ≠ b) : mset (mset M a x) b y = mset (mset M b y) a x := Mem.ext' (fun c => by
  show (if c = b then some y else (if c = a then some x else M c)) = if c = a then some x else (if c = b then some y else M c)
  by_cases h1 : c = a
  · subst h1; rw [if_neg h, if_pos rfl, if_pos rfl]
  · rw [if_neg h1, if_neg h1]) fun _ => rfl
theorem BS.under {M M' : Mem} {a b : Addr} {x : List PyData} (h : a ≠ b) (k : BS (mset M a x) b M') : ∃ M1, BS M b M1 ∧ M' = mset M1 a x := by
  obtain ⟨ds, h1, rfl⟩ := k
  exact ⟨_, ⟨ds, h1, rfl⟩, mset_comm h⟩
theorem BI.under {M : Mem} {a b : Addr} {x : List PyData} (h : a ≠ b) (k : BI M b) : BI (mset M a x) b := by
  obtain ⟨ds, h1, h2⟩ := k
  exact ⟨ds, by rw [mset_ne (Ne.symm h)]; exact h1, h2⟩
theorem BI.ne {M : Mem} {a b : Addr} (h : M a = none) (k : BI M b) : a ≠ b := by
  rintro rfl
  obtain ⟨ds, h1, _⟩ := k
  rw [h] at h1; cases h1
theorem cutD_take {ds : List PyData} {k : Int} (h : 0 ≤ k) : cutD ds none (some k) = ds.take k.toNat := by
  unfold cutD
  show (ds.drop 0).take ((if k < 0 then (k + (ds.length : Int)).toNat else min k.toNat ds.length) - 0) = ds.take k.toNat
  rw [if_neg (by omega), List.drop_zero, Nat.sub_zero]
  by_cases hk : k.toNat ≤ ds.length
  · rw [Nat.min_eq_left hk]
  · rw [Nat.min_eq_right (by omega), List.take_of_length_le (Nat.le_refl _), List.take_of_length_le (by omega)]
end K2
namespace K2
open PySem L2 Sd Ma
local macro_rules | `(tactic| walk_at "d1") => `(tactic| first
  | ((with_reducible refine' dE_var ?dv ?_); (case dv => rfl))
  | with_reducible refine' dE_int ?_
  | with_reducible refine' dE_str ?_
  | with_reducible refine' dE_bl ?_
  | with_reducible refine' dE_non ?_
  | ((with_reducible refine' dE_nt ?dv ?_); (case dv => assumption))
  | with_reducible refine' dE_ref ?_
  | with_reducible refine' dE_op ?_
  | with_reducible refine' dE_un ?_
  | with_reducible refine' dE_cmp ?_
  | with_reducible refine' dE_isN ?_
  | with_reducible refine' dE_notN ?_
  | with_reducible refine' dE_call ?_
  | with_reducible refine' dE_cb ?_
  | with_reducible refine' dE_kw ?_
  | with_reducible refine' dE_tup ?_
  | with_reducible refine' dE_if ?_
  | with_reducible refine' dE_and ?_
  | with_reducible refine' dE_or ?_
  | with_reducible refine' dE_not ?_
  | with_reducible refine' dE_sl ?_
  | with_reducible refine' dO_none ?_
  | with_reducible refine' dO_some ?_
  | with_reducible refine' dA_cons ?_
  | with_reducible refine' dA_nil ?_
  | with_reducible refine' dT_B ?_
  | with_reducible refine' dT_test ?_
  | with_reducible refine' dT_and ?_
  | with_reducible refine' dT_or ?_
  | with_reducible refine' dT_not ?_
  | with_reducible refine' dT_yes ?_
  | with_reducible refine' dR_I0i ?_
  | with_reducible refine' dU_neg ?_
  | ((with_reducible refine' dR_ixT ?dv ?_); (case dv => rfl))
  | with_reducible refine' dS_seq ?_
  | with_reducible refine' dS_next ?_
  | with_reducible refine' dS_ret ?_
  | with_reducible refine' dS_drop ?_
  | with_reducible refine' dS_if ?_
  | with_reducible refine' dS_asg ?_
  | with_reducible refine' dS_par ?_
  | with_reducible refine' dG_name ?_
  | ((with_reducible refine' dG_tup ?dv ?_); (case dv => rfl); (dsimp only [List.map]))
  | with_reducible refine' dGs_cons ?_
  | with_reducible refine' dGs_nil ?_
  | with_reducible refine' dC_abs ?_
  | with_reducible refine' dC_max2 ?_
  | with_reducible refine' dC_min2 ?_
  | with_reducible refine' rtOf.of ?_
  | with_reducible refine' ex_cmp ?_
  | with_reducible refine' ex_bool ?_
  | with_reducible refine' ex_int ?_
  | with_reducible refine' ex_list ?_
  | with_reducible refine' ex_tup ?_
  | with_reducible refine' ex_d ?_
  | with_reducible refine' ex_m ?_
  | with_reducible refine' ex_par ?_
  | with_reducible refine' ex_rg1 ?_
  | with_reducible refine' ex_rg2 ?_
  | ((with_reducible refine' ex_dat ?dv ?dw ?_); (case dv => rfl); (case dw => exact Nat.le_of_ble_eq_true rfl))
  | ((fail_if_success (with_reducible show ∃ _, _)); (fail_if_success (with_reducible show _ ∧ _)); refine ⟨_, _, rfl, ?_⟩)
  | ((fail_if_success (with_reducible show ∃ _, _)); (fail_if_success (with_reducible show _ ∧ _)); refine ⟨_, rfl, ?_⟩)
  | fail)
local macro_rules | `(tactic| walk_at "d") => `(tactic| repeat' walk_at "d1")
local macro_rules | `(tactic| walk_at "e1") => `(tactic| first
  | ((with_reducible refine' dE_var ?dv ?_); (case dv => rfl))
  | with_reducible refine' dE_int ?_
  | with_reducible refine' dE_str ?_
  | with_reducible refine' dE_bl ?_
  | with_reducible refine' dE_non ?_
  | ((with_reducible refine' dE_nt ?dv ?_); (case dv => assumption))
  | with_reducible refine' dE_ref ?_
  | with_reducible refine' dE_op ?_
  | with_reducible refine' dE_un ?_
  | with_reducible refine' dE_cmp ?_
  | with_reducible refine' dE_isN ?_
  | with_reducible refine' dE_notN ?_
  | with_reducible refine' dE_call ?_
  | with_reducible refine' dE_cb ?_
  | with_reducible refine' dE_kw ?_
  | with_reducible refine' dE_tup ?_
  | with_reducible refine' dE_if ?_
  | with_reducible refine' dE_and ?_
  | with_reducible refine' dE_or ?_
  | with_reducible refine' dE_not ?_
  | with_reducible refine' dE_sl ?_
  | with_reducible refine' dO_none ?_
  | with_reducible refine' dO_some ?_
  | with_reducible refine' dA_cons ?_
  | with_reducible refine' dA_nil ?_
  | with_reducible refine' dT_B ?_
  | with_reducible refine' dT_test ?_
  | with_reducible refine' dT_and ?_
  | with_reducible refine' dT_or ?_
  | with_reducible refine' dT_not ?_
  | with_reducible refine' dT_yes ?_
  | with_reducible refine' dR_I0i ?_
  | with_reducible refine' dU_neg ?_
  | ((with_reducible refine' dR_ixT ?dv ?_); (case dv => rfl))
  | with_reducible refine' dS_next ?_
  | with_reducible refine' dS_ret ?_
  | with_reducible refine' dS_drop ?_
  | with_reducible refine' dS_if ?_
  | with_reducible refine' dS_asg ?_
  | with_reducible refine' dS_par ?_
  | with_reducible refine' dG_name ?_
  | ((with_reducible refine' dG_tup ?dv ?_); (case dv => rfl); (dsimp only [List.map]))
  | with_reducible refine' dGs_cons ?_
  | with_reducible refine' dGs_nil ?_
  | with_reducible refine' dC_abs ?_
  | with_reducible refine' dC_max2 ?_
  | with_reducible refine' dC_min2 ?_
  | with_reducible refine' rtOf.of ?_
  | with_reducible refine' ex_cmp ?_
  | with_reducible refine' ex_bool ?_
  | with_reducible refine' ex_int ?_
  | with_reducible refine' ex_list ?_
  | with_reducible refine' ex_tup ?_
  | with_reducible refine' ex_d ?_
  | with_reducible refine' ex_m ?_
  | with_reducible refine' ex_par ?_
  | with_reducible refine' ex_rg1 ?_
  | with_reducible refine' ex_rg2 ?_
  | ((with_reducible refine' ex_dat ?dv ?dw ?_); (case dv => rfl); (case dw => exact Nat.le_of_ble_eq_true rfl))
  | ((fail_if_success (with_reducible show ∃ _, _)); (fail_if_success (with_reducible show _ ∧ _)); refine ⟨_, _, rfl, ?_⟩)
  | ((fail_if_success (with_reducible show ∃ _, _)); (fail_if_success (with_reducible show _ ∧ _)); refine ⟨_, rfl, ?_⟩)
  | fail)
local macro_rules | `(tactic| walk_at "e") => `(tactic| repeat' walk_at "e1")
/-- a fraction of bounded size -/
structure Fr (n : Nat) (q : Q) : Prop extends Red q where
  s1 : Sz n q.1
  s2 : Sz n q.2
def plus (x y : Q) : Q := low (x.1 * y.2 + y.1 * x.2) (x.2 * y.2)
theorem plus_red {x y : Q} (hx : Red x) (hy : Red y) : Red (plus x y) := low_red (by have := Int.mul_nonneg hx.p0 (Int.le_of_lt hy.q0); have := Int.mul_nonneg hy.p0 (Int.le_of_lt hx.q0); omega) (Int.mul_pos hx.q0 hy.q0)
section
variable {P : Program} {w : World} {K : PySem.W.Frag} {mg : Str → Option Value} {base : Heap} {f : Addr} {fd : FuncData}
def S_plus : SpD := fun rs M P => ∃ x y : Q, rs = [.d (fr x), .d (fr y)] ∧ Fr 3000 x ∧ Fr 3000 y ∧ P (.d (fr (plus x y))) M
def S_less : SpD := fun rs M P => ∃ x y : Q, rs = [.d (fr x), .d (fr y)] ∧ Fr 3000 x ∧ Fr 3000 y ∧ P (.d (.bool (decide (x.1 * y.2 < y.1 * x.2)))) M
abbrev s_law_plus : Stmt := topS 54
theorem sc_law_plus : FnScope ["one", "other"] ["one", "other"] (defScope s_law_plus) := ⟨rfl, rfl, rfl, by decide +kernel, rfl, by decide +kernel, by decide +kernel⟩
theorem ok_law_plus (F : Fun K "_law_plus" "_law_plus" s_law_plus f fd) (c_law_lowest : Has P w K mg base 1 "_law_lowest" ["top", "bottom"] S_lowest) : FnOk P w K mg base CX0 2 f fd ["one", "other"] (spOf K S_plus) := by
  refine ok_of F sc_law_plus (fun rs M P h => by obtain ⟨a, b, rfl, _⟩ := h; rfl) fun cdv A outer s H E hr => ⟨_, (pss_one (ps_ret (pe_callH' c_law_lowest (hr.mono (by first | decide | omega)) rfl (pa_cons (pe_op op_add (pe_op op_mulW (pe_ix (kix_tup K) (pv 0) pe_int (fun _ _ => rfl)) (pe_ix (kix_tup K) (pv 1) pe_int (fun _ _ => rfl))) (pe_op op_mulW (pe_ix (kix_tup K) (pv 1) pe_int (fun _ _ => rfl)) (pe_ix (kix_tup K) (pv 0) pe_int (fun _ _ => rfl)))) (pa_cons (pe_op op_mulW (pe_ix (kix_tup K) (pv 0) pe_int (fun _ _ => rfl)) (pe_ix (kix_tup K) (pv 1) pe_int (fun _ _ => rfl))) pa_nil))))), fun rs M P h => ?_⟩
  obtain ⟨x, y, rfl, hx, hy, p⟩ := h
  walk_at "d"
  refine dR_Ii (hx.s1.mulOk hy.s2 (by decide) (by decide) (by decide)) ?_
  walk_at "d"
  refine dR_Ii (hy.s1.mulOk hx.s2 (by decide) (by decide) (by decide)) ?_
  walk_at "d"
  refine dR_Ii (hx.s2.mulOk hy.s2 (by decide) (by decide) (by decide)) ?_
  walk_at "d"
  exact ⟨by have := Int.mul_nonneg hx.p0 (Int.le_of_lt hy.q0); have := Int.mul_nonneg hy.p0 (Int.le_of_lt hx.q0); omega, Int.mul_pos hx.q0 hy.q0, (hx.s2.mul hy.s2).up (by decide), rtOf.of p⟩
abbrev s_law_less : Stmt := topS 55
theorem sc_law_less : FnScope ["one", "other"] ["one", "other"] (defScope s_law_less) := ⟨rfl, rfl, rfl, by decide +kernel, rfl, by decide +kernel, by decide +kernel⟩
theorem ok_law_less (F : Fun K "_law_less" "_law_less" s_law_less f fd) : FnOk P w K mg base CX0 1 f fd ["one", "other"] (spOf K S_less) := by
  refine ok_of F sc_law_less (fun rs M P h => by obtain ⟨a, b, rfl, _⟩ := h; rfl) fun cdv A outer s H E hr => ⟨_, (pss_one (ps_ret (pe_cmp (pc_lt (pe_op op_mulW (pe_ix (kix_tup K) (pv 0) pe_int (fun _ _ => rfl)) (pe_ix (kix_tup K) (pv 1) pe_int (fun _ _ => rfl))) (pe_op op_mulW (pe_ix (kix_tup K) (pv 1) pe_int (fun _ _ => rfl)) (pe_ix (kix_tup K) (pv 0) pe_int (fun _ _ => rfl))))))), fun rs M P h => ?_⟩
  obtain ⟨x, y, rfl, hx, hy, p⟩ := h
  walk_at "d"
  refine dR_Ii (hx.s1.mulOk hy.s2 (by decide) (by decide) (by decide)) ?_
  walk_at "d"
  refine dR_Ii (hy.s1.mulOk hx.s2 (by decide) (by decide) (by decide)) ?_
  walk_at "d"
  exact p
def S_lleft : SpD := fun rs M P => ∃ (ro : List Rope) (y : SV) (ns : List Str), rs = [.d (ld ro), y] ∧ Seq M y (ns.map .str) ∧ ro.length ≤ 100 ∧ P (.d (ld (leftOf ro ns))) M
abbrev s_law_left : Stmt := topS 56
theorem sc_law_left : FnScope ["bundle", "broken", "rope"] ["bundle", "broken"] (defScope s_law_left) := ⟨rfl, rfl, rfl, by decide +kernel, rfl, by decide +kernel, by decide +kernel⟩
theorem ok_law_left (F : Fun K "_law_left" "_law_left" s_law_left f fd) : FnOk P w K mg base CX0 1 f fd ["bundle", "broken"] (spOf K S_lleft) := by
  refine ok_of F sc_law_left (fun rs M P h => by obtain ⟨a, b, c, rfl, _⟩ := h; rfl) fun cdv A outer s H E hr => ⟨_, (pss_one (ps_ret (pe_lc (own := [("rope", 2)]) (by rfl) sc_law_left.nd (kpi_list K (pv 0)) (blkOk_by (N := ["bundle", "broken", "rope"]) (sc := defScope s_law_left) (own := [("rope", 2)]) (by decide +kernel)) (fun _ _ _ _ _ => (pg_name (i := 2) sc_law_left.nd rfl (Or.inl rfl))) (fun _ _ _ _ _ => (pts_one (pt_cmpR (kop_notIn K) (pe_ix (kix_tup K) (pv 2) pe_int (fun _ _ => rfl)) (pv 1) (by rfl)))) (fun _ _ _ _ _ => (pv 2))))), fun rs M P h => ?_⟩
  obtain ⟨ro, y, ns, rfl, hy, hl, p⟩ := h
  walk_at "d"
  refine dE_lcLf (enc := Rope.d) (out := Rope.d) (pt := fun r => !ns.contains r.n) (xs := ro) ?_
  walk_at "d"
  refine ⟨rfl, rfl, by omega, fun r hr => ?_, fun r hr h => ?_, .inl (rtOf.of p)⟩
  · walk_at "d"
    refine dR_no (ns := ns) hy ?_
    walk_at "d"
    exact ⟨rfl, rfl⟩
  · walk_at "d"
    exact ⟨rfl, rfl⟩
abbrev s_law_pull : Stmt := topS 57
theorem sc_law_pull : FnScope ["rope", "sunk"] ["rope", "sunk"] (defScope s_law_pull) := ⟨rfl, rfl, rfl, by decide +kernel, rfl, by decide +kernel, by decide +kernel⟩
theorem ok_law_pull (T : Txt mg) (F : Fun K "_law_pull" "_law_pull" s_law_pull f fd) (c_law_lowest : Has P w K mg base 1 "_law_lowest" ["top", "bottom"] S_lowest) : FnOk P w K mg base CX0 2 f fd ["rope", "sunk"] (spOf K S_pull) := by
  refine ok_of F sc_law_pull (fun rs M P h => by obtain ⟨a, b, rfl, _⟩ := h; rfl) fun cdv A outer s H E hr => ⟨_, (pss_one (ps_ret (pe_callH' c_law_lowest (hr.mono (by first | decide | omega)) rfl (pa_cons (pe_callB (call_max2 rfl) (by rfl) T.max (by decide +kernel) (pa_cons pe_int (pa_cons (pe_op op_mulW (pe_ix (kix_tup K) (pv 0) pe_int (fun _ _ => rfl)) (pe_op op_sub (pe_ix (kix_tup K) (pv 1) pe_int (fun _ _ => rfl)) (pe_op op_mulW (pe_ix (kix_tup K) (pv 0) pe_int (fun _ _ => rfl)) (pe_ix (kix_tup K) (pv 1) pe_int (fun _ _ => rfl))))) pa_nil))) (pa_cons (pe_ix (kix_tup K) (pv 1) pe_int (fun _ _ => rfl)) pa_nil))))), fun rs M P h => ?_⟩
  obtain ⟨r, q, rfl, hr1, hq0, hq1, hq2, p⟩ := h
  have z1 : Sz 2040 (r.a * q.2) := (hr1.aS.mul hq2).up (by decide)
  have z2 : Sz 2041 (q.1 - r.a * q.2) := (hq1.up (by decide)).sub z1
  walk_at "d"
  refine dR_Ii (hr1.aS.mulOk hq2 (by decide) (by decide) (by decide)) ?_
  walk_at "d"
  refine dR_Ii (hr1.bS.mulOk z2 (by decide) (by decide) (by decide)) ?_
  walk_at "d"
  have hb0 := hr1.b0
  by_cases h : r.a * q.2 < q.1
  · have hpos : 0 < r.b * (q.1 - r.a * q.2) := Int.mul_pos hb0 (by omega)
    rw [if_pos hpos]
    refine ⟨Int.le_of_lt hpos, hq0, hq2.up (by decide), rtOf.of ?_⟩
    unfold pullOf at p
    rw [if_pos h] at p
    exact p
  · have hneg : ¬ r.b * (q.1 - r.a * q.2) > 0 := by
      have := Int.mul_nonneg (Int.le_of_lt hb0) (show 0 ≤ -(q.1 - r.a * q.2) by omega)
      rw [Int.mul_neg] at this
      omega
    rw [if_neg hneg]
    refine ⟨Int.le_refl 0, hq0, hq2.up (by decide), rtOf.of ?_⟩
    unfold pullOf at p
    rw [if_neg h] at p
    rw [low_zero hq0]
    exact p
end
end K2
namespace K2
open PySem L2 Sd Ma
local macro_rules | `(tactic| walk_at "d1") => `(tactic| first
  | ((with_reducible refine' dE_var ?dv ?_); (case dv => rfl))
  | with_reducible refine' dE_int ?_
  | with_reducible refine' dE_str ?_
  | with_reducible refine' dE_bl ?_
  | with_reducible refine' dE_non ?_
  | ((with_reducible refine' dE_nt ?dv ?_); (case dv => assumption))
  | with_reducible refine' dE_ref ?_
  | with_reducible refine' dE_op ?_
  | with_reducible refine' dE_un ?_
  | with_reducible refine' dE_cmp ?_
  | with_reducible refine' dE_isN ?_
  | with_reducible refine' dE_notN ?_
  | with_reducible refine' dE_call ?_
  | with_reducible refine' dE_cb ?_
  | with_reducible refine' dE_kw ?_
  | with_reducible refine' dE_tup ?_
  | with_reducible refine' dE_if ?_
  | with_reducible refine' dE_and ?_
  | with_reducible refine' dE_or ?_
  | with_reducible refine' dE_not ?_
  | with_reducible refine' dE_sl ?_
  | with_reducible refine' dO_none ?_
  | with_reducible refine' dO_some ?_
  | with_reducible refine' dA_cons ?_
  | with_reducible refine' dA_nil ?_
  | with_reducible refine' dT_B ?_
  | with_reducible refine' dT_test ?_
  | with_reducible refine' dT_and ?_
  | with_reducible refine' dT_or ?_
  | with_reducible refine' dT_not ?_
  | with_reducible refine' dT_yes ?_
  | with_reducible refine' dR_I0i ?_
  | with_reducible refine' dU_neg ?_
  | ((with_reducible refine' dR_ixT ?dv ?_); (case dv => rfl))
  | with_reducible refine' dS_seq ?_
  | with_reducible refine' dS_next ?_
  | with_reducible refine' dS_ret ?_
  | with_reducible refine' dS_drop ?_
  | with_reducible refine' dS_if ?_
  | with_reducible refine' dS_asg ?_
  | with_reducible refine' dS_par ?_
  | with_reducible refine' dG_name ?_
  | ((with_reducible refine' dG_tup ?dv ?_); (case dv => rfl); (dsimp only [List.map]))
  | with_reducible refine' dGs_cons ?_
  | with_reducible refine' dGs_nil ?_
  | with_reducible refine' dC_abs ?_
  | with_reducible refine' dC_max2 ?_
  | with_reducible refine' dC_min2 ?_
  | with_reducible refine' rtOf.of ?_
  | with_reducible refine' ex_cmp ?_
  | with_reducible refine' ex_bool ?_
  | with_reducible refine' ex_int ?_
  | with_reducible refine' ex_list ?_
  | with_reducible refine' ex_tup ?_
  | with_reducible refine' ex_d ?_
  | with_reducible refine' ex_m ?_
  | with_reducible refine' ex_par ?_
  | with_reducible refine' ex_rg1 ?_
  | with_reducible refine' ex_rg2 ?_
  | ((with_reducible refine' ex_dat ?dv ?dw ?_); (case dv => rfl); (case dw => exact Nat.le_of_ble_eq_true rfl))
  | ((fail_if_success (with_reducible show ∃ _, _)); (fail_if_success (with_reducible show _ ∧ _)); refine ⟨_, _, rfl, ?_⟩)
  | ((fail_if_success (with_reducible show ∃ _, _)); (fail_if_success (with_reducible show _ ∧ _)); refine ⟨_, rfl, ?_⟩)
  | fail)
local macro_rules | `(tactic| walk_at "d") => `(tactic| repeat' walk_at "d1")
local macro_rules | `(tactic| walk_at "e1") => `(tactic| first
  | ((with_reducible refine' dE_var ?dv ?_); (case dv => rfl))
  | with_reducible refine' dE_int ?_
  | with_reducible refine' dE_str ?_
  | with_reducible refine' dE_bl ?_
  | with_reducible refine' dE_non ?_
  | ((with_reducible refine' dE_nt ?dv ?_); (case dv => assumption))
  | with_reducible refine' dE_ref ?_
  | with_reducible refine' dE_op ?_
  | with_reducible refine' dE_un ?_
  | with_reducible refine' dE_cmp ?_
  | with_reducible refine' dE_isN ?_
  | with_reducible refine' dE_notN ?_
  | with_reducible refine' dE_call ?_
  | with_reducible refine' dE_cb ?_
  | with_reducible refine' dE_kw ?_
  | with_reducible refine' dE_tup ?_
  | with_reducible refine' dE_if ?_
  | with_reducible refine' dE_and ?_
  | with_reducible refine' dE_or ?_
  | with_reducible refine' dE_not ?_
  | with_reducible refine' dE_sl ?_
  | with_reducible refine' dO_none ?_
  | with_reducible refine' dO_some ?_
  | with_reducible refine' dA_cons ?_
  | with_reducible refine' dA_nil ?_
  | with_reducible refine' dT_B ?_
  | with_reducible refine' dT_test ?_
  | with_reducible refine' dT_and ?_
  | with_reducible refine' dT_or ?_
  | with_reducible refine' dT_not ?_
  | with_reducible refine' dT_yes ?_
  | with_reducible refine' dR_I0i ?_
  | with_reducible refine' dU_neg ?_
  | ((with_reducible refine' dR_ixT ?dv ?_); (case dv => rfl))
  | with_reducible refine' dS_next ?_
  | with_reducible refine' dS_ret ?_
  | with_reducible refine' dS_drop ?_
  | with_reducible refine' dS_if ?_
  | with_reducible refine' dS_asg ?_
  | with_reducible refine' dS_par ?_
  | with_reducible refine' dG_name ?_
  | ((with_reducible refine' dG_tup ?dv ?_); (case dv => rfl); (dsimp only [List.map]))
  | with_reducible refine' dGs_cons ?_
  | with_reducible refine' dGs_nil ?_
  | with_reducible refine' dC_abs ?_
  | with_reducible refine' dC_max2 ?_
  | with_reducible refine' dC_min2 ?_
  | with_reducible refine' rtOf.of ?_
  | with_reducible refine' ex_cmp ?_
  | with_reducible refine' ex_bool ?_
  | with_reducible refine' ex_int ?_
  | with_reducible refine' ex_list ?_
  | with_reducible refine' ex_tup ?_
  | with_reducible refine' ex_d ?_
  | with_reducible refine' ex_m ?_
  | with_reducible refine' ex_par ?_
  | with_reducible refine' ex_rg1 ?_
  | with_reducible refine' ex_rg2 ?_
  | ((with_reducible refine' ex_dat ?dv ?dw ?_); (case dv => rfl); (case dw => exact Nat.le_of_ble_eq_true rfl))
  | ((fail_if_success (with_reducible show ∃ _, _)); (fail_if_success (with_reducible show _ ∧ _)); refine ⟨_, _, rfl, ?_⟩)
  | ((fail_if_success (with_reducible show ∃ _, _)); (fail_if_success (with_reducible show _ ∧ _)); refine ⟨_, rfl, ?_⟩)
  | fail)
local macro_rules | `(tactic| walk_at "e") => `(tactic| repeat' walk_at "e1")
abbrev prD (p : Pr) : PyData := .tuple [.int p.1, .int p.2]
def le2 (x y : Pr) : Bool := decide (x.1 < y.1 ∨ (x.1 = y.1 ∧ x.2 ≤ y.2))
theorem le2_sorted (ps : List Pr) : (ps.mergeSort le2).Pairwise fun x y => x.1 ≤ y.1 := by
  have h := List.pairwise_mergeSort (le := le2) (fun a b c h1 h2 => decide_eq_true (by have := of_decide_eq_true h1; have := of_decide_eq_true h2; omega)) (fun a b => by
    unfold le2; simp only [Bool.or_eq_true, decide_eq_true_eq]; omega) ps
  exact h.imp fun h => by have := of_decide_eq_true h; omega
theorem rows_sorted (ps : List Pr) : ((ps.map prD).mergeSort (PySem.W.dataLe false id)) = (ps.mergeSort le2).map prD :=
  (List.map_mergeSort (r := le2) (s := PySem.W.dataLe false id) (f := prD) (fun a _ b _ => (congrFun (congrFun (PySem.W.dataLe_ii (β := Pr) Prod.fst Prod.snd) a) b).symm)).symm
theorem fr_int {a : Int} (h : 0 ≤ a) (hs : Sz 40 a) : Fr 3000 (a, 1) := ⟨⟨h, (by decide : (0 : Int) < 1), Int.gcd_one_right ..⟩, hs.up (by decide), Sz.up (m := 1) (show (1 : Int).natAbs < 2 ^ 1 by decide) (by decide)⟩
theorem szsum {α : Type} (g : α → Int) (n : Nat) : ∀ (xs : List α), (∀ x ∈ xs, 0 ≤ g x ∧ Sz n (g x)) → ∀ j, 0 ≤ ((xs.take j).map g).sum ∧ Sz (n + j) ((xs.take j).map g).sum
  | [], _, j => by simp; exact Nat.pow_pos (by decide)
  | x :: xs, h, 0 => by simp; exact Nat.pow_pos (by decide)
  | x :: xs, h, j + 1 => by
    obtain ⟨h1, h2⟩ := szsum g n xs (fun y hy => h y (List.mem_cons_of_mem _ hy)) j
    obtain ⟨h3, h4⟩ := h x List.mem_cons_self
    rw [List.take_succ_cons, List.map_cons, List.sum_cons]
    exact ⟨by omega, (Sz.add (h4.up (Nat.le_add_right n j)) h2).up (by omega)⟩
section
variable {P : Program} {w : World} {K : PySem.W.Frag} {mg : Str → Option Value} {base : Heap} {f : Addr} {fd : FuncData}
def S_lsunk : SpD := fun rs M P => ∃ (ro : List Rope) (q : Q), rs = [.d (ld ro), .d (fr q)] ∧ BOk ro ∧ LOk q ∧ P (.d (opt (sunkOf ro q.1 q.2))) M
abbrev s_law_sunk : Stmt := topS 58
theorem sc_law_sunk : FnScope ["ropes", "load", "rows", "here", "many", "drawn", "stiff", "top", "rope", "row"] ["ropes", "load"] (defScope s_law_sunk) := ⟨rfl, rfl, rfl, by decide +kernel, rfl, by decide +kernel, by decide +kernel⟩
theorem ok_law_sunk (T : Txt mg) (F : Fun K "_law_sunk" "_law_sunk" s_law_sunk f fd) (c_law_lowest : Has P w K mg base 1 "_law_lowest" ["top", "bottom"] S_lowest) (c_law_less : Has P w K mg base 1 "_law_less" ["one", "other"] S_less) : FnOk P w K mg base CX0 2 f fd ["ropes", "load"] (spOf K S_lsunk) := by
  refine ok_of F sc_law_sunk (fun rs M P h => by obtain ⟨a, b, rfl, _⟩ := h; rfl) fun cdv A outer s H E hr => ⟨_, (pss_cons (ps_if (pt_cmp (pc_eqI (pe_ix (kix_tup K) (pv 1) pe_int (fun _ _ => rfl)) pe_int)) (pss_one (ps_ret (pe_tup (pa_cons pe_int (pa_cons pe_int pa_nil))))) pss_nil)
      (pss_cons (ps_set (i := 2) sc_law_sunk.nd rfl (Or.inl rfl) (pe_callB (kcr_sortedD K hr) (by rfl) T.sorted (by decide +kernel) (pa_cons (pe_lc (own := [("rope", 8)]) (by rfl) sc_law_sunk.nd (kpi_list K (pv 0)) (blkOk_by (N := ["ropes", "load", "rows", "here", "many", "drawn", "stiff", "top", "rope", "row"]) (sc := defScope s_law_sunk) (own := [("rope", 8)]) (by decide +kernel)) (fun _ _ _ _ _ => (pg_name (i := 8) sc_law_sunk.nd rfl (Or.inl rfl))) (fun _ _ _ _ _ => pts_nil) (fun _ _ _ _ _ => (pe_tup (pa_cons (pe_ix (kix_tup K) (pv 8) pe_int (fun _ _ => rfl)) (pa_cons (pe_ix (kix_tup K) (pv 8) pe_int (fun _ _ => rfl)) pa_nil))))) pa_nil)))
      (pss_cons (ps_set (i := 3) sc_law_sunk.nd rfl (Or.inl rfl) pe_non)
      (pss_cons (ps_for PassesOwn.never rfl (pi_range2 (by rfl) T.range (pa_cons pe_int (pa_cons (pe_op op_add (pe_callB (kcall_len K) (by rfl) T.len (by decide +kernel) (pa_cons (pv 2) pa_nil)) pe_int) pa_nil))) (pg_name (i := 4) sc_law_sunk.nd rfl (Or.inl rfl)) (pss_cons (ps_set (i := 5) sc_law_sunk.nd rfl (Or.inl rfl) (pe_slice (ksl_list K) (pv 2) po_none (po_some (pv 4))))
      (pss_cons (ps_set (i := 6) sc_law_sunk.nd rfl (Or.inl rfl) (pe_callB (kcr_sum K) (by rfl) T.sum (by decide +kernel) (pa_cons (pe_lc (own := [("row", 9)]) (by rfl) sc_law_sunk.nd (kpi_list K (pv 5)) (blkOk_by (N := ["ropes", "load", "rows", "here", "many", "drawn", "stiff", "top", "rope", "row"]) (sc := defScope s_law_sunk) (own := [("row", 9)]) (by decide +kernel)) (fun _ _ _ _ _ => (pg_name (i := 9) sc_law_sunk.nd rfl (Or.inl rfl))) (fun _ _ _ _ _ => pts_nil) (fun _ _ _ _ _ => (pe_ix (kix_tup K) (pv 9) pe_int (fun _ _ => rfl)))) pa_nil)))
      (pss_cons (ps_set (i := 7) sc_law_sunk.nd rfl (Or.inl rfl) (pe_op op_add (pe_ix (kix_tup K) (pv 1) pe_int (fun _ _ => rfl)) (pe_op op_mulW (pe_ix (kix_tup K) (pv 1) pe_int (fun _ _ => rfl)) (pe_callB (kcr_sum K) (by rfl) T.sum (by decide +kernel) (pa_cons (pe_lc (own := [("row", 9)]) (by rfl) sc_law_sunk.nd (kpi_list K (pv 5)) (blkOk_by (N := ["ropes", "load", "rows", "here", "many", "drawn", "stiff", "top", "rope", "row"]) (sc := defScope s_law_sunk) (own := [("row", 9)]) (by decide +kernel)) (fun _ _ _ _ _ => (pg_name (i := 9) sc_law_sunk.nd rfl (Or.inl rfl))) (fun _ _ _ _ _ => pts_nil) (fun _ _ _ _ _ => (pe_op op_mulW (pe_ix (kix_tup K) (pv 9) pe_int (fun _ _ => rfl)) (pe_ix (kix_tup K) (pv 9) pe_int (fun _ _ => rfl))))) pa_nil)))))
      (pss_one (ps_if (PW.pt (pw_or (pt_cmp (pc_isN (pv 3))) (pw_or1 (pt_val (pe_callH' c_law_less (hr.mono (by first | decide | omega)) rfl (pa_cons (pe_tup (pa_cons (pe_ix (kix_tup K) (pe_ix (kix_list K) (pv 5) (pe_un un_neg pe_int) (fun _ _ => rfl)) pe_int (fun _ _ => rfl)) (pa_cons pe_int pa_nil))) (pa_cons (pv 3) pa_nil))))))) (pss_one (ps_set (i := 3) sc_law_sunk.nd rfl (Or.inl rfl) (pe_callH' c_law_lowest (hr.mono (by first | decide | omega)) rfl (pa_cons (pv 7) (pa_cons (pe_op op_mulW (pv 6) (pe_ix (kix_tup K) (pv 1) pe_int (fun _ _ => rfl))) pa_nil))))) pss_nil))))))
      (pss_one (ps_ret (pv 3))))))), fun rs M P h => ?_⟩
  obtain ⟨ro, ⟨t, b⟩, rfl, hB, hL, p⟩ := h
  have ht : 0 ≤ t := hL.p0
  have hb : 0 < b := hL.q0
  have st : Sz 300 t := hL.s1
  have sb : Sz 300 b := hL.s2
  walk_at "d"
  refine ifB (fun h => ?_) (fun h => ?_)
  · walk_at "d"
    have h0 : t = 0 := of_decide_eq_true h
    unfold sunkOf at p
    rw [if_pos h0] at p
    exact p
  have h0 : t ≠ 0 := of_decide_eq_false h
  walk_at "d"
  refine dE_lcLm (enc := Rope.d) (out := fun r => prD (pr r)) (xs := ro) ?_
  walk_at "d"
  refine ⟨rfl, rfl, by have := hB.len; omega, fun r hr => ?_, .inl ?_⟩
  · walk_at "d"
    exact ⟨rfl, rfl⟩
  walk_at "d"
  rw [show ro.map (fun r => prD (pr r)) = (ro.map pr).map prD by rw [List.map_map]; rfl]
  refine dC_sortedD (.inl rfl) ?_ ?_ ?_ ?_
  · intro d hd d' hd'
    obtain ⟨x, _, rfl⟩ := List.mem_map.mp hd
    obtain ⟨y, _, rfl⟩ := List.mem_map.mp hd'
    rfl
  · refine .inl fun d hd => ?_
    obtain ⟨x, _, rfl⟩ := List.mem_map.mp hd
    exact ⟨_, _, rfl⟩
  · intro d hd
    obtain ⟨x, _, rfl⟩ := List.mem_map.mp hd
    show 0 + 1 ≤ 60
    decide
  rw [rows_sorted]
  have pm : ((ro.map pr).mergeSort le2).Perm (ro.map pr) := List.mergeSort_perm _ _
  have hpos : Pos ro := ⟨fun r hr => (hB.ok r hr).a0, fun r hr => (hB.ok r hr).b0⟩
  have hs := le2_sorted (ro.map pr)
  have hg := goL_sunk hpos (show 0 < t by omega) hb pm hs
  have hlen : ((ro.map pr).mergeSort le2).length ≤ 100 := by rw [pm.length_eq, List.length_map]; exact hB.len
  have hok : ∀ p ∈ (ro.map pr).mergeSort le2, 0 ≤ p.1 ∧ Sz 40 p.1 ∧ 0 < p.2 ∧ Sz 40 p.2 := fun p hp => by
    obtain ⟨r, hr, rfl⟩ := List.mem_map.mp (pm.mem_iff.mp hp)
    exact ⟨(hB.ok r hr).a0, (hB.ok r hr).aS, (hB.ok r hr).b0, (hB.ok r hr).bS⟩
  rw [show sunkOf ro (t, b).1 (t, b).2 = sunkOf ro t b from rfl, ← hg] at p
  generalize (ro.map pr).mergeSort le2 = ps at hlen hok p
  clear hg hs pm
  walk_at "d"
  refine dS_range2 ?_
  walk_at "d"
  refine dC_len (.inl rfl) ?_
  walk_at "d"
  rw [List.length_map]
  refine ⟨by omega, fun i δ M' => ∃ (sk : Option Q) (x1 x2 x3 x4 x5 x6 : Option SV), δ = [some (.d (ld ro)), some (.d (fr (t, b))), some (.d (.list (ps.map prD))), some (.d (opt sk)), x1, x2, x3, x4, x5, x6] ∧ M' = M ∧
      goL t b (ps.drop i) sk ((ps.take i).map Prod.snd).sum ((ps.take i).map fun p => p.1 * p.2).sum = goL t b ps none 0 0 ∧ (∀ q, sk = some q → QOk q), ⟨none, _, _, _, _, _, _, rfl, rfl, rfl, fun q e => by cases e⟩, fun i δ M' hi hI => ?_, fun δ M' hI => ?_⟩
  · obtain ⟨sk, x1, x2, x3, x4, x5, x6, rfl, rfl, hgo, hq⟩ := hI
    have hil : i < ps.length := by omega
    obtain ⟨a0, aS, b0, bS⟩ := hok ps[i] (List.getElem_mem hil)
    have hdr : ps.drop i = ps[i] :: ps.drop (i + 1) := List.drop_eq_getElem_cons hil
    have htk : ps.take (i + 1) = ps.take i ++ [ps[i]] := List.take_succ_eq_append_getElem hil
    have hk1 : ((ps.take (i + 1)).map Prod.snd).sum = ((ps.take i).map Prod.snd).sum + ps[i].2 := by rw [htk, List.map_append, List.sum_append]; simp
    have hl1 : ((ps.take (i + 1)).map fun p => p.1 * p.2).sum = ((ps.take i).map fun p => p.1 * p.2).sum + ps[i].1 * ps[i].2 := by rw [htk, List.map_append, List.sum_append]; simp
    have szK : ∀ j, j ≤ 100 → 0 ≤ ((ps.take j).map Prod.snd).sum ∧ Sz (41 + j) ((ps.take j).map Prod.snd).sum := fun j hj => szsum (fun p => p.2) 41 ps (fun p hp => ⟨Int.le_of_lt (hok p hp).2.2.1, (hok p hp).2.2.2.up (by decide)⟩) j
    have szL : ∀ j, j ≤ 100 → 0 ≤ ((ps.take j).map fun p => p.1 * p.2).sum ∧ Sz (81 + j) ((ps.take j).map fun p => p.1 * p.2).sum := fun j hj => szsum (fun p => p.1 * p.2) 81 ps (fun p hp => ⟨Int.mul_nonneg (hok p hp).1 (Int.le_of_lt (hok p hp).2.2.1), ((hok p hp).2.1.mul (hok p hp).2.2.2).up (by decide)⟩) j
    obtain ⟨k0, kS⟩ := szK i (by omega)
    obtain ⟨l0, lS⟩ := szL i (by omega)
    obtain ⟨k0', kS'⟩ := szK (i + 1) (by omega)
    obtain ⟨l0', lS'⟩ := szL (i + 1) (by omega)
    rw [hdr] at hgo
    have hlast : atI ((ps.take (i + 1)).map prD) (-1) = some (prD ps[i]) := by rw [htk, List.map_append]; exact atI_last _ _
    generalize ps[i] = pi at *
    have hkb : 0 < ((ps.take (i + 1)).map Prod.snd).sum * b := Int.mul_pos (by omega) hb
    have htt : 0 ≤ t + b * ((ps.take (i + 1)).map fun p => p.1 * p.2).sum := by have := Int.mul_nonneg (Int.le_of_lt hb) l0'; omega
    have zK : Sz 500 (((ps.take (i + 1)).map Prod.snd).sum * b) := (kS'.mul sb).up (by omega)
    have zT : Sz 600 (t + b * ((ps.take (i + 1)).map fun p => p.1 * p.2).sum) := (Sz.add (st.up (show 300 ≤ 500 by decide)) ((sb.mul lS').up (by omega))).up (by decide)
    have hnew : QOk (low (t + b * ((ps.take (i + 1)).map fun p => p.1 * p.2).sum) (((ps.take (i + 1)).map Prod.snd).sum * b)) := ⟨low_red htt hkb, zT.le (low_red htt hkb).p0 (low_le htt hkb).1, (zK.up (by decide)).le (Int.le_of_lt (low_red htt hkb).q0) (low_le htt hkb).2⟩
    walk_at "d"
    refine dU_slL (.inl rfl) ?_
    rw [cutD_take (by omega), show (1 + (i : Int)).toNat = i + 1 by omega, ← List.map_take]
    walk_at "d"
    refine dE_lcLm (enc := prD) (out := fun p => .int p.2) (xs := ps.take (i + 1)) ?_
    walk_at "d"
    refine ⟨rfl, rfl, by rw [List.length_take]; omega, fun r hr => ?_, .inl ?_⟩
    · walk_at "d"
      exact ⟨rfl, rfl⟩
    walk_at "d"
    refine dC_sum (ns := (ps.take (i + 1)).map Prod.snd) (.inl (by rw [List.map_map]; rfl)) ?_
    walk_at "d"
    refine dE_lcLm (enc := prD) (out := fun p => .int (p.1 * p.2)) (xs := ps.take (i + 1)) ?_
    walk_at "d"
    refine ⟨rfl, rfl, by rw [List.length_take]; omega, fun r hr => ?_, .inl ?_⟩
    · have hr' := hok r (List.mem_of_mem_take hr)
      walk_at "d"
      refine dR_Ii (hr'.2.1.mulOk hr'.2.2.2 (by decide) (by decide) (by decide)) ?_
      exact ⟨rfl, rfl⟩
    walk_at "d"
    refine dC_sum (ns := (ps.take (i + 1)).map fun p => p.1 * p.2) (.inl (by rw [List.map_map]; rfl)) ?_
    walk_at "d"
    refine dR_Ii (sb.mulOk lS' (by omega) (by omega) (by omega)) ?_
    walk_at "d"
    cases sk with
    | none =>
      refine ifT rfl ?_
      walk_at "d"
      refine ifT rfl ?_
      walk_at "d"
      refine dR_Ii (kS'.mulOk sb (by omega) (by omega) (by omega)) ?_
      walk_at "d"
      refine ⟨htt, hkb, zK.up (by decide), ?_⟩
      walk_at "d"
      refine ⟨some _, _, _, _, _, _, _, rfl, rfl, ?_, fun q e => by cases e; exact hnew⟩
      rw [hk1, hl1]
      exact hgo
    | some q =>
      have hq' := hq q rfl
      refine ifF rfl ?_
      walk_at "d"
      refine dR_ixL (.inl rfl) hlast ?_
      walk_at "d"
      refine ⟨(pi.1, 1), q, rfl, fr_int a0 aS, ⟨hq'.toRed, hq'.s1.up (by decide), hq'.s2.up (by decide)⟩, ?_⟩
      walk_at "d"
      have hgo' : goL t b (ps.drop (i + 1)) (if pi.1 * q.2 < q.1 then some (low (t + b * (((ps.take i).map fun p => p.1 * p.2).sum + pi.1 * pi.2)) ((((ps.take i).map Prod.snd).sum + pi.2) * b)) else some q) (((ps.take i).map Prod.snd).sum + pi.2) (((ps.take i).map fun p => p.1 * p.2).sum + pi.1 * pi.2) = goL t b ps none 0 0 := hgo
      rw [← hk1, ← hl1] at hgo'
      refine ifB (fun h => ?_) (fun h => ?_)
      · have h' : pi.1 * q.2 < q.1 := by simpa using h
        rw [if_pos h'] at hgo'
        walk_at "d"
        refine dR_Ii (kS'.mulOk sb (by omega) (by omega) (by omega)) ?_
        walk_at "d"
        refine ⟨htt, hkb, zK.up (by decide), ?_⟩
        walk_at "d"
        exact ⟨some _, _, _, _, _, _, _, rfl, rfl, hgo', fun q e => by cases e; exact hnew⟩
      · have h' : ¬ pi.1 * q.2 < q.1 := by simpa using h
        rw [if_neg h'] at hgo'
        walk_at "d"
        exact ⟨some q, _, _, _, _, _, _, rfl, rfl, hgo', hq⟩
  · obtain ⟨sk, x1, x2, x3, x4, x5, x6, rfl, rfl, hgo, hq⟩ := hI
    rw [show ((ps.length : Int) + 1 - 1).toNat = ps.length by omega, List.drop_length] at hgo
    walk_at "d"
    rw [← hgo] at p
    exact p
end
end K2
namespace K2
open PySem L2 Sd Ma
theorem low_plus {X Y s : Int} (hX : 0 ≤ X) (hY : 0 ≤ Y) (hs : 0 < s) : plus (low X s) (low Y s) = low (X + Y) s := by
  have rx := low_red hX hs
  have ry := low_red hY hs
  have ex := low_eq (t := X) hs
  have ey := low_eq (t := Y) hs
  refine (low_unique (show 0 ≤ X + Y by omega) hs (plus_red rx ry) ?_).symm
  have ez := low_eq (t := (low X s).1 * (low Y s).2 + (low Y s).1 * (low X s).2) (Int.mul_pos rx.q0 ry.q0)
  show (X + Y) * (plus (low X s) (low Y s)).2 = (plus (low X s) (low Y s)).1 * s
  unfold plus
  generalize low ((low X s).1 * (low Y s).2 + (low Y s).1 * (low X s).2) ((low X s).2 * (low Y s).2) = z at *
  have hpos : (low X s).2 * (low Y s).2 ≠ 0 := Int.ne_of_gt (Int.mul_pos rx.q0 ry.q0)
  generalize low X s = x at *
  generalize low Y s = y at *
  refine Int.eq_of_mul_eq_mul_right hpos ?_
  have h1 : (X + Y) * z.2 * (x.2 * y.2) = (X * x.2 * y.2 + Y * y.2 * x.2) * z.2 := by grind
  have h2 : z.1 * s * (x.2 * y.2) = z.1 * (x.2 * y.2) * s := by grind
  rw [h1, h2, ← ez, ex, ey]
  grind
theorem pull_low {r : Rope} {q : Q} (hb : 0 < r.b) (hq : 0 < q.2) : pullOf r q = low (f1 q (pr r)) q.2 := by
  unfold pullOf f1
  by_cases h : r.a * q.2 < q.1
  · rw [if_pos h]
    show _ = low (r.b * max 0 (q.1 - r.a * q.2)) q.2
    rw [show max 0 (q.1 - r.a * q.2) = q.1 - r.a * q.2 by omega]
  · rw [if_neg h]
    show _ = low (r.b * max 0 (q.1 - r.a * q.2)) q.2
    rw [show max 0 (q.1 - r.a * q.2) = 0 by omega, Int.mul_zero, low_zero hq]
theorem asc_lay {x : Str} (h : ∀ c ∈ x.cps.toList, c < 128) : PyData.canLay0 (.str x) = true := by
  rw [PyData.canLay0]
  show x.cps.all (fun c => decide (c < 0x110000)) = true
  rw [Array.all_eq_true_iff_forall_mem]
  intro c hc
  have := h c (Array.mem_toList_iff.mpr hc)
  exact decide_eq_true (by omega)
theorem bun_lay {ro : List Rope} (h : Bun ro) : ∀ r ∈ ro, PyData.canLay0 (.str r.n) = true := fun r hr => asc_lay (h.asc r hr).2
/-- what the waves ask of a bundle -/
structure Bw (ro : List Rope) : Prop where
  ok : BOk ro
  lay : ∀ r ∈ ro, PyData.canLay0 (.str r.n) = true
theorem Bun.bw {ro : List Rope} (h : Bun ro) : Bw ro := ⟨h.ok, bun_lay h⟩
theorem Fsz {q : Q} (hq : QOk q) : ∀ {rs : List Rope}, (∀ r ∈ rs, r.Ok) → 0 ≤ F q (rs.map pr) ∧ Sz (700 + rs.length) (F q (rs.map pr))
  | [], _ => ⟨Int.le_refl 0, Nat.pow_pos (by decide)⟩
  | r :: rs, h => by
    obtain ⟨h1, h2⟩ := Fsz hq (rs := rs) fun x hx => h x (List.mem_cons_of_mem _ hx)
    have rk := h r List.mem_cons_self
    rw [List.map_cons, F_cons, List.length_cons]
    have n1 : 0 ≤ f1 q (pr r) := f1_nn rk.b0
    have z1 : Sz 641 (q.1 - r.a * q.2) := Sz.sub (hq.s1.up (show 600 ≤ 640 by decide)) (rk.aS.mul hq.s2)
    have z2 : Sz 641 (max 0 (q.1 - r.a * q.2)) := by
      by_cases h : 0 ≤ q.1 - r.a * q.2
      · rw [show max 0 (q.1 - r.a * q.2) = q.1 - r.a * q.2 by omega]; exact z1
      · rw [show max 0 (q.1 - r.a * q.2) = 0 by omega]; exact Nat.pow_pos (by decide)
    have z3 : Sz 700 (f1 q (pr r)) := (rk.bS.mul z2).up (by decide)
    exact ⟨by omega, ((z3.up (by omega)).add h2).up (by omega)⟩
theorem msub_bs {M M' M'' : Mem} {b : Addr} (h : MSub M M') (hb : M b = none) (k : BS M' b M'') : MSub M M'' := by
  obtain ⟨ds, _, rfl⟩ := k
  exact msub_set h hb
end K2
namespace K2
open PySem L2 Sd Ma
local macro_rules | `(tactic| walk_at "d1") => `(tactic| first
  | ((with_reducible refine' dE_var ?dv ?_); (case dv => rfl))
  | with_reducible refine' dE_int ?_
  | with_reducible refine' dE_str ?_
  | with_reducible refine' dE_bl ?_
  | with_reducible refine' dE_non ?_
  | ((with_reducible refine' dE_nt ?dv ?_); (case dv => assumption))
  | with_reducible refine' dE_ref ?_
  | with_reducible refine' dE_op ?_
  | with_reducible refine' dE_un ?_
  | with_reducible refine' dE_cmp ?_
  | with_reducible refine' dE_isN ?_
  | with_reducible refine' dE_notN ?_
  | with_reducible refine' dE_call ?_
  | with_reducible refine' dE_cb ?_
  | with_reducible refine' dE_kw ?_
  | with_reducible refine' dE_tup ?_
  | with_reducible refine' dE_if ?_
  | with_reducible refine' dE_and ?_
  | with_reducible refine' dE_or ?_
  | with_reducible refine' dE_not ?_
  | with_reducible refine' dE_sl ?_
  | with_reducible refine' dO_none ?_
  | with_reducible refine' dO_some ?_
  | with_reducible refine' dA_cons ?_
  | with_reducible refine' dA_nil ?_
  | with_reducible refine' dT_B ?_
  | with_reducible refine' dT_test ?_
  | with_reducible refine' dT_and ?_
  | with_reducible refine' dT_or ?_
  | with_reducible refine' dT_not ?_
  | with_reducible refine' dT_yes ?_
  | with_reducible refine' dR_I0i ?_
  | with_reducible refine' dU_neg ?_
  | ((with_reducible refine' dR_ixT ?dv ?_); (case dv => rfl))
  | with_reducible refine' dS_seq ?_
  | with_reducible refine' dS_next ?_
  | with_reducible refine' dS_ret ?_
  | with_reducible refine' dS_drop ?_
  | with_reducible refine' dS_if ?_
  | with_reducible refine' dS_asg ?_
  | with_reducible refine' dS_par ?_
  | with_reducible refine' dG_name ?_
  | ((with_reducible refine' dG_tup ?dv ?_); (case dv => rfl); (dsimp only [List.map]))
  | with_reducible refine' dGs_cons ?_
  | with_reducible refine' dGs_nil ?_
  | with_reducible refine' dC_abs ?_
  | with_reducible refine' dC_max2 ?_
  | with_reducible refine' dC_min2 ?_
  | with_reducible refine' rtOf.of ?_
  | with_reducible refine' ex_cmp ?_
  | with_reducible refine' ex_bool ?_
  | with_reducible refine' ex_int ?_
  | with_reducible refine' ex_list ?_
  | with_reducible refine' ex_tup ?_
  | with_reducible refine' ex_d ?_
  | with_reducible refine' ex_m ?_
  | with_reducible refine' ex_par ?_
  | with_reducible refine' ex_rg1 ?_
  | with_reducible refine' ex_rg2 ?_
  | ((with_reducible refine' ex_dat ?dv ?dw ?_); (case dv => rfl); (case dw => exact Nat.le_of_ble_eq_true rfl))
  | ((fail_if_success (with_reducible show ∃ _, _)); (fail_if_success (with_reducible show _ ∧ _)); refine ⟨_, _, rfl, ?_⟩)
  | ((fail_if_success (with_reducible show ∃ _, _)); (fail_if_success (with_reducible show _ ∧ _)); refine ⟨_, rfl, ?_⟩)
  | fail)
local macro_rules | `(tactic| walk_at "d") => `(tactic| repeat' walk_at "d1")
local macro_rules | `(tactic| walk_at "e1") => `(tactic| first
  | ((with_reducible refine' dE_var ?dv ?_); (case dv => rfl))
  | with_reducible refine' dE_int ?_
  | with_reducible refine' dE_str ?_
  | with_reducible refine' dE_bl ?_
  | with_reducible refine' dE_non ?_
  | ((with_reducible refine' dE_nt ?dv ?_); (case dv => assumption))
  | with_reducible refine' dE_ref ?_
  | with_reducible refine' dE_op ?_
  | with_reducible refine' dE_un ?_
  | with_reducible refine' dE_cmp ?_
  | with_reducible refine' dE_isN ?_
  | with_reducible refine' dE_notN ?_
  | with_reducible refine' dE_call ?_
  | with_reducible refine' dE_cb ?_
  | with_reducible refine' dE_kw ?_
  | with_reducible refine' dE_tup ?_
  | with_reducible refine' dE_if ?_
  | with_reducible refine' dE_and ?_
  | with_reducible refine' dE_or ?_
  | with_reducible refine' dE_not ?_
  | with_reducible refine' dE_sl ?_
  | with_reducible refine' dO_none ?_
  | with_reducible refine' dO_some ?_
  | with_reducible refine' dA_cons ?_
  | with_reducible refine' dA_nil ?_
  | with_reducible refine' dT_B ?_
  | with_reducible refine' dT_test ?_
  | with_reducible refine' dT_and ?_
  | with_reducible refine' dT_or ?_
  | with_reducible refine' dT_not ?_
  | with_reducible refine' dT_yes ?_
  | with_reducible refine' dR_I0i ?_
  | with_reducible refine' dU_neg ?_
  | ((with_reducible refine' dR_ixT ?dv ?_); (case dv => rfl))
  | with_reducible refine' dS_next ?_
  | with_reducible refine' dS_ret ?_
  | with_reducible refine' dS_drop ?_
  | with_reducible refine' dS_if ?_
  | with_reducible refine' dS_asg ?_
  | with_reducible refine' dS_par ?_
  | with_reducible refine' dG_name ?_
  | ((with_reducible refine' dG_tup ?dv ?_); (case dv => rfl); (dsimp only [List.map]))
  | with_reducible refine' dGs_cons ?_
  | with_reducible refine' dGs_nil ?_
  | with_reducible refine' dC_abs ?_
  | with_reducible refine' dC_max2 ?_
  | with_reducible refine' dC_min2 ?_
  | with_reducible refine' rtOf.of ?_
  | with_reducible refine' ex_cmp ?_
  | with_reducible refine' ex_bool ?_
  | with_reducible refine' ex_int ?_
  | with_reducible refine' ex_list ?_
  | with_reducible refine' ex_tup ?_
  | with_reducible refine' ex_d ?_
  | with_reducible refine' ex_m ?_
  | with_reducible refine' ex_par ?_
  | with_reducible refine' ex_rg1 ?_
  | with_reducible refine' ex_rg2 ?_
  | ((with_reducible refine' ex_dat ?dv ?dw ?_); (case dv => rfl); (case dw => exact Nat.le_of_ble_eq_true rfl))
  | ((fail_if_success (with_reducible show ∃ _, _)); (fail_if_success (with_reducible show _ ∧ _)); refine ⟨_, _, rfl, ?_⟩)
  | ((fail_if_success (with_reducible show ∃ _, _)); (fail_if_success (with_reducible show _ ∧ _)); refine ⟨_, rfl, ?_⟩)
  | fail)
local macro_rules | `(tactic| walk_at "e") => `(tactic| repeat' walk_at "e1")
def tooMuch (sq : Q) (r : Rope) : Bool := decide (r.c * (pullOf r sq).2 < (pullOf r sq).1)
def gwOf (lo : List Rope) (q : Q) : List Str := match sunkOf lo q.1 q.2 with
  | none => []
  | some sq => (lo.filter (tooMuch sq)).map Rope.n
theorem gw_sub {lo : List Rope} {q : Q} : (gwOf lo q).Sublist (lo.map Rope.n) := by
  unfold gwOf
  split
  · exact List.nil_sublist _
  · exact List.filter_sublist.map _
theorem left_short {lo : List Rope} {ns : List Str} (h : ns ≠ []) (hs : ns.Sublist (lo.map Rope.n)) : (leftOf lo ns).length < lo.length := by
  obtain ⟨x, r, rfl⟩ : ∃ x r, ns = x :: r := by
    cases ns with
    | nil => exact absurd rfl h
    | cons x r => exact ⟨x, r, rfl⟩
  have hx : x ∈ lo.map Rope.n := hs.subset List.mem_cons_self
  obtain ⟨y, hy, rfl⟩ := List.mem_map.mp hx
  unfold leftOf
  exact List.length_filter_lt_length_iff_exists.mpr ⟨y, hy, by simp⟩
def wvN (q : Q) : Nat → List Rope → List (List Str)
  | 0, _ => []
  | n + 1, lo => if gwOf lo q = [] then [] else gwOf lo q :: wvN q n (leftOf lo (gwOf lo q))
def wavesOf (lo : List Rope) (q : Q) : List (List Str) := wvN q lo.length lo
theorem gw_nil {q : Q} : gwOf [] q = [] := by
  unfold gwOf
  split <;> rfl
theorem wvN_fuel {q : Q} : ∀ (n m : Nat) (lo : List Rope), lo.length ≤ n → lo.length ≤ m → wvN q n lo = wvN q m lo
  | 0, m, lo, h, _ => by
    have : lo = [] := List.length_eq_zero_iff.mp (by omega)
    subst this
    cases m with
    | zero => rfl
    | succ m => show _ = (if gwOf [] q = [] then [] else _); rw [if_pos gw_nil]; rfl
  | n + 1, 0, lo, _, h => by
    have : lo = [] := List.length_eq_zero_iff.mp (by omega)
    subst this
    show (if gwOf [] q = [] then [] else _) = _
    rw [if_pos gw_nil]; rfl
  | n + 1, m + 1, lo, h1, h2 => by
    show (if gwOf lo q = [] then [] else _) = (if gwOf lo q = [] then [] else _)
    by_cases hg : gwOf lo q = []
    · rw [if_pos hg, if_pos hg]
    · rw [if_neg hg, if_neg hg, wvN_fuel n m _ (by have := left_short hg gw_sub; omega) (by have := left_short hg gw_sub; omega)]
theorem waves_end {lo : List Rope} {q : Q} (h : gwOf lo q = []) : wavesOf lo q = [] := by
  unfold wavesOf
  cases e : lo.length with
  | zero => rfl
  | succ n => show (if gwOf lo q = [] then [] else _) = _; rw [if_pos h]
theorem waves_step {lo : List Rope} {q : Q} (h : gwOf lo q ≠ []) : wavesOf lo q = gwOf lo q :: wavesOf (leftOf lo (gwOf lo q)) q := by
  have hs := left_short h gw_sub
  unfold wavesOf
  cases e : lo.length with
  | zero => omega
  | succ n =>
    show (if gwOf lo q = [] then [] else _) = _
    rw [if_neg h, wvN_fuel n (leftOf lo (gwOf lo q)).length _ (by omega) (Nat.le_refl _)]
theorem left_left {ro : List Rope} {a b : List Str} : leftOf (leftOf ro a) b = leftOf ro (a ++ b) := by
  unfold leftOf
  rw [List.filter_filter]
  congr 1
  funext r
  cases h1 : a.contains r.n <;> cases h2 : b.contains r.n <;> simp_all
def leN (x y : Str) : Bool := PySem.W.dataLe false id (.str x) (.str y)
def sortN (ns : List Str) : List Str := ns.mergeSort leN
theorem sortN_dat (ns : List Str) : (ns.map PyData.str).mergeSort (PySem.W.dataLe false id) = (sortN ns).map PyData.str :=
  (List.map_mergeSort (r := leN) (s := PySem.W.dataLe false id) (f := PyData.str) (fun a _ b _ => rfl)).symm
/-- what is broken behind the waves -/
def brOf (ro : List Rope) (ns : List Str) (q : Q) : List Str := sortN (ns ++ (wavesOf (leftOf ro ns) q).flatten)
section
variable {P : Program} {w : World} {K : PySem.W.Frag} {mg : Str → Option Value} {base : Heap} {f : Addr} {fd : FuncData}
def S_leftL : SpD := fun rs M P => ∃ (ro : List Rope) (ns : List Str), rs = [.d (ld ro), .d (nm ns)] ∧ ro.length ≤ 100 ∧ P (.d (ld (leftOf ro ns))) M
def S_tm : SpD := fun rs M P => ∃ (r : Rope) (q : Q), rs = [.d r.d, .d (fr q)] ∧ r.Ok ∧ Sz 3000 q.2 ∧ P (.d (.bool (decide (r.c * q.2 < q.1)))) M
def S_gw : SpD := fun rs M P => ∃ (lo : List Rope) (q : Q), rs = [.d (ld lo), .d (fr q)] ∧ BOk lo ∧ LOk q ∧ P (.d (nm (gwOf lo q))) M
def S_waves : SpD := fun rs M P => ∃ (ro : List Rope) (ns : List Str) (q : Q), rs = [.d (bd ro), .d (nm ns), .d (fr q)] ∧ BOk ro ∧ LOk q ∧ P (.d (.list ((wavesOf (leftOf ro ns) q).map nm))) M
theorem ok_ropes_leftL (F : Fun K "ropes_left" "ropes_left" s_ropes_left f fd) : FnOk P w K mg base CX0 1 f fd ["bundle", "broken"] (spOf K S_leftL) := by
  refine ok_of F sc_ropes_left (fun rs M P h => by obtain ⟨a, b, rfl, _⟩ := h; rfl) fun cdv A outer s H E hr => ⟨_, (pss_one (ps_ret (pe_lc (own := [("rope", 2)]) (by rfl) sc_ropes_left.nd (kpi_list K (pv 0)) (blkOk_by (N := ["bundle", "broken", "rope"]) (sc := defScope s_ropes_left) (own := [("rope", 2)]) (by decide +kernel)) (fun _ _ _ _ _ => (pg_name (i := 2) sc_ropes_left.nd rfl (Or.inl rfl))) (fun _ _ _ _ _ => (pts_one (pt_cmpR (kop_notIn K) (pe_ix (kix_tup K) (pv 2) pe_int (fun _ _ => rfl)) (pv 1) (by rfl)))) (fun _ _ _ _ _ => (pv 2))))), fun rs M P h => ?_⟩
  obtain ⟨ro, ns, rfl, hl, p⟩ := h
  walk_at "d"
  refine dE_lcLf (enc := Rope.d) (out := Rope.d) (pt := fun r => !ns.contains r.n) (xs := ro) ?_
  walk_at "d"
  refine ⟨rfl, rfl, by omega, fun r hr => ?_, fun r hr h => ?_, .inl (rtOf.of p)⟩
  · walk_at "d"
    refine dR_no (ns := ns) (.inr (.inl rfl)) ?_
    walk_at "d"
    exact ⟨rfl, rfl⟩
  · walk_at "d"
    exact ⟨rfl, rfl⟩
abbrev s_is_too_much : Stmt := topS 37
theorem sc_is_too_much : FnScope ["rope", "pull"] ["rope", "pull"] (defScope s_is_too_much) := ⟨rfl, rfl, rfl, by decide +kernel, rfl, by decide +kernel, by decide +kernel⟩
theorem ok_is_too_much (F : Fun K "is_too_much" "is_too_much" s_is_too_much f fd) : FnOk P w K mg base CX0 1 f fd ["rope", "pull"] (spOf K S_tm) := by
  refine ok_of F sc_is_too_much (fun rs M P h => by obtain ⟨a, b, rfl, _⟩ := h; rfl) fun cdv A outer s H E hr => ⟨_, (pss_one (ps_ret (pe_cmp (pc_gt (pe_ix (kix_tup K) (pv 1) pe_int (fun _ _ => rfl)) (pe_op op_mulW (pe_ix (kix_tup K) (pv 0) pe_int (fun _ _ => rfl)) (pe_ix (kix_tup K) (pv 1) pe_int (fun _ _ => rfl))))))), fun rs M P h => ?_⟩
  obtain ⟨r, q, rfl, h1, h2, p⟩ := h
  walk_at "d"
  refine dR_Ii (h1.cS.mulOk h2 (by decide) (by decide) (by decide)) ?_
  walk_at "d"
  exact p
/-- sizes of pulls -/
theorem pull_sz {r : Rope} {q : Q} (hr : r.Ok) (hq : QOk q) : Fr 3000 (pullOf r q) := by
  rw [pull_low hr.b0 hq.q0]
  have n1 : 0 ≤ f1 q (pr r) := f1_nn hr.b0
  obtain ⟨_, gS⟩ := Fsz hq (rs := [r]) fun z hz => by rw [List.mem_singleton.mp hz]; exact hr
  rw [List.map_cons, List.map_nil, F_cons, F_nil, Int.add_zero] at gS
  exact ⟨low_red n1 hq.q0, (gS.le (low_red n1 hq.q0).p0 (low_le n1 hq.q0).1).up (by simp), (hq.s2.le (Int.le_of_lt (low_red n1 hq.q0).q0) (low_le n1 hq.q0).2).up (by decide)⟩
abbrev s_giving_way : Stmt := topS 36
theorem sc_giving_way : FnScope ["left", "load", "sunk", "rope"] ["left", "load"] (defScope s_giving_way) := ⟨rfl, rfl, rfl, by decide +kernel, rfl, by decide +kernel, by decide +kernel⟩
theorem ok_giving_way (T : Txt mg) (F : Fun K "giving_way" "giving_way" s_giving_way f fd) (c_sunk_by : Has P w K mg base 4 "sunk_by" ["left", "load"] S_sunk) (c_pull_at : Has P w K mg base 3 "pull_at" ["rope", "sunk"] S_pull) (c_is_too_much : Has P w K mg base 1 "is_too_much" ["rope", "pull"] S_tm) : FnOk P w K mg base CX0 5 f fd ["left", "load"] (spOf K S_gw) := by
  refine ok_of F sc_giving_way (fun rs M P h => by obtain ⟨a, b, rfl, _⟩ := h; rfl) fun cdv A outer s H E hr => ⟨_, (pss_cons (ps_if (pt_not (kpt_truth K (pv 0))) (pss_one (ps_ret (pe_tup pa_nil))) pss_nil)
      (pss_cons (ps_set (i := 2) sc_giving_way.nd rfl (Or.inr rfl) (pe_callH' c_sunk_by (hr.mono (by first | decide | omega)) rfl (pa_cons (pv 0) (pa_cons (pv 1) pa_nil))))
      (pss_one (ps_ret (pe_callTy (kcall_tuple K) (by rfl) T.tuple (by decide +kernel) (pa_cons (pe_lc (own := [("rope", 3)]) (by rfl) sc_giving_way.nd (kpi_list K (pv 0)) (blkOk_by (N := ["left", "load", "sunk", "rope"]) (sc := defScope s_giving_way) (own := [("rope", 3)]) (by decide +kernel)) (fun _ _ _ _ _ => (pg_name (i := 3) sc_giving_way.nd rfl (Or.inl rfl))) (fun _ _ _ _ _ => (pts_one (pt_val (pe_callH' c_is_too_much (hr.mono (by first | decide | omega)) rfl (pa_cons (pv 3) (pa_cons (pe_callH' c_pull_at (hr.mono (by first | decide | omega)) rfl (pa_cons (pv 3) (pa_cons (pv 2) pa_nil))) pa_nil)))))) (fun _ _ _ _ _ => (pe_ix (kix_tup K) (pv 3) pe_int (fun _ _ => rfl)))) pa_nil)))))), fun rs M P h => ?_⟩
  obtain ⟨lo, q, rfl, hB, hL, p⟩ := h
  walk_at "d"
  refine dT_tru ?_
  walk_at "d"
  refine ⟨_, .inl rfl, ?_⟩
  by_cases hlo : lo = []
  · subst hlo
    refine ifT rfl ?_
    walk_at "d"
    rw [gw_nil] at p
    exact p
  · obtain ⟨sq, hsq⟩ := sunk_some (ro := lo) (t := q.1) (b := q.2) hlo
    have hq := sunk_ok hB.len hB.ok hL.p0 hL.q0 hL.s1 hL.s2 hsq
    refine ifF (by cases lo with
      | nil => exact absurd rfl hlo
      | cons a b => rfl) ?_
    walk_at "d"
    refine ⟨lo, q.1, q.2, rfl, hB.len, hB.ok, hL.p0, hL.q0, hL.s1, hL.s2, ?_⟩
    rw [hsq]
    unfold gwOf at p
    rw [hsq] at p
    walk_at "d"
    refine dE_lcLf (enc := Rope.d) (out := fun r => .str r.n) (pt := tooMuch sq) (xs := lo) ?_
    walk_at "d"
    refine ⟨rfl, rfl, by have := hB.len; omega, fun r hr => ?_, fun r hr h => ?_, .inl ?_⟩
    · have hr' := hB.ok r hr
      walk_at "d"
      refine ⟨hr', hq.q0, hq.s1.up (by decide), hq.s2.up (by decide), ?_⟩
      walk_at "d"
      refine ⟨hr', (pull_sz hr' hq).s2, ?_⟩
      walk_at "d"
      exact ⟨rfl, rfl⟩
    · walk_at "d"
      exact ⟨rfl, rfl⟩
    · walk_at "d"
      refine dC_tuple (.inl rfl) (rtOf.of ?_)
      rw [show (lo.filter (tooMuch sq)).map (fun r => PyData.str r.n) = ((lo.filter (tooMuch sq)).map Rope.n).map PyData.str by rw [List.map_map]; rfl]
      exact p
end
end K2
namespace K2
open PySem L2 Sd Ma
local macro_rules | `(tactic| walk_at "d1") => `(tactic| first
  | ((with_reducible refine' dE_var ?dv ?_); (case dv => rfl))
  | with_reducible refine' dE_int ?_
  | with_reducible refine' dE_str ?_
  | with_reducible refine' dE_bl ?_
  | with_reducible refine' dE_non ?_
  | ((with_reducible refine' dE_nt ?dv ?_); (case dv => assumption))
  | with_reducible refine' dE_ref ?_
  | with_reducible refine' dE_op ?_
  | with_reducible refine' dE_un ?_
  | with_reducible refine' dE_cmp ?_
  | with_reducible refine' dE_isN ?_
  | with_reducible refine' dE_notN ?_
  | with_reducible refine' dE_call ?_
  | with_reducible refine' dE_cb ?_
  | with_reducible refine' dE_kw ?_
  | with_reducible refine' dE_tup ?_
  | with_reducible refine' dE_if ?_
  | with_reducible refine' dE_and ?_
  | with_reducible refine' dE_or ?_
  | with_reducible refine' dE_not ?_
  | with_reducible refine' dE_sl ?_
  | with_reducible refine' dO_none ?_
  | with_reducible refine' dO_some ?_
  | with_reducible refine' dA_cons ?_
  | with_reducible refine' dA_nil ?_
  | with_reducible refine' dT_B ?_
  | with_reducible refine' dT_test ?_
  | with_reducible refine' dT_and ?_
  | with_reducible refine' dT_or ?_
  | with_reducible refine' dT_not ?_
  | with_reducible refine' dT_yes ?_
  | with_reducible refine' dR_I0i ?_
  | with_reducible refine' dU_neg ?_
  | ((with_reducible refine' dR_ixT ?dv ?_); (case dv => rfl))
  | with_reducible refine' dS_seq ?_
  | with_reducible refine' dS_next ?_
  | with_reducible refine' dS_ret ?_
  | with_reducible refine' dS_drop ?_
  | with_reducible refine' dS_if ?_
  | with_reducible refine' dS_asg ?_
  | with_reducible refine' dS_par ?_
  | with_reducible refine' dG_name ?_
  | ((with_reducible refine' dG_tup ?dv ?_); (case dv => rfl); (dsimp only [List.map]))
  | with_reducible refine' dGs_cons ?_
  | with_reducible refine' dGs_nil ?_
  | with_reducible refine' dC_abs ?_
  | with_reducible refine' dC_max2 ?_
  | with_reducible refine' dC_min2 ?_
  | with_reducible refine' rtOf.of ?_
  | with_reducible refine' ex_cmp ?_
  | with_reducible refine' ex_bool ?_
  | with_reducible refine' ex_int ?_
  | with_reducible refine' ex_list ?_
  | with_reducible refine' ex_tup ?_
  | with_reducible refine' ex_d ?_
  | with_reducible refine' ex_m ?_
  | with_reducible refine' ex_par ?_
  | with_reducible refine' ex_rg1 ?_
  | with_reducible refine' ex_rg2 ?_
  | ((with_reducible refine' ex_dat ?dv ?dw ?_); (case dv => rfl); (case dw => exact Nat.le_of_ble_eq_true rfl))
  | ((fail_if_success (with_reducible show ∃ _, _)); (fail_if_success (with_reducible show _ ∧ _)); refine ⟨_, _, rfl, ?_⟩)
  | ((fail_if_success (with_reducible show ∃ _, _)); (fail_if_success (with_reducible show _ ∧ _)); refine ⟨_, rfl, ?_⟩)
  | fail)
local macro_rules | `(tactic| walk_at "d") => `(tactic| repeat' walk_at "d1")
local macro_rules | `(tactic| walk_at "e1") => `(tactic| first
  | ((with_reducible refine' dE_var ?dv ?_); (case dv => rfl))
  | with_reducible refine' dE_int ?_
  | with_reducible refine' dE_str ?_
  | with_reducible refine' dE_bl ?_
  | with_reducible refine' dE_non ?_
  | ((with_reducible refine' dE_nt ?dv ?_); (case dv => assumption))
  | with_reducible refine' dE_ref ?_
  | with_reducible refine' dE_op ?_
  | with_reducible refine' dE_un ?_
  | with_reducible refine' dE_cmp ?_
  | with_reducible refine' dE_isN ?_
  | with_reducible refine' dE_notN ?_
  | with_reducible refine' dE_call ?_
  | with_reducible refine' dE_cb ?_
  | with_reducible refine' dE_kw ?_
  | with_reducible refine' dE_tup ?_
  | with_reducible refine' dE_if ?_
  | with_reducible refine' dE_and ?_
  | with_reducible refine' dE_or ?_
  | with_reducible refine' dE_not ?_
  | with_reducible refine' dE_sl ?_
  | with_reducible refine' dO_none ?_
  | with_reducible refine' dO_some ?_
  | with_reducible refine' dA_cons ?_
  | with_reducible refine' dA_nil ?_
  | with_reducible refine' dT_B ?_
  | with_reducible refine' dT_test ?_
  | with_reducible refine' dT_and ?_
  | with_reducible refine' dT_or ?_
  | with_reducible refine' dT_not ?_
  | with_reducible refine' dT_yes ?_
  | with_reducible refine' dR_I0i ?_
  | with_reducible refine' dU_neg ?_
  | ((with_reducible refine' dR_ixT ?dv ?_); (case dv => rfl))
  | with_reducible refine' dS_next ?_
  | with_reducible refine' dS_ret ?_
  | with_reducible refine' dS_drop ?_
  | with_reducible refine' dS_if ?_
  | with_reducible refine' dS_asg ?_
  | with_reducible refine' dS_par ?_
  | with_reducible refine' dG_name ?_
  | ((with_reducible refine' dG_tup ?dv ?_); (case dv => rfl); (dsimp only [List.map]))
  | with_reducible refine' dGs_cons ?_
  | with_reducible refine' dGs_nil ?_
  | with_reducible refine' dC_abs ?_
  | with_reducible refine' dC_max2 ?_
  | with_reducible refine' dC_min2 ?_
  | with_reducible refine' rtOf.of ?_
  | with_reducible refine' ex_cmp ?_
  | with_reducible refine' ex_bool ?_
  | with_reducible refine' ex_int ?_
  | with_reducible refine' ex_list ?_
  | with_reducible refine' ex_tup ?_
  | with_reducible refine' ex_d ?_
  | with_reducible refine' ex_m ?_
  | with_reducible refine' ex_par ?_
  | with_reducible refine' ex_rg1 ?_
  | with_reducible refine' ex_rg2 ?_
  | ((with_reducible refine' ex_dat ?dv ?dw ?_); (case dv => rfl); (case dw => exact Nat.le_of_ble_eq_true rfl))
  | ((fail_if_success (with_reducible show ∃ _, _)); (fail_if_success (with_reducible show _ ∧ _)); refine ⟨_, _, rfl, ?_⟩)
  | ((fail_if_success (with_reducible show ∃ _, _)); (fail_if_success (with_reducible show _ ∧ _)); refine ⟨_, rfl, ?_⟩)
  | fail)
local macro_rules | `(tactic| walk_at "e") => `(tactic| repeat' walk_at "e1")
theorem two_filters {α : Type} (p c : α → Bool) : ∀ l : List α, (∀ r ∈ l, p r = true → c r = false) → (l.filter p).length + (l.filter c).length ≤ l.length
  | [], _ => by simp
  | x :: l, h => by
    have ih := two_filters p c l fun r hr => h r (List.mem_cons_of_mem _ hr)
    have hx := h x List.mem_cons_self
    rw [List.filter_cons, List.filter_cons, List.length_cons]
    cases hp : p x with
    | true =>
      rw [if_pos rfl, if_neg (by rw [hx hp]; decide), List.length_cons]
      omega
    | false =>
      rw [if_neg (by decide)]
      split
      · rw [List.length_cons]; omega
      · omega
theorem waves_len {q : Q} : ∀ (n : Nat) (lo : List Rope), lo.length ≤ n → (wavesOf lo q).flatten.length ≤ lo.length ∧ (wavesOf lo q).length ≤ lo.length
  | 0, lo, h => by
    have : lo = [] := List.length_eq_zero_iff.mp (by omega)
    subst this
    rw [waves_end gw_nil]; simp
  | n + 1, lo, h => by
    by_cases hg : gwOf lo q = []
    · rw [waves_end hg]; simp
    · have hs := left_short hg gw_sub
      obtain ⟨h1, h2⟩ := waves_len (q := q) n (leftOf lo (gwOf lo q)) (by omega)
      rw [waves_step hg, List.flatten_cons, List.length_append, List.length_cons]
      refine ⟨?_, by omega⟩
      have h3 : (gwOf lo q).length + (leftOf lo (gwOf lo q)).length ≤ lo.length := by
        unfold gwOf at hg ⊢
        cases e : sunkOf lo q.1 q.2 with
        | none => rw [e] at hg; exact absurd rfl hg
        | some sq =>
          show ((lo.filter (tooMuch sq)).map Rope.n).length + (leftOf lo ((lo.filter (tooMuch sq)).map Rope.n)).length ≤ lo.length
          rw [List.length_map]
          refine two_filters _ _ lo fun r hr hp => ?_
          have : ((lo.filter (tooMuch sq)).map Rope.n).contains r.n = true := List.contains_iff_mem.mpr (List.mem_map.mpr ⟨r, List.mem_filter.mpr ⟨hr, hp⟩, rfl⟩)
          rw [this]; rfl
      omega
section
variable {P : Program} {w : World} {K : PySem.W.Frag} {mg : Str → Option Value} {base : Heap} {f : Addr} {fd : FuncData}
abbrev s_waves : Stmt := topS 35
theorem sc_waves : FnScope ["bundle", "broken", "load", "told", "left", "wave"] ["bundle", "broken", "load"] (defScope s_waves) := ⟨rfl, rfl, rfl, by decide +kernel, rfl, by decide +kernel, by decide +kernel⟩
theorem ok_waves (F : Fun K "waves" "waves" s_waves f fd) (c_ropes_left : Has P w K mg base 1 "ropes_left" ["bundle", "broken"] S_left) (c_ropes_leftL : Has P w K mg base 1 "ropes_left" ["bundle", "broken"] S_leftL) (c_giving_way : Has P w K mg base 5 "giving_way" ["left", "load"] S_gw) : FnOk P w K mg base CX0 6 f fd ["bundle", "broken", "load"] (spOf K S_waves) := by
  refine ok_of F sc_waves (fun rs M P h => by obtain ⟨a, b, c, rfl, _⟩ := h; rfl) fun cdv A outer s H E hr => ⟨_, (pss_cons (ps_set (i := 3) sc_waves.nd rfl (Or.inl rfl) (pe_lst pa_nil))
      (pss_cons (ps_set (i := 4) sc_waves.nd rfl (Or.inl rfl) (pe_callH' c_ropes_left (hr.mono (by first | decide | omega)) rfl (pa_cons (pv 0) (pa_cons (pv 1) pa_nil))))
      (pss_cons (ps_set (i := 5) sc_waves.nd rfl (Or.inl rfl) (pe_callH' c_giving_way (hr.mono (by first | decide | omega)) rfl (pa_cons (pv 4) (pa_cons (pv 2) pa_nil))))
      (pss_cons (ps_while PassesOwn.never (kpt_truth K (pv 5)) (pss_cons (ps_expr (kpe_bm K (pe_bm PySem.F.plainAttrs_list PySem.F.slot_list_append PySem.F.type_list_append mt_append (pv 3) (pa_cons (pv 5) pa_nil))))
      (pss_cons (ps_set (i := 4) sc_waves.nd rfl (Or.inl rfl) (pe_callH' c_ropes_leftL (hr.mono (by first | decide | omega)) rfl (pa_cons (pv 4) (pa_cons (pv 5) pa_nil))))
      (pss_one (ps_set (i := 5) sc_waves.nd rfl (Or.inl rfl) (pe_callH' c_giving_way (hr.mono (by first | decide | omega)) rfl (pa_cons (pv 4) (pa_cons (pv 2) pa_nil))))))))
      (pss_one (ps_ret (pv 3))))))), fun rs M P h => ?_⟩
  obtain ⟨ro, ns, q, rfl, hB, hL, p⟩ := h
  have hB' := left_ok hB ns
  walk_at "d"
  refine dE_lstM ?_
  walk_at "d"
  intro a ha
  walk_at "d"
  refine ⟨hB.len, ?_⟩
  generalize leftOf ro ns = lo0 at *
  walk_at "d"
  refine ⟨hB', hL, ?_⟩
  walk_at "d"
  refine dS_while (fun m δ M' => ∃ (lo : List Rope) (ws : List (List Str)), δ = [some (.d (bd ro)), some (.d (nm ns)), some (.d (fr q)), some (.m a), some (.d (ld lo)), some (.d (nm (gwOf lo q)))] ∧ M' = mset M a (ws.map nm) ∧ BOk lo ∧ wavesOf lo0 q = ws ++ wavesOf lo q ∧ m = lo.length ∧ ws.length + lo.length ≤ 100) lo0.length ⟨lo0, [], rfl, rfl, hB', rfl, rfl, by have := hB'.len; simp; omega⟩ ?_
  rintro m δ M' ⟨lo, ws, rfl, rfl, hlo, hw, rfl, hlen⟩
  refine dT_tru ?_
  walk_at "d"
  refine ⟨_, .inr (.inl rfl), ?_⟩
  by_cases hg : gwOf lo q = []
  · refine ifF (by rw [hg]; rfl) ?_
    refine dS_ret (dE_varF rfl mset_same ?_)
    rw [mdel_mset ha]
    rw [waves_end hg, List.append_nil] at hw
    rw [← hw]
    exact rtOf.of p
  · refine ifT (by cases h : gwOf lo q with
      | nil => exact absurd h hg
      | cons x y => rfl) ?_
    have hs := left_short hg gw_sub
    walk_at "d"
    refine dE_app ?_
    walk_at "d"
    refine ⟨⟨_, mset_same⟩, ?_⟩
    walk_at "d"
    refine ⟨_, _, rfl, mset_same, by rw [List.length_map]; omega, ?_⟩
    rw [mset_mset]
    walk_at "d"
    refine ⟨hlo.len, ?_⟩
    walk_at "d"
    refine ⟨left_ok hlo _, hL, ?_⟩
    walk_at "d"
    refine ⟨_, hs, leftOf lo (gwOf lo q), ws ++ [gwOf lo q], rfl, by rw [List.map_append]; rfl, left_ok hlo _, ?_, rfl, by rw [List.length_append]; simp; omega⟩
    rw [hw, waves_step hg, List.append_assoc]
    rfl
end
end K2
namespace K2
open PySem L2 Sd Ma
local macro_rules | `(tactic| walk_at "d1") => `(tactic| first
  | ((with_reducible refine' dE_var ?dv ?_); (case dv => rfl))
  | with_reducible refine' dE_int ?_
  | with_reducible refine' dE_str ?_
  | with_reducible refine' dE_bl ?_
  | with_reducible refine' dE_non ?_
  | ((with_reducible refine' dE_nt ?dv ?_); (case dv => assumption))
  | with_reducible refine' dE_ref ?_
  | with_reducible refine' dE_op ?_
  | with_reducible refine' dE_un ?_
  | with_reducible refine' dE_cmp ?_
  | with_reducible refine' dE_isN ?_
  | with_reducible refine' dE_notN ?_
  | with_reducible refine' dE_call ?_
  | with_reducible refine' dE_cb ?_
  | with_reducible refine' dE_kw ?_
  | with_reducible refine' dE_tup ?_
  | with_reducible refine' dE_if ?_
  | with_reducible refine' dE_and ?_
  | with_reducible refine' dE_or ?_
  | with_reducible refine' dE_not ?_
  | with_reducible refine' dE_sl ?_
  | with_reducible refine' dO_none ?_
  | with_reducible refine' dO_some ?_
  | with_reducible refine' dA_cons ?_
  | with_reducible refine' dA_nil ?_
  | with_reducible refine' dT_B ?_
  | with_reducible refine' dT_test ?_
  | with_reducible refine' dT_and ?_
  | with_reducible refine' dT_or ?_
  | with_reducible refine' dT_not ?_
  | with_reducible refine' dT_yes ?_
  | with_reducible refine' dR_I0i ?_
  | with_reducible refine' dU_neg ?_
  | ((with_reducible refine' dR_ixT ?dv ?_); (case dv => rfl))
  | with_reducible refine' dS_seq ?_
  | with_reducible refine' dS_next ?_
  | with_reducible refine' dS_ret ?_
  | with_reducible refine' dS_drop ?_
  | with_reducible refine' dS_if ?_
  | with_reducible refine' dS_asg ?_
  | with_reducible refine' dS_par ?_
  | with_reducible refine' dG_name ?_
  | ((with_reducible refine' dG_tup ?dv ?_); (case dv => rfl); (dsimp only [List.map]))
  | with_reducible refine' dGs_cons ?_
  | with_reducible refine' dGs_nil ?_
  | with_reducible refine' dC_abs ?_
  | with_reducible refine' dC_max2 ?_
  | with_reducible refine' dC_min2 ?_
  | with_reducible refine' rtOf.of ?_
  | with_reducible refine' ex_cmp ?_
  | with_reducible refine' ex_bool ?_
  | with_reducible refine' ex_int ?_
  | with_reducible refine' ex_list ?_
  | with_reducible refine' ex_tup ?_
  | with_reducible refine' ex_d ?_
  | with_reducible refine' ex_m ?_
  | with_reducible refine' ex_par ?_
  | with_reducible refine' ex_rg1 ?_
  | with_reducible refine' ex_rg2 ?_
  | ((with_reducible refine' ex_dat ?dv ?dw ?_); (case dv => rfl); (case dw => exact Nat.le_of_ble_eq_true rfl))
  | ((fail_if_success (with_reducible show ∃ _, _)); (fail_if_success (with_reducible show _ ∧ _)); refine ⟨_, _, rfl, ?_⟩)
  | ((fail_if_success (with_reducible show ∃ _, _)); (fail_if_success (with_reducible show _ ∧ _)); refine ⟨_, rfl, ?_⟩)
  | fail)
local macro_rules | `(tactic| walk_at "d") => `(tactic| repeat' walk_at "d1")
local macro_rules | `(tactic| walk_at "e1") => `(tactic| first
  | ((with_reducible refine' dE_var ?dv ?_); (case dv => rfl))
  | with_reducible refine' dE_int ?_
  | with_reducible refine' dE_str ?_
  | with_reducible refine' dE_bl ?_
  | with_reducible refine' dE_non ?_
  | ((with_reducible refine' dE_nt ?dv ?_); (case dv => assumption))
  | with_reducible refine' dE_ref ?_
  | with_reducible refine' dE_op ?_
  | with_reducible refine' dE_un ?_
  | with_reducible refine' dE_cmp ?_
  | with_reducible refine' dE_isN ?_
  | with_reducible refine' dE_notN ?_
  | with_reducible refine' dE_call ?_
  | with_reducible refine' dE_cb ?_
  | with_reducible refine' dE_kw ?_
  | with_reducible refine' dE_tup ?_
  | with_reducible refine' dE_if ?_
  | with_reducible refine' dE_and ?_
  | with_reducible refine' dE_or ?_
  | with_reducible refine' dE_not ?_
  | with_reducible refine' dE_sl ?_
  | with_reducible refine' dO_none ?_
  | with_reducible refine' dO_some ?_
  | with_reducible refine' dA_cons ?_
  | with_reducible refine' dA_nil ?_
  | with_reducible refine' dT_B ?_
  | with_reducible refine' dT_test ?_
  | with_reducible refine' dT_and ?_
  | with_reducible refine' dT_or ?_
  | with_reducible refine' dT_not ?_
  | with_reducible refine' dT_yes ?_
  | with_reducible refine' dR_I0i ?_
  | with_reducible refine' dU_neg ?_
  | ((with_reducible refine' dR_ixT ?dv ?_); (case dv => rfl))
  | with_reducible refine' dS_next ?_
  | with_reducible refine' dS_ret ?_
  | with_reducible refine' dS_drop ?_
  | with_reducible refine' dS_if ?_
  | with_reducible refine' dS_asg ?_
  | with_reducible refine' dS_par ?_
  | with_reducible refine' dG_name ?_
  | ((with_reducible refine' dG_tup ?dv ?_); (case dv => rfl); (dsimp only [List.map]))
  | with_reducible refine' dGs_cons ?_
  | with_reducible refine' dGs_nil ?_
  | with_reducible refine' dC_abs ?_
  | with_reducible refine' dC_max2 ?_
  | with_reducible refine' dC_min2 ?_
  | with_reducible refine' rtOf.of ?_
  | with_reducible refine' ex_cmp ?_
  | with_reducible refine' ex_bool ?_
  | with_reducible refine' ex_int ?_
  | with_reducible refine' ex_list ?_
  | with_reducible refine' ex_tup ?_
  | with_reducible refine' ex_d ?_
  | with_reducible refine' ex_m ?_
  | with_reducible refine' ex_par ?_
  | with_reducible refine' ex_rg1 ?_
  | with_reducible refine' ex_rg2 ?_
  | ((with_reducible refine' ex_dat ?dv ?dw ?_); (case dv => rfl); (case dw => exact Nat.le_of_ble_eq_true rfl))
  | ((fail_if_success (with_reducible show ∃ _, _)); (fail_if_success (with_reducible show _ ∧ _)); refine ⟨_, _, rfl, ?_⟩)
  | ((fail_if_success (with_reducible show ∃ _, _)); (fail_if_success (with_reducible show _ ∧ _)); refine ⟨_, rfl, ?_⟩)
  | fail)
local macro_rules | `(tactic| walk_at "e") => `(tactic| repeat' walk_at "e1")
abbrev nl (ns : List Str) : PyData := .list (ns.map .str)
theorem tup_eqv_nil (ns : List Str) : PyData.eqv (nm ns) (.tuple []) = ns.isEmpty := by
  cases ns with
  | nil => rfl
  | cons x r => rfl
theorem mem_sortN {x : Str} {ns : List Str} : x ∈ sortN ns ↔ x ∈ ns := List.mem_mergeSort
theorem mem_waves {q : Q} : ∀ (n : Nat) (lo : List Rope), lo.length ≤ n → ∀ x ∈ (wavesOf lo q).flatten, x ∈ lo.map Rope.n
  | 0, lo, h, x, hx => by
    have : lo = [] := List.length_eq_zero_iff.mp (by omega)
    subst this
    rw [waves_end gw_nil] at hx; simp at hx
  | n + 1, lo, h, x, hx => by
    by_cases hg : gwOf lo q = []
    · rw [waves_end hg] at hx; simp at hx
    · have hs := left_short hg gw_sub
      rw [waves_step hg, List.flatten_cons] at hx
      rcases List.mem_append.mp hx with h1 | h1
      · exact gw_sub.subset h1
      · obtain ⟨r, hr, rfl⟩ := List.mem_map.mp (mem_waves n _ (by omega) x h1)
        exact List.mem_map.mpr ⟨r, (List.mem_filter.mp hr).1, rfl⟩
theorem mem_br {ro : List Rope} {ns : List Str} {q : Q} {x : Str} (h : x ∈ brOf ro ns q) : x ∈ ns ∨ x ∈ ro.map Rope.n := by
  unfold brOf at h
  rcases List.mem_append.mp (mem_sortN.mp h) with h | h
  · exact .inl h
  · obtain ⟨r, hr, rfl⟩ := List.mem_map.mp (mem_waves _ _ (Nat.le_refl _) x h)
    exact .inr (List.mem_map.mpr ⟨r, (List.mem_filter.mp hr).1, rfl⟩)
section
variable {P : Program} {w : World} {K : PySem.W.Frag} {mg : Str → Option Value} {base : Heap} {f : Addr} {fd : FuncData}
def S_lwaves : SpD := fun rs M P => ∃ (ro : List Rope) (ns : List Str) (q : Q), rs = [.d (ld ro), .d (nl ns), .d (fr q)] ∧ Bw ro ∧ ns.length ≤ 100 ∧ (∀ x ∈ ns, PyData.canLay0 (.str x) = true) ∧ LOk q ∧ P (.d (.tuple [.list ((wavesOf (leftOf ro ns) q).map nm), nm (brOf ro ns q)])) M
abbrev s_law_waves : Stmt := topS 59
theorem sc_law_waves : FnScope ["bundle", "broken", "load", "found", "some", "sunk", "wave", "rope"] ["bundle", "broken", "load"] (defScope s_law_waves) := ⟨rfl, rfl, rfl, by decide +kernel, rfl, by decide +kernel, by decide +kernel⟩
theorem ok_law_waves (T : Txt mg) (F : Fun K "_law_waves" "_law_waves" s_law_waves f fd) (c_law_left : Has P w K mg base 1 "_law_left" ["bundle", "broken"] S_lleft) (c_law_sunk : Has P w K mg base 2 "_law_sunk" ["ropes", "load"] S_lsunk) (c_law_less : Has P w K mg base 1 "_law_less" ["one", "other"] S_less) (c_law_pull : Has P w K mg base 2 "_law_pull" ["rope", "sunk"] S_pull) : FnOk P w K mg base CX0 3 f fd ["bundle", "broken", "load"] (spOf K S_lwaves) := by
  refine ok_of F sc_law_waves (fun rs M P h => by obtain ⟨a, b, c, rfl, _⟩ := h; rfl) fun cdv A outer s H E hr => ⟨_, (pss_cons (ps_set (i := 3) sc_law_waves.nd rfl (Or.inl rfl) (pe_lst pa_nil))
      (pss_cons (ps_set (i := 1) sc_law_waves.nd rfl (Or.inl rfl) (pe_callTy (kcall_list K) (by rfl) T.list (by decide +kernel) (pa_cons (pv 1) pa_nil)))
      (pss_cons (ps_while PassesOwn.never (pt_val pe_bl) (pss_cons (ps_set (i := 4) sc_law_waves.nd rfl (Or.inl rfl) (pe_callH' c_law_left (hr.mono (by first | decide | omega)) rfl (pa_cons (pv 0) (pa_cons (pv 1) pa_nil))))
      (pss_cons (ps_set (i := 5) sc_law_waves.nd rfl (Or.inr rfl) (pe_callH' c_law_sunk (hr.mono (by first | decide | omega)) rfl (pa_cons (pv 4) (pa_cons (pv 2) pa_nil))))
      (pss_cons (ps_set (i := 6) sc_law_waves.nd rfl (Or.inl rfl) (pe_tup pa_nil))
      (pss_cons (ps_if (pt_cmp (pc_notN (pv 5))) (pss_one (ps_set (i := 6) sc_law_waves.nd rfl (Or.inl rfl) (pe_callTy (kcall_tuple K) (by rfl) T.tuple (by decide +kernel) (pa_cons (pe_lc (own := [("rope", 7)]) (by rfl) sc_law_waves.nd (kpi_list K (pv 4)) (blkOk_by (N := ["bundle", "broken", "load", "found", "some", "sunk", "wave", "rope"]) (sc := defScope s_law_waves) (own := [("rope", 7)]) (by decide +kernel)) (fun _ _ _ _ _ => (pg_name (i := 7) sc_law_waves.nd rfl (Or.inl rfl))) (fun _ _ _ _ _ => (pts_one (pt_val (pe_callH' c_law_less (hr.mono (by first | decide | omega)) rfl (pa_cons (pe_tup (pa_cons (pe_ix (kix_tup K) (pv 7) pe_int (fun _ _ => rfl)) (pa_cons pe_int pa_nil))) (pa_cons (pe_callH' c_law_pull (hr.mono (by first | decide | omega)) rfl (pa_cons (pv 7) (pa_cons (pv 5) pa_nil))) pa_nil)))))) (fun _ _ _ _ _ => (pe_ix (kix_tup K) (pv 7) pe_int (fun _ _ => rfl)))) pa_nil)))) pss_nil)
      (pss_cons (ps_if (pt_cmpR (kop_eqD K hr.units) (pv 6) (pe_tup pa_nil) (nomark _)) (pss_one (ps_ret (pe_tup (pa_cons (pv 3) (pa_cons (pe_callTy (kcall_tuple K) (by rfl) T.tuple (by decide +kernel) (pa_cons (pe_callB (kcr_sortedD K hr) (by rfl) T.sorted (by decide +kernel) (pa_cons (pv 1) pa_nil)) pa_nil)) pa_nil))))) pss_nil)
      (pss_cons (ps_expr (kpe_bm K (pe_bm PySem.F.plainAttrs_list PySem.F.slot_list_append PySem.F.type_list_append mt_append (pv 3) (pa_cons (pv 6) pa_nil))))
      (pss_one (ps_set (i := 1) sc_law_waves.nd rfl (Or.inl rfl) (pe_op op_cat (pv 1) (pe_callTy (kcall_list K) (by rfl) T.list (by decide +kernel) (pa_cons (pv 6) pa_nil))))))))))))
      (pss_one (ps_ret pe_non))))), fun rs M P h => ?_⟩
  obtain ⟨ro, ns, q, rfl, hro, hns, hlay, hL, p⟩ := h
  have hB := hro.ok
  obtain ⟨hf, _⟩ := waves_len (q := q) _ (leftOf ro ns) (Nat.le_refl _)
  have hl0 := (left_ok hB ns).len
  walk_at "d"
  refine dE_lstM ?_
  walk_at "d"
  intro a ha
  walk_at "d"
  refine dC_list (.inl rfl) ?_
  walk_at "d"
  refine dS_while (fun m δ M' => ∃ (ws : List (List Str)) (x4 x5 x6 x7 : Option SV), δ = [some (.d (ld ro)), some (.d (.list ((ns ++ ws.flatten).map .str))), some (.d (fr q)), some (.m a), x4, x5, x6, x7] ∧ M' = mset M a (ws.map nm) ∧
      wavesOf (leftOf ro ns) q = ws ++ wavesOf (leftOf ro (ns ++ ws.flatten)) q ∧ m = (leftOf ro (ns ++ ws.flatten)).length ∧ ws.length + (leftOf ro (ns ++ ws.flatten)).length ≤ 100) _ ⟨[], _, _, _, _, by simp only [List.flatten_nil, List.append_nil]; rfl, rfl, by simp, rfl, by simp; omega⟩ ?_
  rintro m δ M' ⟨ws, x4, x5, x6, x7, rfl, rfl, hw, rfl, hlen⟩
  have hlo := left_ok hB (ns ++ ws.flatten)
  have hsub : ws.flatten.length ≤ 100 := by
    have e := congrArg (fun z => (List.flatten z).length) hw
    simp only [List.flatten_append, List.length_append] at e
    omega
  have hsubm : ∀ x ∈ ws.flatten, PyData.canLay0 (.str x) = true := fun x hx => by
    have hm : x ∈ (wavesOf (leftOf ro ns) q).flatten := by rw [hw, List.flatten_append]; exact List.mem_append_left _ hx
    obtain ⟨r, hr, rfl⟩ := List.mem_map.mp (mem_waves _ _ (Nat.le_refl _) x hm)
    exact hro.lay r (List.mem_filter.mp hr).1
  have hlaylo : ∀ x ∈ gwOf (leftOf ro (ns ++ ws.flatten)) q, PyData.canLay0 (.str x) = true := fun x hx => by
    obtain ⟨r, hr, rfl⟩ := List.mem_map.mp (gw_sub.subset hx)
    exact hro.lay r (List.mem_filter.mp hr).1
  have hll : ∀ b, leftOf (leftOf ro (ns ++ ws.flatten)) b = leftOf ro (ns ++ (ws.flatten ++ b)) := fun b => by rw [left_left, List.append_assoc]
  generalize hgl : leftOf ro (ns ++ ws.flatten) = lo at *
  refine dT_B (dE_bl ⟨true, rfl, ifT rfl ?_⟩)
  walk_at "d"
  refine ⟨ro, _, ns ++ ws.flatten, rfl, .inl rfl, hB.len, ?_⟩
  rw [hgl]
  walk_at "d"
  refine ⟨hlo, hL, ?_⟩
  walk_at "e"
  refine dS_seq ?_
  walk_at "e"
  refine dS_cut (fun δ' M' => δ' = [some (.d (ld ro)), some (.d (.list ((ns ++ ws.flatten).map .str))), some (.d (fr q)), some (.m a), some (.d (ld lo)), some (.d (opt (sunkOf lo q.1 q.2))), some (.d (nm (gwOf lo q))), x7] ∧ M' = mset M a (ws.map nm)) ?_ ?_
  · walk_at "d"
    unfold gwOf
    cases hsk : sunkOf lo q.1 q.2 with
    | none =>
      refine ifF rfl ?_
      walk_at "d"
      exact ⟨rfl, rfl⟩
    | some sq =>
      have hq := sunk_ok hlo.len hlo.ok hL.p0 hL.q0 hL.s1 hL.s2 hsk
      refine ifT rfl ?_
      walk_at "d"
      refine dE_lcLf (enc := Rope.d) (out := fun r => .str r.n) (pt := tooMuch sq) (xs := lo) ?_
      walk_at "d"
      refine ⟨rfl, rfl, by have := hlo.len; omega, fun r hr => ?_, fun r hr h => ?_, .inl ?_⟩
      · have hr' := hlo.ok r hr
        walk_at "d"
        refine ⟨hr', hq.q0, hq.s1.up (by decide), hq.s2.up (by decide), ?_⟩
        walk_at "d"
        refine ⟨(r.c, 1), pullOf r sq, rfl, fr_int (Int.le_of_lt hr'.c0) hr'.cS, pull_sz hr' hq, ?_⟩
        walk_at "d"
        refine ⟨?_, rfl⟩
        unfold tooMuch
        simp
      · walk_at "d"
        exact ⟨rfl, rfl⟩
      · walk_at "d"
        refine dC_tuple (.inl rfl) ?_
        walk_at "d"
        refine ⟨?_, rfl⟩
        rw [show (lo.filter (tooMuch sq)).map (fun r => PyData.str r.n) = ((lo.filter (tooMuch sq)).map Rope.n).map PyData.str by rw [List.map_map]; rfl]
        rfl
  · rintro δ' M' ⟨rfl, rfl⟩
    walk_at "d"
    refine dR_eq (d := nm (gwOf lo q)) (e := .tuple []) .of .of (Shp.shaped (n := 1) (Shp.tup fun d hd => ?_)) rfl ?_
    · obtain ⟨x, hx, rfl⟩ := List.mem_map.mp hd
      exact Shp.str (hlaylo x hx)
    rw [tup_eqv_nil]
    walk_at "d"
    refine ifB (fun h => ?_) (fun h => ?_)
    · have hg : gwOf lo q = [] := List.isEmpty_iff.mp h
      rw [waves_end hg, List.append_nil] at hw
      refine dS_ret (dE_tup (dA_cons (dE_varF rfl mset_same ?_)))
      rw [mdel_mset ha, ← hw]
      walk_at "d"
      refine dC_sortedD (.inl rfl) ?_ ?_ ?_ ?_
      · intro d hd d' hd'
        obtain ⟨x, _, rfl⟩ := List.mem_map.mp hd
        obtain ⟨y, _, rfl⟩ := List.mem_map.mp hd'
        rfl
      · refine .inr fun d hd => ?_
        obtain ⟨x, _, rfl⟩ := List.mem_map.mp hd
        exact ⟨fun e => PyData.noConfusion e, fun xs e => PyData.noConfusion e⟩
      · intro d hd
        obtain ⟨x, _, rfl⟩ := List.mem_map.mp hd
        exact Nat.zero_le _
      rw [sortN_dat]
      walk_at "d"
      refine dC_tuple (.inl rfl) ?_
      walk_at "d"
      unfold brOf at p
      rw [hw] at p ⊢
      exact p
    · have hg : gwOf lo q ≠ [] := fun e => by rw [e] at h; cases h
      have hs := left_short hg gw_sub
      walk_at "d"
      refine dE_app ?_
      walk_at "d"
      refine ⟨⟨_, mset_same⟩, ?_⟩
      walk_at "d"
      refine ⟨_, _, rfl, mset_same, by rw [List.length_map]; omega, ?_⟩
      rw [mset_mset]
      walk_at "d"
      refine dC_list (.inr (.inl rfl)) ?_
      refine dR_cat (.inl rfl) (.inl rfl) (by simp only [List.length_map, List.length_append]; have := (gw_sub (lo := lo) (q := q)).length_le; rw [List.length_map] at this; have := hlo.len; omega) ?_
      walk_at "d"
      refine ⟨(leftOf lo (gwOf lo q)).length, hs, ws ++ [gwOf lo q], some (.d (ld lo)), some (.d (opt (sunkOf lo q.1 q.2))), some (.d (nm (gwOf lo q))), x7, ?_, by rw [List.map_append]; rfl, ?_, ?_, ?_⟩
      · rw [← List.map_append, List.append_assoc, List.flatten_append]
        simp only [List.flatten_cons, List.flatten_nil, List.append_nil]
        rfl
      · rw [hw, waves_step hg, List.append_assoc, hll, List.flatten_append]
        simp
      · rw [hll, List.flatten_append]
        simp
      · rw [List.flatten_append, List.length_append]
        simp only [List.flatten_cons, List.flatten_nil, List.append_nil, List.length_cons, List.length_nil]
        rw [← hll]
        omega
end
end K2
namespace K2
open PySem L2 Sd Ma
local macro_rules | `(tactic| walk_at "d1") => `(tactic| first
  | ((with_reducible refine' dE_var ?dv ?_); (case dv => rfl))
  | with_reducible refine' dE_int ?_
  | with_reducible refine' dE_str ?_
  | with_reducible refine' dE_bl ?_
  | with_reducible refine' dE_non ?_
  | ((with_reducible refine' dE_nt ?dv ?_); (case dv => assumption))
  | with_reducible refine' dE_ref ?_
  | with_reducible refine' dE_op ?_
  | with_reducible refine' dE_un ?_
  | with_reducible refine' dE_cmp ?_
  | with_reducible refine' dE_isN ?_
  | with_reducible refine' dE_notN ?_
  | with_reducible refine' dE_call ?_
  | with_reducible refine' dE_cb ?_
  | with_reducible refine' dE_kw ?_
  | with_reducible refine' dE_tup ?_
  | with_reducible refine' dE_if ?_
  | with_reducible refine' dE_and ?_
  | with_reducible refine' dE_or ?_
  | with_reducible refine' dE_not ?_
  | with_reducible refine' dE_sl ?_
  | with_reducible refine' dO_none ?_
  | with_reducible refine' dO_some ?_
  | with_reducible refine' dA_cons ?_
  | with_reducible refine' dA_nil ?_
  | with_reducible refine' dT_B ?_
  | with_reducible refine' dT_test ?_
  | with_reducible refine' dT_and ?_
  | with_reducible refine' dT_or ?_
  | with_reducible refine' dT_not ?_
  | with_reducible refine' dT_yes ?_
  | with_reducible refine' dR_I0i ?_
  | with_reducible refine' dU_neg ?_
  | ((with_reducible refine' dR_ixT ?dv ?_); (case dv => rfl))
  | with_reducible refine' dS_seq ?_
  | with_reducible refine' dS_next ?_
  | with_reducible refine' dS_ret ?_
  | with_reducible refine' dS_drop ?_
  | with_reducible refine' dS_if ?_
  | with_reducible refine' dS_asg ?_
  | with_reducible refine' dS_par ?_
  | with_reducible refine' dG_name ?_
  | ((with_reducible refine' dG_tup ?dv ?_); (case dv => rfl); (dsimp only [List.map]))
  | with_reducible refine' dGs_cons ?_
  | with_reducible refine' dGs_nil ?_
  | with_reducible refine' dC_abs ?_
  | with_reducible refine' dC_max2 ?_
  | with_reducible refine' dC_min2 ?_
  | with_reducible refine' rtOf.of ?_
  | with_reducible refine' ex_cmp ?_
  | with_reducible refine' ex_bool ?_
  | with_reducible refine' ex_int ?_
  | with_reducible refine' ex_list ?_
  | with_reducible refine' ex_tup ?_
  | with_reducible refine' ex_d ?_
  | with_reducible refine' ex_m ?_
  | with_reducible refine' ex_par ?_
  | with_reducible refine' ex_rg1 ?_
  | with_reducible refine' ex_rg2 ?_
  | ((with_reducible refine' ex_dat ?dv ?dw ?_); (case dv => rfl); (case dw => exact Nat.le_of_ble_eq_true rfl))
  | ((fail_if_success (with_reducible show ∃ _, _)); (fail_if_success (with_reducible show _ ∧ _)); refine ⟨_, _, rfl, ?_⟩)
  | ((fail_if_success (with_reducible show ∃ _, _)); (fail_if_success (with_reducible show _ ∧ _)); refine ⟨_, rfl, ?_⟩)
  | fail)
local macro_rules | `(tactic| walk_at "d") => `(tactic| repeat' walk_at "d1")
local macro_rules | `(tactic| walk_at "e1") => `(tactic| first
  | ((with_reducible refine' dE_var ?dv ?_); (case dv => rfl))
  | with_reducible refine' dE_int ?_
  | with_reducible refine' dE_str ?_
  | with_reducible refine' dE_bl ?_
  | with_reducible refine' dE_non ?_
  | ((with_reducible refine' dE_nt ?dv ?_); (case dv => assumption))
  | with_reducible refine' dE_ref ?_
  | with_reducible refine' dE_op ?_
  | with_reducible refine' dE_un ?_
  | with_reducible refine' dE_cmp ?_
  | with_reducible refine' dE_isN ?_
  | with_reducible refine' dE_notN ?_
  | with_reducible refine' dE_call ?_
  | with_reducible refine' dE_cb ?_
  | with_reducible refine' dE_kw ?_
  | with_reducible refine' dE_tup ?_
  | with_reducible refine' dE_if ?_
  | with_reducible refine' dE_and ?_
  | with_reducible refine' dE_or ?_
  | with_reducible refine' dE_not ?_
  | with_reducible refine' dE_sl ?_
  | with_reducible refine' dO_none ?_
  | with_reducible refine' dO_some ?_
  | with_reducible refine' dA_cons ?_
  | with_reducible refine' dA_nil ?_
  | with_reducible refine' dT_B ?_
  | with_reducible refine' dT_test ?_
  | with_reducible refine' dT_and ?_
  | with_reducible refine' dT_or ?_
  | with_reducible refine' dT_not ?_
  | with_reducible refine' dT_yes ?_
  | with_reducible refine' dR_I0i ?_
  | with_reducible refine' dU_neg ?_
  | ((with_reducible refine' dR_ixT ?dv ?_); (case dv => rfl))
  | with_reducible refine' dS_next ?_
  | with_reducible refine' dS_ret ?_
  | with_reducible refine' dS_drop ?_
  | with_reducible refine' dS_if ?_
  | with_reducible refine' dS_asg ?_
  | with_reducible refine' dS_par ?_
  | with_reducible refine' dG_name ?_
  | ((with_reducible refine' dG_tup ?dv ?_); (case dv => rfl); (dsimp only [List.map]))
  | with_reducible refine' dGs_cons ?_
  | with_reducible refine' dGs_nil ?_
  | with_reducible refine' dC_abs ?_
  | with_reducible refine' dC_max2 ?_
  | with_reducible refine' dC_min2 ?_
  | with_reducible refine' rtOf.of ?_
  | with_reducible refine' ex_cmp ?_
  | with_reducible refine' ex_bool ?_
  | with_reducible refine' ex_int ?_
  | with_reducible refine' ex_list ?_
  | with_reducible refine' ex_tup ?_
  | with_reducible refine' ex_d ?_
  | with_reducible refine' ex_m ?_
  | with_reducible refine' ex_par ?_
  | with_reducible refine' ex_rg1 ?_
  | with_reducible refine' ex_rg2 ?_
  | ((with_reducible refine' ex_dat ?dv ?dw ?_); (case dv => rfl); (case dw => exact Nat.le_of_ble_eq_true rfl))
  | ((fail_if_success (with_reducible show ∃ _, _)); (fail_if_success (with_reducible show _ ∧ _)); refine ⟨_, _, rfl, ?_⟩)
  | ((fail_if_success (with_reducible show ∃ _, _)); (fail_if_success (with_reducible show _ ∧ _)); refine ⟨_, rfl, ?_⟩)
  | fail)
local macro_rules | `(tactic| walk_at "e") => `(tactic| repeat' walk_at "e1")
def endOf (r : Rope) : Q := low (r.a * r.b + r.c) r.b
/-- a load of the law's own -/
structure Mk (q : Q) : Prop extends Red q where
  t : q.1 ≤ 10000000000
  u : q.2 ≤ 100
theorem Mk.ok {q : Q} (h : Mk q) : LOk q := ⟨h.toRed, (sz_lt (n := 60) h.p0 (by have := h.t; omega)).up (by decide), (sz_lt (n := 60) (Int.le_of_lt h.q0) (by have := h.u; omega)).up (by decide)⟩
structure En (q : Q) : Prop extends Red q where
  t : q.1 ≤ 1100000
  u : q.2 ≤ 100
theorem end_en {r : Rope} (h : r.Fine) : En (endOf r) := by
  have hb : 0 < r.b := by have := h.b0; omega
  have hab : 0 ≤ r.a * r.b := Int.mul_nonneg h.a0 (by omega)
  have hab2 : r.a * r.b ≤ 1000 * 100 := Int.mul_le_mul h.a1 h.b1 (by omega) (by omega)
  have ht : 0 ≤ r.a * r.b + r.c := by have := h.c0; omega
  have hl := low_le ht hb
  exact ⟨low_red ht hb, by have := h.c1; show (low _ _).1 ≤ _; omega, by have := h.b1; show (low _ _).2 ≤ _; omega⟩
theorem En.fr {q : Q} (h : En q) : Fr 3000 q := ⟨h.toRed, (sz_lt (n := 60) h.p0 (by have := h.t; omega)).up (by decide), (sz_lt (n := 60) (Int.le_of_lt h.q0) (by have := h.u; omega)).up (by decide)⟩
theorem En.qok {q : Q} (h : En q) : QOk q := ⟨h.toRed, (sz_lt (n := 60) h.p0 (by have := h.t; omega)).up (by decide), (sz_lt (n := 60) (Int.le_of_lt h.q0) (by have := h.u; omega)).up (by decide)⟩
theorem f1_le {r : Rope} {q : Q} (h : r.Fine) (hq : En q) : 0 ≤ f1 q (pr r) ∧ f1 q (pr r) ≤ 110000000 := by
  have hb : 0 < r.b := by have := h.b0; omega
  refine ⟨f1_nn hb, ?_⟩
  unfold f1
  have h1 : 0 ≤ r.a * q.2 := Int.mul_nonneg h.a0 (Int.le_of_lt hq.q0)
  have h2 : max 0 (q.1 - r.a * q.2) ≤ 1100000 := by have := hq.t; omega
  exact Int.le_trans (Int.mul_le_mul h.b1 h2 (by omega) (by omega)) (by decide)
theorem low_mk {X : Int} {q : Q} (h0 : 0 ≤ X) (h1 : X ≤ 10000000000) (hq : En q) : Mk (low X q.2) := by
  have hl := low_le h0 hq.q0
  exact ⟨low_red h0 hq.q0, by omega, by have := hq.u; omega⟩
section
variable {P : Program} {w : World} {K : PySem.W.Frag} {mg : Str → Option Value} {base : Heap} {f : Addr} {fd : FuncData}
def S_end : SpD := fun rs M P => ∃ r : Rope, rs = [.d r.d] ∧ r.Fine ∧ P (.d (fr (endOf r))) M
def S_marks : SpD := fun rs M P => ∃ ro : List Rope, rs = [.d (ld ro)] ∧ Bun ro ∧ ∀ qs : List Q, qs.length = ro.length → (∀ q ∈ qs, Mk q) → P (.d (.list (qs.map fr))) M
abbrev s_law_end : Stmt := topS 60
theorem sc_law_end : FnScope ["rope"] ["rope"] (defScope s_law_end) := ⟨rfl, rfl, rfl, by decide +kernel, rfl, by decide +kernel, by decide +kernel⟩
theorem ok_law_end (F : Fun K "_law_end" "_law_end" s_law_end f fd) (c_law_lowest : Has P w K mg base 1 "_law_lowest" ["top", "bottom"] S_lowest) : FnOk P w K mg base CX0 2 f fd ["rope"] (spOf K S_end) := by
  refine ok_of F sc_law_end (fun rs M P h => by obtain ⟨a, rfl, _⟩ := h; rfl) fun cdv A outer s H E hr => ⟨_, (pss_one (ps_ret (pe_callH' c_law_lowest (hr.mono (by first | decide | omega)) rfl (pa_cons (pe_op op_add (pe_op op_mulW (pe_ix (kix_tup K) (pv 0) pe_int (fun _ _ => rfl)) (pe_ix (kix_tup K) (pv 0) pe_int (fun _ _ => rfl))) (pe_ix (kix_tup K) (pv 0) pe_int (fun _ _ => rfl))) (pa_cons (pe_ix (kix_tup K) (pv 0) pe_int (fun _ _ => rfl)) pa_nil))))), fun rs M P h => ?_⟩
  obtain ⟨r, rfl, h, p⟩ := h
  have ho := fine_ok h
  walk_at "d"
  refine dR_Ii (ho.aS.mulOk ho.bS (by decide) (by decide) (by decide)) ?_
  walk_at "d"
  exact ⟨by have := Int.mul_nonneg ho.a0 (Int.le_of_lt ho.b0); have := ho.c0; omega, ho.b0, ho.bS.up (by decide), rtOf.of p⟩
abbrev s_law_marks : Stmt := topS 61
theorem sc_law_marks : FnScope ["bundle", "found", "rope", "end", "total", "one"] ["bundle"] (defScope s_law_marks) := ⟨rfl, rfl, rfl, by decide +kernel, rfl, by decide +kernel, by decide +kernel⟩
theorem ok_law_marks (F : Fun K "_law_marks" "_law_marks" s_law_marks f fd) (c_law_end : Has P w K mg base 2 "_law_end" ["rope"] S_end) (c_law_less : Has P w K mg base 1 "_law_less" ["one", "other"] S_less) (c_law_plus : Has P w K mg base 2 "_law_plus" ["one", "other"] S_plus) (c_law_pull : Has P w K mg base 2 "_law_pull" ["rope", "sunk"] S_pull) : FnOk P w K mg base CX0 3 f fd ["bundle"] (spOf K S_marks) := by
  refine ok_of F sc_law_marks (fun rs M P h => by obtain ⟨a, rfl, _⟩ := h; rfl) fun cdv A outer s H E hr => ⟨_, (pss_cons (ps_set (i := 1) sc_law_marks.nd rfl (Or.inl rfl) (pe_lst pa_nil))
      (pss_cons (ps_for PassesOwn.never rfl (kpi_list K (pv 0)) (pg_name (i := 2) sc_law_marks.nd rfl (Or.inl rfl)) (pss_cons (ps_set (i := 3) sc_law_marks.nd rfl (Or.inl rfl) (pe_callH' c_law_end (hr.mono (by first | decide | omega)) rfl (pa_cons (pv 2) pa_nil)))
      (pss_cons (ps_set (i := 4) sc_law_marks.nd rfl (Or.inl rfl) (pe_tup (pa_cons pe_int (pa_cons pe_int pa_nil))))
      (pss_cons (ps_for PassesOwn.never rfl (kpi_list K (pv 0)) (pg_name (i := 5) sc_law_marks.nd rfl (Or.inl rfl)) (pss_one (ps_if (pt_not (pt_val (pe_callH' c_law_less (hr.mono (by first | decide | omega)) rfl (pa_cons (pe_callH' c_law_end (hr.mono (by first | decide | omega)) rfl (pa_cons (pv 5) pa_nil)) (pa_cons (pv 3) pa_nil))))) (pss_one (ps_set (i := 4) sc_law_marks.nd rfl (Or.inl rfl) (pe_callH' c_law_plus (hr.mono (by first | decide | omega)) rfl (pa_cons (pv 4) (pa_cons (pe_callH' c_law_pull (hr.mono (by first | decide | omega)) rfl (pa_cons (pv 5) (pa_cons (pv 3) pa_nil))) pa_nil))))) pss_nil)))
      (pss_one (ps_expr (kpe_bm K (pe_bm PySem.F.plainAttrs_list PySem.F.slot_list_append PySem.F.type_list_append mt_append (pv 1) (pa_cons (pv 4) pa_nil)))))))))
      (pss_one (ps_ret (pv 1))))), fun rs M P h => ?_⟩
  obtain ⟨ro, rfl, hro, p⟩ := h
  walk_at "d"
  refine dE_lstM ?_
  walk_at "d"
  intro a ha
  walk_at "d"
  refine dS_forL ?_
  walk_at "d"
  refine ⟨fun i δ M' => ∃ (qs : List Q) (x2 x3 x4 x5 : Option SV), δ = [some (.d (ld ro)), some (.m a), x2, x3, x4, x5] ∧ M' = mset M a (qs.map fr) ∧ qs.length = i ∧ ∀ q ∈ qs, Mk q, ⟨[], _, _, _, _, rfl, rfl, rfl, fun q hq => by cases hq⟩, fun i x δ M' hx hI => ?_, fun δ M' hI => ?_⟩
  · obtain ⟨qs, x2, x3, x4, x5, rfl, rfl, hlen, hmk⟩ := hI
    obtain ⟨r, hr1, rfl⟩ := getElem?_map_some hx
    have hrm := List.mem_of_getElem? hr1
    have hil : i < ro.length := (List.getElem?_eq_some_iff.mp hr1).1
    have hfr := hro.fine r hrm
    have he := end_en hfr
    have h6 := hro.len
    walk_at "d"
    refine ⟨hfr, ?_⟩
    generalize endOf r = e at he
    walk_at "d"
    refine dS_forL ?_
    walk_at "d"
    refine ⟨fun j δ M' => ∃ (X : Int) (y5 : Option SV), δ = [some (.d (ld ro)), some (.m a), some (.d r.d), some (.d (fr e)), some (.d (fr (low X e.2))), y5] ∧ M' = mset M a (qs.map fr) ∧ 0 ≤ X ∧ X ≤ (j : Int) * 110000000, ⟨0, x5, by rw [low_zero he.q0]; rfl, rfl, by decide, by decide⟩, fun j y δ M' hy hJ => ?_, fun δ M' hJ => ?_⟩
    · obtain ⟨X, y5, rfl, rfl, hX0, hX1⟩ := hJ
      obtain ⟨r2, hr2, rfl⟩ := getElem?_map_some hy
      have hfr2 := hro.fine r2 (List.mem_of_getElem? hr2)
      have hjl : j < ro.length := (List.getElem?_eq_some_iff.mp hr2).1
      have ho2 := fine_ok hfr2
      obtain ⟨f0, f1'⟩ := f1_le hfr2 he
      have hmX := low_mk hX0 (by omega) he
      have hmf := low_mk f0 (by omega) he
      walk_at "d"
      refine ⟨hfr2, ?_⟩
      walk_at "d"
      refine ⟨(end_en hfr2).fr, he.fr, ?_⟩
      walk_at "d"
      refine ifB (fun h => ?_) (fun h => ?_)
      · walk_at "d"
        refine ⟨ho2, he.q0, he.qok.s1.up (by decide), he.qok.s2.up (by decide), ?_⟩
        walk_at "d"
        refine ⟨⟨hmX.toRed, hmX.ok.s1.up (by decide), hmX.ok.s2.up (by decide)⟩, by rw [pull_low ho2.b0 he.q0]; exact ⟨hmf.toRed, hmf.ok.s1.up (by decide), hmf.ok.s2.up (by decide)⟩, ?_⟩
        rw [pull_low ho2.b0 he.q0, low_plus hX0 f0 he.q0]
        walk_at "d"
        exact ⟨X + f1 e (pr r2), some (.d r2.d), rfl, rfl, by omega, by rw [Int.natCast_succ, Int.add_mul]; omega⟩
      · walk_at "d"
        exact ⟨X, some (.d r2.d), rfl, rfl, hX0, by rw [Int.natCast_succ, Int.add_mul]; omega⟩
    · obtain ⟨X, y5, rfl, rfl, hX0, hX1⟩ := hJ
      rw [List.length_map] at hX1
      walk_at "d"
      refine dE_app ?_
      walk_at "d"
      refine ⟨⟨_, mset_same⟩, ?_⟩
      walk_at "d"
      refine ⟨_, _, rfl, mset_same, by rw [List.length_map]; omega, ?_⟩
      rw [mset_mset]
      refine ⟨qs ++ [low X e.2], _, _, _, _, rfl, by rw [List.map_append]; rfl, by rw [List.length_append, hlen]; rfl, fun q hq => ?_⟩
      rcases List.mem_append.mp hq with h | h
      · exact hmk q h
      · rw [List.mem_singleton.mp h]
        exact low_mk hX0 (by omega) he
  · obtain ⟨qs, x2, x3, x4, x5, rfl, rfl, hlen, hmk⟩ := hI
    rw [List.length_map] at hlen
    refine dS_ret (dE_varF rfl mset_same ?_)
    rw [mdel_mset ha]
    exact rtOf.of (p qs hlen hmk)
end
end K2
namespace K2
open PySem L2 Sd Ma
/-- ropes of a bundle: sound, names unlike -/
structure Nice (lo : List Rope) : Prop where
  a : ∀ r ∈ lo, 0 ≤ r.a
  b : ∀ r ∈ lo, 0 < r.b
  c : ∀ r ∈ lo, 0 < r.c
  nd : (lo.map Rope.n).Nodup
theorem Nice.pos {lo : List Rope} (h : Nice lo) : Ma.Pos lo := ⟨h.a, h.b⟩
theorem Nice.sub {lo lo' : List Rope} (h : Nice lo) (s : lo'.Sublist lo) : Nice lo' := ⟨fun r hr => h.a r (s.subset hr), fun r hr => h.b r (s.subset hr), fun r hr => h.c r (s.subset hr), (s.map Rope.n).nodup h.nd⟩
theorem names_inj : ∀ {lo : List Rope}, (lo.map Rope.n).Nodup → ∀ {r s : Rope}, r ∈ lo → s ∈ lo → r.n = s.n → r = s
  | [], _, r, s, hr, _, _ => by cases hr
  | x :: lo, h, r, s, hr, hs, e => by
    rw [List.map_cons, List.nodup_cons] at h
    rcases List.mem_cons.mp hr with e1 | hr'
    · rcases List.mem_cons.mp hs with e2 | hs'
      · rw [e1, e2]
      · exact absurd (List.mem_map.mpr ⟨s, hs', by rw [← e, e1]⟩) h.1
    · rcases List.mem_cons.mp hs with e2 | hs'
      · exact absurd (List.mem_map.mpr ⟨r, hr', by rw [e, e2]⟩) h.1
      · exact names_inj h.2 hr' hs' e
theorem Nice.inj {lo : List Rope} (h : Nice lo) {r s : Rope} (hr : r ∈ lo) (hs : s ∈ lo) (e : r.n = s.n) : r = s := names_inj h.nd hr hs e
theorem left_sub (lo : List Rope) (ns : List Str) : (leftOf lo ns).Sublist lo := List.filter_sublist
/-- the broken ones: of the bundle, unlike, in order -/
structure Brk (ro : List Rope) (ns : List Str) : Prop where
  sub : ∀ x ∈ ns, x ∈ ro.map Rope.n
  nd : ns.Nodup
theorem waves_nodup {q : Q} : ∀ (n : Nat) (lo : List Rope), lo.length ≤ n → (lo.map Rope.n).Nodup → (wavesOf lo q).flatten.Nodup
  | 0, lo, h, _ => by
    have : lo = [] := List.length_eq_zero_iff.mp (by omega)
    subst this
    rw [waves_end gw_nil]; simp
  | n + 1, lo, h, hn => by
    by_cases hg : gwOf lo q = []
    · rw [waves_end hg]; simp
    · rw [waves_step hg, List.flatten_cons, List.nodup_append]
      have hs := left_short hg gw_sub
      refine ⟨gw_sub.nodup hn, waves_nodup n _ (by omega) (((left_sub _ _).map Rope.n).nodup hn), fun a ha b hb e => ?_⟩
      subst e
      obtain ⟨r, hr, en⟩ := List.mem_map.mp (mem_waves _ _ (Nat.le_refl _) a hb)
      have := (List.mem_filter.mp hr).2
      rw [en, List.contains_iff_mem.mpr ha] at this
      cases this
theorem leN_all : PySem.W.TotalLe leN := by
  have h := PySem.W.sortLe_total (α := Str) (PyProof.Rows.listOrd PyProof.Rows.itemOrd) false fun x => PySem.W.keyToks (.str x)
  exact ⟨h.trans, h.total⟩
theorem leN_anti {a b : Str} (h1 : leN a b = true) (h2 : leN b a = true) : a = b := by
  have e : ∀ x y : Str, leN x y = decide (x.cps.toList ≤ y.cps.toList) := fun x y => congrFun (congrFun (PySem.W.dataLe_str (β := Str) id) x) y
  rw [e] at h1 h2
  exact PySem.W.str_of_cps (List.le_antisymm (of_decide_eq_true h1) (of_decide_eq_true h2))
theorem sortN_sorted (ns : List Str) : (sortN ns).Pairwise fun a b => leN a b = true := by
  unfold sortN
  exact List.pairwise_mergeSort leN_all.trans (fun a b => by rcases leN_all.total a b with h | h <;> simp [h]) ns
theorem sortN_same {a b : List Str} (h : a.Perm b) : sortN a = sortN b :=
  List.Perm.eq_of_pairwise (fun x y _ _ h1 h2 => leN_anti h1 h2) (sortN_sorted a) (sortN_sorted b) (((List.mergeSort_perm a leN).trans h).trans (List.mergeSort_perm b leN).symm)
theorem sortN_idem {a : List Str} : sortN (sortN a) = sortN a := sortN_same (List.mergeSort_perm a leN)
theorem br_sorted {ro : List Rope} {ns : List Str} {q : Q} : sortN (brOf ro ns q) = brOf ro ns q := sortN_idem
theorem Brk.br {ro : List Rope} {ns : List Str} {q : Q} (hr : (ro.map Rope.n).Nodup) (h : Brk ro ns) : Brk ro (brOf ro ns q) := by
  refine ⟨fun x hx => ?_, ?_⟩
  · rcases mem_br hx with h1 | h1
    · exact h.sub x h1
    · exact h1
  · unfold brOf sortN
    refine (List.mergeSort_perm _ _).nodup_iff.mpr ?_
    rw [List.nodup_append]
    refine ⟨h.nd, waves_nodup _ _ (Nat.le_refl _) (((left_sub _ _).map Rope.n).nodup hr), fun a ha b hb e => ?_⟩
    subst e
    obtain ⟨r, hr, en⟩ := List.mem_map.mp (mem_waves _ _ (Nat.le_refl _) a hb)
    have := (List.mem_filter.mp hr).2
    rw [en, List.contains_iff_mem.mpr ha] at this
    cases this
end K2
namespace K2
open PySem L2 Sd Ma
local macro_rules | `(tactic| walk_at "d1") => `(tactic| first
  | ((with_reducible refine' dE_var ?dv ?_); (case dv => rfl))
  | with_reducible refine' dE_int ?_
  | with_reducible refine' dE_str ?_
  | with_reducible refine' dE_bl ?_
  | with_reducible refine' dE_non ?_
  | ((with_reducible refine' dE_nt ?dv ?_); (case dv => assumption))
  | with_reducible refine' dE_ref ?_
  | with_reducible refine' dE_op ?_
  | with_reducible refine' dE_un ?_
  | with_reducible refine' dE_cmp ?_
  | with_reducible refine' dE_isN ?_
  | with_reducible refine' dE_notN ?_
  | with_reducible refine' dE_call ?_
  | with_reducible refine' dE_cb ?_
  | with_reducible refine' dE_kw ?_
  | with_reducible refine' dE_tup ?_
  | with_reducible refine' dE_if ?_
  | with_reducible refine' dE_and ?_
  | with_reducible refine' dE_or ?_
  | with_reducible refine' dE_not ?_
  | with_reducible refine' dE_sl ?_
  | with_reducible refine' dO_none ?_
  | with_reducible refine' dO_some ?_
  | with_reducible refine' dA_cons ?_
  | with_reducible refine' dA_nil ?_
  | with_reducible refine' dT_B ?_
  | with_reducible refine' dT_test ?_
  | with_reducible refine' dT_and ?_
  | with_reducible refine' dT_or ?_
  | with_reducible refine' dT_not ?_
  | with_reducible refine' dT_yes ?_
  | with_reducible refine' dR_I0i ?_
  | with_reducible refine' dU_neg ?_
  | ((with_reducible refine' dR_ixT ?dv ?_); (case dv => rfl))
  | with_reducible refine' dS_seq ?_
  | with_reducible refine' dS_next ?_
  | with_reducible refine' dS_ret ?_
  | with_reducible refine' dS_drop ?_
  | with_reducible refine' dS_if ?_
  | with_reducible refine' dS_asg ?_
  | with_reducible refine' dS_par ?_
  | with_reducible refine' dG_name ?_
  | ((with_reducible refine' dG_tup ?dv ?_); (case dv => rfl); (dsimp only [List.map]))
  | with_reducible refine' dGs_cons ?_
  | with_reducible refine' dGs_nil ?_
  | with_reducible refine' dC_abs ?_
  | with_reducible refine' dC_max2 ?_
  | with_reducible refine' dC_min2 ?_
  | with_reducible refine' rtOf.of ?_
  | with_reducible refine' ex_cmp ?_
  | with_reducible refine' ex_bool ?_
  | with_reducible refine' ex_int ?_
  | with_reducible refine' ex_list ?_
  | with_reducible refine' ex_tup ?_
  | with_reducible refine' ex_d ?_
  | with_reducible refine' ex_m ?_
  | with_reducible refine' ex_par ?_
  | with_reducible refine' ex_rg1 ?_
  | with_reducible refine' ex_rg2 ?_
  | ((with_reducible refine' ex_dat ?dv ?dw ?_); (case dv => rfl); (case dw => exact Nat.le_of_ble_eq_true rfl))
  | ((fail_if_success (with_reducible show ∃ _, _)); (fail_if_success (with_reducible show _ ∧ _)); refine ⟨_, _, rfl, ?_⟩)
  | ((fail_if_success (with_reducible show ∃ _, _)); (fail_if_success (with_reducible show _ ∧ _)); refine ⟨_, rfl, ?_⟩)
  | fail)
local macro_rules | `(tactic| walk_at "d") => `(tactic| repeat' walk_at "d1")
local macro_rules | `(tactic| walk_at "e1") => `(tactic| first
  | ((with_reducible refine' dE_var ?dv ?_); (case dv => rfl))
  | with_reducible refine' dE_int ?_
  | with_reducible refine' dE_str ?_
  | with_reducible refine' dE_bl ?_
  | with_reducible refine' dE_non ?_
  | ((with_reducible refine' dE_nt ?dv ?_); (case dv => assumption))
  | with_reducible refine' dE_ref ?_
  | with_reducible refine' dE_op ?_
  | with_reducible refine' dE_un ?_
  | with_reducible refine' dE_cmp ?_
  | with_reducible refine' dE_isN ?_
  | with_reducible refine' dE_notN ?_
  | with_reducible refine' dE_call ?_
  | with_reducible refine' dE_cb ?_
  | with_reducible refine' dE_kw ?_
  | with_reducible refine' dE_tup ?_
  | with_reducible refine' dE_if ?_
  | with_reducible refine' dE_and ?_
  | with_reducible refine' dE_or ?_
  | with_reducible refine' dE_not ?_
  | with_reducible refine' dE_sl ?_
  | with_reducible refine' dO_none ?_
  | with_reducible refine' dO_some ?_
  | with_reducible refine' dA_cons ?_
  | with_reducible refine' dA_nil ?_
  | with_reducible refine' dT_B ?_
  | with_reducible refine' dT_test ?_
  | with_reducible refine' dT_and ?_
  | with_reducible refine' dT_or ?_
  | with_reducible refine' dT_not ?_
  | with_reducible refine' dT_yes ?_
  | with_reducible refine' dR_I0i ?_
  | with_reducible refine' dU_neg ?_
  | ((with_reducible refine' dR_ixT ?dv ?_); (case dv => rfl))
  | with_reducible refine' dS_next ?_
  | with_reducible refine' dS_ret ?_
  | with_reducible refine' dS_drop ?_
  | with_reducible refine' dS_if ?_
  | with_reducible refine' dS_asg ?_
  | with_reducible refine' dS_par ?_
  | with_reducible refine' dG_name ?_
  | ((with_reducible refine' dG_tup ?dv ?_); (case dv => rfl); (dsimp only [List.map]))
  | with_reducible refine' dGs_cons ?_
  | with_reducible refine' dGs_nil ?_
  | with_reducible refine' dC_abs ?_
  | with_reducible refine' dC_max2 ?_
  | with_reducible refine' dC_min2 ?_
  | with_reducible refine' rtOf.of ?_
  | with_reducible refine' ex_cmp ?_
  | with_reducible refine' ex_bool ?_
  | with_reducible refine' ex_int ?_
  | with_reducible refine' ex_list ?_
  | with_reducible refine' ex_tup ?_
  | with_reducible refine' ex_d ?_
  | with_reducible refine' ex_m ?_
  | with_reducible refine' ex_par ?_
  | with_reducible refine' ex_rg1 ?_
  | with_reducible refine' ex_rg2 ?_
  | ((with_reducible refine' ex_dat ?dv ?dw ?_); (case dv => rfl); (case dw => exact Nat.le_of_ble_eq_true rfl))
  | ((fail_if_success (with_reducible show ∃ _, _)); (fail_if_success (with_reducible show _ ∧ _)); refine ⟨_, _, rfl, ?_⟩)
  | ((fail_if_success (with_reducible show ∃ _, _)); (fail_if_success (with_reducible show _ ∧ _)); refine ⟨_, rfl, ?_⟩)
  | fail)
local macro_rules | `(tactic| walk_at "e") => `(tactic| repeat' walk_at "e1")
theorem atI_zero {α : Type} {x : α} {xs : List α} : atI (x :: xs) 0 = some x := by
  unfold atI ixN
  rw [if_pos (Int.le_refl 0), if_pos (by rw [List.length_cons]; omega)]
  rfl
section
variable {P : Program} {w : World} {K : PySem.W.Frag} {mg : Str → Option Value} {base : Heap} {f : Addr} {fd : FuncData}
theorem LOk.fr {q : Q} (h : LOk q) : Fr 3000 q := ⟨h.toRed, h.s1.up (by decide), h.s2.up (by decide)⟩
end
end K2
namespace K2
open PySem L2 Sd Ma
local macro_rules | `(tactic| walk_at "d1") => `(tactic| first
  | ((with_reducible refine' dE_var ?dv ?_); (case dv => rfl))
  | with_reducible refine' dE_int ?_
  | with_reducible refine' dE_str ?_
  | with_reducible refine' dE_bl ?_
  | with_reducible refine' dE_non ?_
  | ((with_reducible refine' dE_nt ?dv ?_); (case dv => assumption))
  | with_reducible refine' dE_ref ?_
  | with_reducible refine' dE_op ?_
  | with_reducible refine' dE_un ?_
  | with_reducible refine' dE_cmp ?_
  | with_reducible refine' dE_isN ?_
  | with_reducible refine' dE_notN ?_
  | with_reducible refine' dE_call ?_
  | with_reducible refine' dE_cb ?_
  | with_reducible refine' dE_kw ?_
  | with_reducible refine' dE_tup ?_
  | with_reducible refine' dE_if ?_
  | with_reducible refine' dE_and ?_
  | with_reducible refine' dE_or ?_
  | with_reducible refine' dE_not ?_
  | with_reducible refine' dE_sl ?_
  | with_reducible refine' dO_none ?_
  | with_reducible refine' dO_some ?_
  | with_reducible refine' dA_cons ?_
  | with_reducible refine' dA_nil ?_
  | with_reducible refine' dT_B ?_
  | with_reducible refine' dT_test ?_
  | with_reducible refine' dT_and ?_
  | with_reducible refine' dT_or ?_
  | with_reducible refine' dT_not ?_
  | with_reducible refine' dT_yes ?_
  | with_reducible refine' dR_I0i ?_
  | with_reducible refine' dU_neg ?_
  | ((with_reducible refine' dR_ixT ?dv ?_); (case dv => rfl))
  | with_reducible refine' dS_seq ?_
  | with_reducible refine' dS_next ?_
  | with_reducible refine' dS_ret ?_
  | with_reducible refine' dS_drop ?_
  | with_reducible refine' dS_if ?_
  | with_reducible refine' dS_asg ?_
  | with_reducible refine' dS_par ?_
  | with_reducible refine' dG_name ?_
  | ((with_reducible refine' dG_tup ?dv ?_); (case dv => rfl); (dsimp only [List.map]))
  | with_reducible refine' dGs_cons ?_
  | with_reducible refine' dGs_nil ?_
  | with_reducible refine' dC_abs ?_
  | with_reducible refine' dC_max2 ?_
  | with_reducible refine' dC_min2 ?_
  | with_reducible refine' rtOf.of ?_
  | with_reducible refine' ex_cmp ?_
  | with_reducible refine' ex_bool ?_
  | with_reducible refine' ex_int ?_
  | with_reducible refine' ex_list ?_
  | with_reducible refine' ex_tup ?_
  | with_reducible refine' ex_d ?_
  | with_reducible refine' ex_m ?_
  | with_reducible refine' ex_par ?_
  | with_reducible refine' ex_rg1 ?_
  | with_reducible refine' ex_rg2 ?_
  | ((with_reducible refine' ex_dat ?dv ?dw ?_); (case dv => rfl); (case dw => exact Nat.le_of_ble_eq_true rfl))
  | ((fail_if_success (with_reducible show ∃ _, _)); (fail_if_success (with_reducible show _ ∧ _)); refine ⟨_, _, rfl, ?_⟩)
  | ((fail_if_success (with_reducible show ∃ _, _)); (fail_if_success (with_reducible show _ ∧ _)); refine ⟨_, rfl, ?_⟩)
  | fail)
local macro_rules | `(tactic| walk_at "d") => `(tactic| repeat' walk_at "d1")
local macro_rules | `(tactic| walk_at "e1") => `(tactic| first
  | ((with_reducible refine' dE_var ?dv ?_); (case dv => rfl))
  | with_reducible refine' dE_int ?_
  | with_reducible refine' dE_str ?_
  | with_reducible refine' dE_bl ?_
  | with_reducible refine' dE_non ?_
  | ((with_reducible refine' dE_nt ?dv ?_); (case dv => assumption))
  | with_reducible refine' dE_ref ?_
  | with_reducible refine' dE_op ?_
  | with_reducible refine' dE_un ?_
  | with_reducible refine' dE_cmp ?_
  | with_reducible refine' dE_isN ?_
  | with_reducible refine' dE_notN ?_
  | with_reducible refine' dE_call ?_
  | with_reducible refine' dE_cb ?_
  | with_reducible refine' dE_kw ?_
  | with_reducible refine' dE_tup ?_
  | with_reducible refine' dE_if ?_
  | with_reducible refine' dE_and ?_
  | with_reducible refine' dE_or ?_
  | with_reducible refine' dE_not ?_
  | with_reducible refine' dE_sl ?_
  | with_reducible refine' dO_none ?_
  | with_reducible refine' dO_some ?_
  | with_reducible refine' dA_cons ?_
  | with_reducible refine' dA_nil ?_
  | with_reducible refine' dT_B ?_
  | with_reducible refine' dT_test ?_
  | with_reducible refine' dT_and ?_
  | with_reducible refine' dT_or ?_
  | with_reducible refine' dT_not ?_
  | with_reducible refine' dT_yes ?_
  | with_reducible refine' dR_I0i ?_
  | with_reducible refine' dU_neg ?_
  | ((with_reducible refine' dR_ixT ?dv ?_); (case dv => rfl))
  | with_reducible refine' dS_next ?_
  | with_reducible refine' dS_ret ?_
  | with_reducible refine' dS_drop ?_
  | with_reducible refine' dS_if ?_
  | with_reducible refine' dS_asg ?_
  | with_reducible refine' dS_par ?_
  | with_reducible refine' dG_name ?_
  | ((with_reducible refine' dG_tup ?dv ?_); (case dv => rfl); (dsimp only [List.map]))
  | with_reducible refine' dGs_cons ?_
  | with_reducible refine' dGs_nil ?_
  | with_reducible refine' dC_abs ?_
  | with_reducible refine' dC_max2 ?_
  | with_reducible refine' dC_min2 ?_
  | with_reducible refine' rtOf.of ?_
  | with_reducible refine' ex_cmp ?_
  | with_reducible refine' ex_bool ?_
  | with_reducible refine' ex_int ?_
  | with_reducible refine' ex_list ?_
  | with_reducible refine' ex_tup ?_
  | with_reducible refine' ex_d ?_
  | with_reducible refine' ex_m ?_
  | with_reducible refine' ex_par ?_
  | with_reducible refine' ex_rg1 ?_
  | with_reducible refine' ex_rg2 ?_
  | ((with_reducible refine' ex_dat ?dv ?dw ?_); (case dv => rfl); (case dw => exact Nat.le_of_ble_eq_true rfl))
  | ((fail_if_success (with_reducible show ∃ _, _)); (fail_if_success (with_reducible show _ ∧ _)); refine ⟨_, _, rfl, ?_⟩)
  | ((fail_if_success (with_reducible show ∃ _, _)); (fail_if_success (with_reducible show _ ∧ _)); refine ⟨_, rfl, ?_⟩)
  | fail)
local macro_rules | `(tactic| walk_at "e") => `(tactic| repeat' walk_at "e1")
/-- x is worth more than y -/
theorem fr_eqv {x y : Q} : PyData.eqv (fr x) (fr y) = decide (x = y) := by
  show (x.1 == y.1 && (x.2 == y.2 && true)) = _
  rw [Bool.and_true, Bool.eq_iff_iff, Bool.and_eq_true, beq_iff_eq, beq_iff_eq, decide_eq_true_iff, Prod.ext_iff]
theorem nodup_len {α : Type} [DecidableEq α] : ∀ (l D : List α), l.Nodup → (∀ x ∈ l, x ∈ D) → l.length ≤ D.length
  | [], _, _, _ => Nat.zero_le _
  | x :: l, D, nd, h => by
    have hx := h x List.mem_cons_self
    have nd' := List.nodup_cons.mp nd
    have := nodup_len l (D.erase x) nd'.2 fun y hy => (List.mem_erase_of_ne (fun e : y = x => nd'.1 (by rw [← e]; exact hy))).mpr (h y (List.mem_cons_of_mem _ hy))
    rw [List.length_erase_of_mem hx] at this
    have := List.length_pos_of_mem hx
    rw [List.length_cons]
    omega
end K2
namespace K2
open PySem L2 Sd Ma
local macro_rules | `(tactic| walk_at "d1") => `(tactic| first
  | ((with_reducible refine' dE_var ?dv ?_); (case dv => rfl))
  | with_reducible refine' dE_int ?_
  | with_reducible refine' dE_str ?_
  | with_reducible refine' dE_bl ?_
  | with_reducible refine' dE_non ?_
  | ((with_reducible refine' dE_nt ?dv ?_); (case dv => assumption))
  | with_reducible refine' dE_ref ?_
  | with_reducible refine' dE_op ?_
  | with_reducible refine' dE_un ?_
  | with_reducible refine' dE_cmp ?_
  | with_reducible refine' dE_isN ?_
  | with_reducible refine' dE_notN ?_
  | with_reducible refine' dE_call ?_
  | with_reducible refine' dE_cb ?_
  | with_reducible refine' dE_kw ?_
  | with_reducible refine' dE_tup ?_
  | with_reducible refine' dE_if ?_
  | with_reducible refine' dE_and ?_
  | with_reducible refine' dE_or ?_
  | with_reducible refine' dE_not ?_
  | with_reducible refine' dE_sl ?_
  | with_reducible refine' dO_none ?_
  | with_reducible refine' dO_some ?_
  | with_reducible refine' dA_cons ?_
  | with_reducible refine' dA_nil ?_
  | with_reducible refine' dT_B ?_
  | with_reducible refine' dT_test ?_
  | with_reducible refine' dT_and ?_
  | with_reducible refine' dT_or ?_
  | with_reducible refine' dT_not ?_
  | with_reducible refine' dT_yes ?_
  | with_reducible refine' dR_I0i ?_
  | with_reducible refine' dU_neg ?_
  | ((with_reducible refine' dR_ixT ?dv ?_); (case dv => rfl))
  | with_reducible refine' dS_seq ?_
  | with_reducible refine' dS_next ?_
  | with_reducible refine' dS_ret ?_
  | with_reducible refine' dS_drop ?_
  | with_reducible refine' dS_if ?_
  | with_reducible refine' dS_asg ?_
  | with_reducible refine' dS_par ?_
  | with_reducible refine' dG_name ?_
  | ((with_reducible refine' dG_tup ?dv ?_); (case dv => rfl); (dsimp only [List.map]))
  | with_reducible refine' dGs_cons ?_
  | with_reducible refine' dGs_nil ?_
  | with_reducible refine' dC_abs ?_
  | with_reducible refine' dC_max2 ?_
  | with_reducible refine' dC_min2 ?_
  | with_reducible refine' rtOf.of ?_
  | with_reducible refine' ex_cmp ?_
  | with_reducible refine' ex_bool ?_
  | with_reducible refine' ex_int ?_
  | with_reducible refine' ex_list ?_
  | with_reducible refine' ex_tup ?_
  | with_reducible refine' ex_d ?_
  | with_reducible refine' ex_m ?_
  | with_reducible refine' ex_par ?_
  | with_reducible refine' ex_rg1 ?_
  | with_reducible refine' ex_rg2 ?_
  | ((with_reducible refine' ex_dat ?dv ?dw ?_); (case dv => rfl); (case dw => exact Nat.le_of_ble_eq_true rfl))
  | ((fail_if_success (with_reducible show ∃ _, _)); (fail_if_success (with_reducible show _ ∧ _)); refine ⟨_, _, rfl, ?_⟩)
  | ((fail_if_success (with_reducible show ∃ _, _)); (fail_if_success (with_reducible show _ ∧ _)); refine ⟨_, rfl, ?_⟩)
  | fail)
local macro_rules | `(tactic| walk_at "d") => `(tactic| repeat' walk_at "d1")
local macro_rules | `(tactic| walk_at "e1") => `(tactic| first
  | ((with_reducible refine' dE_var ?dv ?_); (case dv => rfl))
  | with_reducible refine' dE_int ?_
  | with_reducible refine' dE_str ?_
  | with_reducible refine' dE_bl ?_
  | with_reducible refine' dE_non ?_
  | ((with_reducible refine' dE_nt ?dv ?_); (case dv => assumption))
  | with_reducible refine' dE_ref ?_
  | with_reducible refine' dE_op ?_
  | with_reducible refine' dE_un ?_
  | with_reducible refine' dE_cmp ?_
  | with_reducible refine' dE_isN ?_
  | with_reducible refine' dE_notN ?_
  | with_reducible refine' dE_call ?_
  | with_reducible refine' dE_cb ?_
  | with_reducible refine' dE_kw ?_
  | with_reducible refine' dE_tup ?_
  | with_reducible refine' dE_if ?_
  | with_reducible refine' dE_and ?_
  | with_reducible refine' dE_or ?_
  | with_reducible refine' dE_not ?_
  | with_reducible refine' dE_sl ?_
  | with_reducible refine' dO_none ?_
  | with_reducible refine' dO_some ?_
  | with_reducible refine' dA_cons ?_
  | with_reducible refine' dA_nil ?_
  | with_reducible refine' dT_B ?_
  | with_reducible refine' dT_test ?_
  | with_reducible refine' dT_and ?_
  | with_reducible refine' dT_or ?_
  | with_reducible refine' dT_not ?_
  | with_reducible refine' dT_yes ?_
  | with_reducible refine' dR_I0i ?_
  | with_reducible refine' dU_neg ?_
  | ((with_reducible refine' dR_ixT ?dv ?_); (case dv => rfl))
  | with_reducible refine' dS_next ?_
  | with_reducible refine' dS_ret ?_
  | with_reducible refine' dS_drop ?_
  | with_reducible refine' dS_if ?_
  | with_reducible refine' dS_asg ?_
  | with_reducible refine' dS_par ?_
  | with_reducible refine' dG_name ?_
  | ((with_reducible refine' dG_tup ?dv ?_); (case dv => rfl); (dsimp only [List.map]))
  | with_reducible refine' dGs_cons ?_
  | with_reducible refine' dGs_nil ?_
  | with_reducible refine' dC_abs ?_
  | with_reducible refine' dC_max2 ?_
  | with_reducible refine' dC_min2 ?_
  | with_reducible refine' rtOf.of ?_
  | with_reducible refine' ex_cmp ?_
  | with_reducible refine' ex_bool ?_
  | with_reducible refine' ex_int ?_
  | with_reducible refine' ex_list ?_
  | with_reducible refine' ex_tup ?_
  | with_reducible refine' ex_d ?_
  | with_reducible refine' ex_m ?_
  | with_reducible refine' ex_par ?_
  | with_reducible refine' ex_rg1 ?_
  | with_reducible refine' ex_rg2 ?_
  | ((with_reducible refine' ex_dat ?dv ?dw ?_); (case dv => rfl); (case dw => exact Nat.le_of_ble_eq_true rfl))
  | ((fail_if_success (with_reducible show ∃ _, _)); (fail_if_success (with_reducible show _ ∧ _)); refine ⟨_, _, rfl, ?_⟩)
  | ((fail_if_success (with_reducible show ∃ _, _)); (fail_if_success (with_reducible show _ ∧ _)); refine ⟨_, rfl, ?_⟩)
  | fail)
local macro_rules | `(tactic| walk_at "e") => `(tactic| repeat' walk_at "e1")
end K2
namespace K2
open PySem L2 Sd Ma
theorem red01 : Red (0, 1) := ⟨by decide, by decide, by decide⟩
end K2
namespace K2
open PySem L2 Sd Ma
local macro_rules | `(tactic| walk_at "d1") => `(tactic| first
  | ((with_reducible refine' dE_var ?dv ?_); (case dv => rfl))
  | with_reducible refine' dE_int ?_
  | with_reducible refine' dE_str ?_
  | with_reducible refine' dE_bl ?_
  | with_reducible refine' dE_non ?_
  | ((with_reducible refine' dE_nt ?dv ?_); (case dv => assumption))
  | with_reducible refine' dE_ref ?_
  | with_reducible refine' dE_op ?_
  | with_reducible refine' dE_un ?_
  | with_reducible refine' dE_cmp ?_
  | with_reducible refine' dE_isN ?_
  | with_reducible refine' dE_notN ?_
  | with_reducible refine' dE_call ?_
  | with_reducible refine' dE_cb ?_
  | with_reducible refine' dE_kw ?_
  | with_reducible refine' dE_tup ?_
  | with_reducible refine' dE_if ?_
  | with_reducible refine' dE_and ?_
  | with_reducible refine' dE_or ?_
  | with_reducible refine' dE_not ?_
  | with_reducible refine' dE_sl ?_
  | with_reducible refine' dO_none ?_
  | with_reducible refine' dO_some ?_
  | with_reducible refine' dA_cons ?_
  | with_reducible refine' dA_nil ?_
  | with_reducible refine' dT_B ?_
  | with_reducible refine' dT_test ?_
  | with_reducible refine' dT_and ?_
  | with_reducible refine' dT_or ?_
  | with_reducible refine' dT_not ?_
  | with_reducible refine' dT_yes ?_
  | with_reducible refine' dR_I0i ?_
  | with_reducible refine' dU_neg ?_
  | ((with_reducible refine' dR_ixT ?dv ?_); (case dv => rfl))
  | with_reducible refine' dS_seq ?_
  | with_reducible refine' dS_next ?_
  | with_reducible refine' dS_ret ?_
  | with_reducible refine' dS_drop ?_
  | with_reducible refine' dS_if ?_
  | with_reducible refine' dS_asg ?_
  | with_reducible refine' dS_par ?_
  | with_reducible refine' dG_name ?_
  | ((with_reducible refine' dG_tup ?dv ?_); (case dv => rfl); (dsimp only [List.map]))
  | with_reducible refine' dGs_cons ?_
  | with_reducible refine' dGs_nil ?_
  | with_reducible refine' dC_abs ?_
  | with_reducible refine' dC_max2 ?_
  | with_reducible refine' dC_min2 ?_
  | with_reducible refine' rtOf.of ?_
  | with_reducible refine' ex_cmp ?_
  | with_reducible refine' ex_bool ?_
  | with_reducible refine' ex_int ?_
  | with_reducible refine' ex_list ?_
  | with_reducible refine' ex_tup ?_
  | with_reducible refine' ex_d ?_
  | with_reducible refine' ex_m ?_
  | with_reducible refine' ex_par ?_
  | with_reducible refine' ex_rg1 ?_
  | with_reducible refine' ex_rg2 ?_
  | ((with_reducible refine' ex_dat ?dv ?dw ?_); (case dv => rfl); (case dw => exact Nat.le_of_ble_eq_true rfl))
  | ((fail_if_success (with_reducible show ∃ _, _)); (fail_if_success (with_reducible show _ ∧ _)); refine ⟨_, _, rfl, ?_⟩)
  | ((fail_if_success (with_reducible show ∃ _, _)); (fail_if_success (with_reducible show _ ∧ _)); refine ⟨_, rfl, ?_⟩)
  | fail)
local macro_rules | `(tactic| walk_at "d") => `(tactic| repeat' walk_at "d1")
local macro_rules | `(tactic| walk_at "e1") => `(tactic| first
  | ((with_reducible refine' dE_var ?dv ?_); (case dv => rfl))
  | with_reducible refine' dE_int ?_
  | with_reducible refine' dE_str ?_
  | with_reducible refine' dE_bl ?_
  | with_reducible refine' dE_non ?_
  | ((with_reducible refine' dE_nt ?dv ?_); (case dv => assumption))
  | with_reducible refine' dE_ref ?_
  | with_reducible refine' dE_op ?_
  | with_reducible refine' dE_un ?_
  | with_reducible refine' dE_cmp ?_
  | with_reducible refine' dE_isN ?_
  | with_reducible refine' dE_notN ?_
  | with_reducible refine' dE_call ?_
  | with_reducible refine' dE_cb ?_
  | with_reducible refine' dE_kw ?_
  | with_reducible refine' dE_tup ?_
  | with_reducible refine' dE_if ?_
  | with_reducible refine' dE_and ?_
  | with_reducible refine' dE_or ?_
  | with_reducible refine' dE_not ?_
  | with_reducible refine' dE_sl ?_
  | with_reducible refine' dO_none ?_
  | with_reducible refine' dO_some ?_
  | with_reducible refine' dA_cons ?_
  | with_reducible refine' dA_nil ?_
  | with_reducible refine' dT_B ?_
  | with_reducible refine' dT_test ?_
  | with_reducible refine' dT_and ?_
  | with_reducible refine' dT_or ?_
  | with_reducible refine' dT_not ?_
  | with_reducible refine' dT_yes ?_
  | with_reducible refine' dR_I0i ?_
  | with_reducible refine' dU_neg ?_
  | ((with_reducible refine' dR_ixT ?dv ?_); (case dv => rfl))
  | with_reducible refine' dS_next ?_
  | with_reducible refine' dS_ret ?_
  | with_reducible refine' dS_drop ?_
  | with_reducible refine' dS_if ?_
  | with_reducible refine' dS_asg ?_
  | with_reducible refine' dS_par ?_
  | with_reducible refine' dG_name ?_
  | ((with_reducible refine' dG_tup ?dv ?_); (case dv => rfl); (dsimp only [List.map]))
  | with_reducible refine' dGs_cons ?_
  | with_reducible refine' dGs_nil ?_
  | with_reducible refine' dC_abs ?_
  | with_reducible refine' dC_max2 ?_
  | with_reducible refine' dC_min2 ?_
  | with_reducible refine' rtOf.of ?_
  | with_reducible refine' ex_cmp ?_
  | with_reducible refine' ex_bool ?_
  | with_reducible refine' ex_int ?_
  | with_reducible refine' ex_list ?_
  | with_reducible refine' ex_tup ?_
  | with_reducible refine' ex_d ?_
  | with_reducible refine' ex_m ?_
  | with_reducible refine' ex_par ?_
  | with_reducible refine' ex_rg1 ?_
  | with_reducible refine' ex_rg2 ?_
  | ((with_reducible refine' ex_dat ?dv ?dw ?_); (case dv => rfl); (case dw => exact Nat.le_of_ble_eq_true rfl))
  | ((fail_if_success (with_reducible show ∃ _, _)); (fail_if_success (with_reducible show _ ∧ _)); refine ⟨_, _, rfl, ?_⟩)
  | ((fail_if_success (with_reducible show ∃ _, _)); (fail_if_success (with_reducible show _ ∧ _)); refine ⟨_, rfl, ?_⟩)
  | fail)
local macro_rules | `(tactic| walk_at "e") => `(tactic| repeat' walk_at "e1")
theorem Fr.up {q : Q} {m n : Nat} (h : Fr m q) (k : m ≤ n) : Fr n q := ⟨h.toRed, h.s1.up k, h.s2.up k⟩
section
variable {P : Program} {w : World} {K : PySem.W.Frag} {mg : Str → Option Value} {base : Heap} {f : Addr} {fd : FuncData}
theorem mk01 : Mk (0, 1) := ⟨red01, by decide, by decide⟩
end
end K2
namespace K2
open PySem L2 Sd Ma
local macro_rules | `(tactic| walk_at "d1") => `(tactic| first
  | ((with_reducible refine' dE_var ?dv ?_); (case dv => rfl))
  | with_reducible refine' dE_int ?_
  | with_reducible refine' dE_str ?_
  | with_reducible refine' dE_bl ?_
  | with_reducible refine' dE_non ?_
  | ((with_reducible refine' dE_nt ?dv ?_); (case dv => assumption))
  | with_reducible refine' dE_ref ?_
  | with_reducible refine' dE_op ?_
  | with_reducible refine' dE_un ?_
  | with_reducible refine' dE_cmp ?_
  | with_reducible refine' dE_isN ?_
  | with_reducible refine' dE_notN ?_
  | with_reducible refine' dE_call ?_
  | with_reducible refine' dE_cb ?_
  | with_reducible refine' dE_kw ?_
  | with_reducible refine' dE_tup ?_
  | with_reducible refine' dE_if ?_
  | with_reducible refine' dE_and ?_
  | with_reducible refine' dE_or ?_
  | with_reducible refine' dE_not ?_
  | with_reducible refine' dE_sl ?_
  | with_reducible refine' dO_none ?_
  | with_reducible refine' dO_some ?_
  | with_reducible refine' dA_cons ?_
  | with_reducible refine' dA_nil ?_
  | with_reducible refine' dT_B ?_
  | with_reducible refine' dT_test ?_
  | with_reducible refine' dT_and ?_
  | with_reducible refine' dT_or ?_
  | with_reducible refine' dT_not ?_
  | with_reducible refine' dT_yes ?_
  | with_reducible refine' dR_I0i ?_
  | with_reducible refine' dU_neg ?_
  | ((with_reducible refine' dR_ixT ?dv ?_); (case dv => rfl))
  | with_reducible refine' dS_seq ?_
  | with_reducible refine' dS_next ?_
  | with_reducible refine' dS_ret ?_
  | with_reducible refine' dS_drop ?_
  | with_reducible refine' dS_if ?_
  | with_reducible refine' dS_asg ?_
  | with_reducible refine' dS_par ?_
  | with_reducible refine' dG_name ?_
  | ((with_reducible refine' dG_tup ?dv ?_); (case dv => rfl); (dsimp only [List.map]))
  | with_reducible refine' dGs_cons ?_
  | with_reducible refine' dGs_nil ?_
  | with_reducible refine' dC_abs ?_
  | with_reducible refine' dC_max2 ?_
  | with_reducible refine' dC_min2 ?_
  | with_reducible refine' rtOf.of ?_
  | with_reducible refine' ex_cmp ?_
  | with_reducible refine' ex_bool ?_
  | with_reducible refine' ex_int ?_
  | with_reducible refine' ex_list ?_
  | with_reducible refine' ex_tup ?_
  | with_reducible refine' ex_d ?_
  | with_reducible refine' ex_m ?_
  | with_reducible refine' ex_par ?_
  | with_reducible refine' ex_rg1 ?_
  | with_reducible refine' ex_rg2 ?_
  | ((with_reducible refine' ex_dat ?dv ?dw ?_); (case dv => rfl); (case dw => exact Nat.le_of_ble_eq_true rfl))
  | ((fail_if_success (with_reducible show ∃ _, _)); (fail_if_success (with_reducible show _ ∧ _)); refine ⟨_, _, rfl, ?_⟩)
  | ((fail_if_success (with_reducible show ∃ _, _)); (fail_if_success (with_reducible show _ ∧ _)); refine ⟨_, rfl, ?_⟩)
  | fail)
local macro_rules | `(tactic| walk_at "d") => `(tactic| repeat' walk_at "d1")
local macro_rules | `(tactic| walk_at "e1") => `(tactic| first
  | ((with_reducible refine' dE_var ?dv ?_); (case dv => rfl))
  | with_reducible refine' dE_int ?_
  | with_reducible refine' dE_str ?_
  | with_reducible refine' dE_bl ?_
  | with_reducible refine' dE_non ?_
  | ((with_reducible refine' dE_nt ?dv ?_); (case dv => assumption))
  | with_reducible refine' dE_ref ?_
  | with_reducible refine' dE_op ?_
  | with_reducible refine' dE_un ?_
  | with_reducible refine' dE_cmp ?_
  | with_reducible refine' dE_isN ?_
  | with_reducible refine' dE_notN ?_
  | with_reducible refine' dE_call ?_
  | with_reducible refine' dE_cb ?_
  | with_reducible refine' dE_kw ?_
  | with_reducible refine' dE_tup ?_
  | with_reducible refine' dE_if ?_
  | with_reducible refine' dE_and ?_
  | with_reducible refine' dE_or ?_
  | with_reducible refine' dE_not ?_
  | with_reducible refine' dE_sl ?_
  | with_reducible refine' dO_none ?_
  | with_reducible refine' dO_some ?_
  | with_reducible refine' dA_cons ?_
  | with_reducible refine' dA_nil ?_
  | with_reducible refine' dT_B ?_
  | with_reducible refine' dT_test ?_
  | with_reducible refine' dT_and ?_
  | with_reducible refine' dT_or ?_
  | with_reducible refine' dT_not ?_
  | with_reducible refine' dT_yes ?_
  | with_reducible refine' dR_I0i ?_
  | with_reducible refine' dU_neg ?_
  | ((with_reducible refine' dR_ixT ?dv ?_); (case dv => rfl))
  | with_reducible refine' dS_next ?_
  | with_reducible refine' dS_ret ?_
  | with_reducible refine' dS_drop ?_
  | with_reducible refine' dS_if ?_
  | with_reducible refine' dS_asg ?_
  | with_reducible refine' dS_par ?_
  | with_reducible refine' dG_name ?_
  | ((with_reducible refine' dG_tup ?dv ?_); (case dv => rfl); (dsimp only [List.map]))
  | with_reducible refine' dGs_cons ?_
  | with_reducible refine' dGs_nil ?_
  | with_reducible refine' dC_abs ?_
  | with_reducible refine' dC_max2 ?_
  | with_reducible refine' dC_min2 ?_
  | with_reducible refine' rtOf.of ?_
  | with_reducible refine' ex_cmp ?_
  | with_reducible refine' ex_bool ?_
  | with_reducible refine' ex_int ?_
  | with_reducible refine' ex_list ?_
  | with_reducible refine' ex_tup ?_
  | with_reducible refine' ex_d ?_
  | with_reducible refine' ex_m ?_
  | with_reducible refine' ex_par ?_
  | with_reducible refine' ex_rg1 ?_
  | with_reducible refine' ex_rg2 ?_
  | ((with_reducible refine' ex_dat ?dv ?dw ?_); (case dv => rfl); (case dw => exact Nat.le_of_ble_eq_true rfl))
  | ((fail_if_success (with_reducible show ∃ _, _)); (fail_if_success (with_reducible show _ ∧ _)); refine ⟨_, _, rfl, ?_⟩)
  | ((fail_if_success (with_reducible show ∃ _, _)); (fail_if_success (with_reducible show _ ∧ _)); refine ⟨_, rfl, ?_⟩)
  | fail)
local macro_rules | `(tactic| walk_at "e") => `(tactic| repeat' walk_at "e1")
theorem only_one : ∀ {ro : List Rope} {r : Rope}, (ro.map Rope.n).Nodup → r ∈ ro → ro.filter (fun s => s.n == r.n) = [r]
  | [], _, _, h => by cases h
  | x :: ro, r, nd, h => by
    rw [List.map_cons, List.nodup_cons] at nd
    have rest : ∀ (z : Rope), z.n ∉ ro.map Rope.n → ro.filter (fun s => s.n == z.n) = [] := fun z hz => List.filter_eq_nil_iff.mpr fun s hs e => hz (List.mem_map.mpr ⟨s, hs, eq_of_beq e⟩)
    rcases List.mem_cons.mp h with rfl | h
    · rw [List.filter_cons, if_pos (beq_self_eq_true _), rest r nd.1]
    · have ne : ¬ (x.n == r.n) = true := fun e => nd.1 (List.mem_map.mpr ⟨r, h, (eq_of_beq e).symm⟩)
      rw [List.filter_cons, if_neg ne]
      exact only_one nd.2 h
section
variable {P : Program} {w : World} {K : PySem.W.Frag} {mg : Str → Option Value} {base : Heap} {f : Addr} {fd : FuncData}
theorem Shp.lay {x : Str} (h : PyData.canLay0 (.str x) = true) : SeqAt.shaped (.str x) = true := by
  unfold SeqAt.shaped
  rw [h]
  rfl
end
end K2
namespace K2
open PySem L2 Sd Ma
local macro_rules | `(tactic| walk_at "d1") => `(tactic| first
  | ((with_reducible refine' dE_var ?dv ?_); (case dv => rfl))
  | with_reducible refine' dE_int ?_
  | with_reducible refine' dE_str ?_
  | with_reducible refine' dE_bl ?_
  | with_reducible refine' dE_non ?_
  | ((with_reducible refine' dE_nt ?dv ?_); (case dv => assumption))
  | with_reducible refine' dE_ref ?_
  | with_reducible refine' dE_op ?_
  | with_reducible refine' dE_un ?_
  | with_reducible refine' dE_cmp ?_
  | with_reducible refine' dE_isN ?_
  | with_reducible refine' dE_notN ?_
  | with_reducible refine' dE_call ?_
  | with_reducible refine' dE_cb ?_
  | with_reducible refine' dE_kw ?_
  | with_reducible refine' dE_tup ?_
  | with_reducible refine' dE_if ?_
  | with_reducible refine' dE_and ?_
  | with_reducible refine' dE_or ?_
  | with_reducible refine' dE_not ?_
  | with_reducible refine' dE_sl ?_
  | with_reducible refine' dO_none ?_
  | with_reducible refine' dO_some ?_
  | with_reducible refine' dA_cons ?_
  | with_reducible refine' dA_nil ?_
  | with_reducible refine' dT_B ?_
  | with_reducible refine' dT_test ?_
  | with_reducible refine' dT_and ?_
  | with_reducible refine' dT_or ?_
  | with_reducible refine' dT_not ?_
  | with_reducible refine' dT_yes ?_
  | with_reducible refine' dR_I0i ?_
  | with_reducible refine' dU_neg ?_
  | ((with_reducible refine' dR_ixT ?dv ?_); (case dv => rfl))
  | with_reducible refine' dS_seq ?_
  | with_reducible refine' dS_next ?_
  | with_reducible refine' dS_ret ?_
  | with_reducible refine' dS_drop ?_
  | with_reducible refine' dS_if ?_
  | with_reducible refine' dS_asg ?_
  | with_reducible refine' dS_par ?_
  | with_reducible refine' dG_name ?_
  | ((with_reducible refine' dG_tup ?dv ?_); (case dv => rfl); (dsimp only [List.map]))
  | with_reducible refine' dGs_cons ?_
  | with_reducible refine' dGs_nil ?_
  | with_reducible refine' dC_abs ?_
  | with_reducible refine' dC_max2 ?_
  | with_reducible refine' dC_min2 ?_
  | with_reducible refine' rtOf.of ?_
  | with_reducible refine' ex_cmp ?_
  | with_reducible refine' ex_bool ?_
  | with_reducible refine' ex_int ?_
  | with_reducible refine' ex_list ?_
  | with_reducible refine' ex_tup ?_
  | with_reducible refine' ex_d ?_
  | with_reducible refine' ex_m ?_
  | with_reducible refine' ex_par ?_
  | with_reducible refine' ex_rg1 ?_
  | with_reducible refine' ex_rg2 ?_
  | ((with_reducible refine' ex_dat ?dv ?dw ?_); (case dv => rfl); (case dw => exact Nat.le_of_ble_eq_true rfl))
  | ((fail_if_success (with_reducible show ∃ _, _)); (fail_if_success (with_reducible show _ ∧ _)); refine ⟨_, _, rfl, ?_⟩)
  | ((fail_if_success (with_reducible show ∃ _, _)); (fail_if_success (with_reducible show _ ∧ _)); refine ⟨_, rfl, ?_⟩)
  | fail)
local macro_rules | `(tactic| walk_at "d") => `(tactic| repeat' walk_at "d1")
local macro_rules | `(tactic| walk_at "e1") => `(tactic| first
  | ((with_reducible refine' dE_var ?dv ?_); (case dv => rfl))
  | with_reducible refine' dE_int ?_
  | with_reducible refine' dE_str ?_
  | with_reducible refine' dE_bl ?_
  | with_reducible refine' dE_non ?_
  | ((with_reducible refine' dE_nt ?dv ?_); (case dv => assumption))
  | with_reducible refine' dE_ref ?_
  | with_reducible refine' dE_op ?_
  | with_reducible refine' dE_un ?_
  | with_reducible refine' dE_cmp ?_
  | with_reducible refine' dE_isN ?_
  | with_reducible refine' dE_notN ?_
  | with_reducible refine' dE_call ?_
  | with_reducible refine' dE_cb ?_
  | with_reducible refine' dE_kw ?_
  | with_reducible refine' dE_tup ?_
  | with_reducible refine' dE_if ?_
  | with_reducible refine' dE_and ?_
  | with_reducible refine' dE_or ?_
  | with_reducible refine' dE_not ?_
  | with_reducible refine' dE_sl ?_
  | with_reducible refine' dO_none ?_
  | with_reducible refine' dO_some ?_
  | with_reducible refine' dA_cons ?_
  | with_reducible refine' dA_nil ?_
  | with_reducible refine' dT_B ?_
  | with_reducible refine' dT_test ?_
  | with_reducible refine' dT_and ?_
  | with_reducible refine' dT_or ?_
  | with_reducible refine' dT_not ?_
  | with_reducible refine' dT_yes ?_
  | with_reducible refine' dR_I0i ?_
  | with_reducible refine' dU_neg ?_
  | ((with_reducible refine' dR_ixT ?dv ?_); (case dv => rfl))
  | with_reducible refine' dS_next ?_
  | with_reducible refine' dS_ret ?_
  | with_reducible refine' dS_drop ?_
  | with_reducible refine' dS_if ?_
  | with_reducible refine' dS_asg ?_
  | with_reducible refine' dS_par ?_
  | with_reducible refine' dG_name ?_
  | ((with_reducible refine' dG_tup ?dv ?_); (case dv => rfl); (dsimp only [List.map]))
  | with_reducible refine' dGs_cons ?_
  | with_reducible refine' dGs_nil ?_
  | with_reducible refine' dC_abs ?_
  | with_reducible refine' dC_max2 ?_
  | with_reducible refine' dC_min2 ?_
  | with_reducible refine' rtOf.of ?_
  | with_reducible refine' ex_cmp ?_
  | with_reducible refine' ex_bool ?_
  | with_reducible refine' ex_int ?_
  | with_reducible refine' ex_list ?_
  | with_reducible refine' ex_tup ?_
  | with_reducible refine' ex_d ?_
  | with_reducible refine' ex_m ?_
  | with_reducible refine' ex_par ?_
  | with_reducible refine' ex_rg1 ?_
  | with_reducible refine' ex_rg2 ?_
  | ((with_reducible refine' ex_dat ?dv ?dw ?_); (case dv => rfl); (case dw => exact Nat.le_of_ble_eq_true rfl))
  | ((fail_if_success (with_reducible show ∃ _, _)); (fail_if_success (with_reducible show _ ∧ _)); refine ⟨_, _, rfl, ?_⟩)
  | ((fail_if_success (with_reducible show ∃ _, _)); (fail_if_success (with_reducible show _ ∧ _)); refine ⟨_, rfl, ?_⟩)
  | fail)
local macro_rules | `(tactic| walk_at "e") => `(tactic| repeat' walk_at "e1")
/-- the module's numbers -/
structure Cst (mg : Str → Option Value) : Prop where
  c_MOST_LETTERS : ∃ t, mg "MOST_LETTERS" = some (.int 8 t)
  c_MOST_SLACK : ∃ t, mg "MOST_SLACK" = some (.int 1000 t)
  c_MOST_STIFF : ∃ t, mg "MOST_STIFF" = some (.int 100 t)
  c_MOST_STRONG : ∃ t, mg "MOST_STRONG" = some (.int 1000000 t)
  c_MOST_ROPES : ∃ t, mg "MOST_ROPES" = some (.int 6 t)
theorem pe_globI {X : Cx} {x : Str} {i : Int} {pos : Pos} (hg : Gl X x) (hm : ∃ t, X.mg x = some (.int i t)) (hd : (x == ("__debug__" : Str)) = false := by decide) : PE X (.Name x pos) (tC (.int i)) :=
  let ⟨t, h⟩ := hm
  pe_glob hg h ⟨t, rfl⟩ hd
def isI : PyData → Bool
  | .int _ => true
  | _ => false
theorem isI_eq (d : PyData) : (isNum d && !isBl d) = isI d := by cases d <;> rfl
section
variable {P : Program} {w : World} {K : PySem.W.Frag} {mg : Str → Option Value} {base : Heap} {f : Addr} {fd : FuncData}
def S_isI : SpD := fun rs M P => ∃ d : PyData, rs = [.d d] ∧ P (.d (.bool (isI d))) M
abbrev s_is_whole : Stmt := topS 16
theorem sc_is_whole : FnScope ["thing"] ["thing"] (defScope s_is_whole) := ⟨rfl, rfl, rfl, by decide +kernel, rfl, by decide +kernel, by decide +kernel⟩
theorem ok_is_whole (T : Txt mg) (F : Fun K "is_whole" "is_whole" s_is_whole f fd) : FnOk P w K mg base CX0 1 f fd ["thing"] (spOf K S_isI) := by
  refine ok_of F sc_is_whole (fun rs M P h => by obtain ⟨a, rfl, _⟩ := h; rfl) fun cdv A outer s H E hr => ⟨_, (pss_one (ps_ret (pe_and (pe_callB (kcall_isi K) (by rfl) T.isinstance (by decide +kernel) (pa_cons (pv 0) (pa_cons (pe_bltn (v := .ty "int") (by rfl) T.int (by decide +kernel) rfl) pa_nil))) (pe_one (pe_not (pe_callB (kcall_isi K) (by rfl) T.isinstance (by decide +kernel) (pa_cons (pv 0) (pa_cons (pe_bltn (v := .ty "bool") (by rfl) T.bool (by decide +kernel) rfl) pa_nil)))))))), fun rs M P h => ?_⟩
  obtain ⟨d, rfl, p⟩ := h
  rw [← isI_eq] at p
  walk_at "d"
  refine dE_ty ?_
  walk_at "d"
  refine dC_isi (kit_int d) ?_
  walk_at "d"
  refine ifB (fun h => ?_) (fun h => ?_)
  · rw [h, Bool.true_and] at p
    walk_at "d"
    refine dE_ty ?_
    walk_at "d"
    refine dC_isi (kit_bool d) ?_
    walk_at "d"
    exact p
  · rw [h, Bool.false_and] at p
    exact rtOf.of p
abbrev s_law_whole : Stmt := topS 47
theorem sc_law_whole : FnScope ["thing"] ["thing"] (defScope s_law_whole) := ⟨rfl, rfl, rfl, by decide +kernel, rfl, by decide +kernel, by decide +kernel⟩
theorem ok_law_whole (T : Txt mg) (F : Fun K "_law_whole" "_law_whole" s_law_whole f fd) : FnOk P w K mg base CX0 1 f fd ["thing"] (spOf K S_isI) := by
  refine ok_of F sc_law_whole (fun rs M P h => by obtain ⟨a, rfl, _⟩ := h; rfl) fun cdv A outer s H E hr => ⟨_, (pss_one (ps_ret (pe_and (pe_callB (kcall_isi K) (by rfl) T.isinstance (by decide +kernel) (pa_cons (pv 0) (pa_cons (pe_bltn (v := .ty "int") (by rfl) T.int (by decide +kernel) rfl) pa_nil))) (pe_one (pe_not (pe_callB (kcall_isi K) (by rfl) T.isinstance (by decide +kernel) (pa_cons (pv 0) (pa_cons (pe_bltn (v := .ty "bool") (by rfl) T.bool (by decide +kernel) rfl) pa_nil)))))))), fun rs M P h => ?_⟩
  obtain ⟨d, rfl, p⟩ := h
  rw [← isI_eq] at p
  walk_at "d"
  refine dE_ty ?_
  walk_at "d"
  refine dC_isi (kit_int d) ?_
  walk_at "d"
  refine ifB (fun h => ?_) (fun h => ?_)
  · rw [h, Bool.true_and] at p
    walk_at "d"
    refine dE_ty ?_
    walk_at "d"
    refine dC_isi (kit_bool d) ?_
    walk_at "d"
    exact p
  · rw [h, Bool.false_and] at p
    exact rtOf.of p
/-- a number of these bounds -/
def inB (lo hi : Int) : PyData → Bool
  | .int i => decide (lo ≤ i) && decide (i ≤ hi)
  | _ => false
theorem inB_not {lo hi : Int} {d : PyData} (h : isI d = false) : inB lo hi d = false := by cases d <;> first | rfl | cases h
def S_inB : SpD := fun rs M P => ∃ (d : PyData) (lo hi : Int), rs = [.d d, .d (.int lo), .d (.int hi)] ∧ P (.d (.bool (inB lo hi d))) M
abbrev s_is_within : Stmt := topS 28
theorem sc_is_within : FnScope ["thing", "least", "most"] ["thing", "least", "most"] (defScope s_is_within) := ⟨rfl, rfl, rfl, by decide +kernel, rfl, by decide +kernel, by decide +kernel⟩
theorem ok_is_within (F : Fun K "is_within" "is_within" s_is_within f fd) (c_is_whole : Has P w K mg base 1 "is_whole" ["thing"] S_isI) : FnOk P w K mg base CX0 2 f fd ["thing", "least", "most"] (spOf K S_inB) := by
  refine ok_of F sc_is_within (fun rs M P h => by obtain ⟨a, b, c, rfl, _⟩ := h; rfl) fun cdv A outer s H E hr => ⟨_, (pss_one (ps_ret (pe_and (pe_callH' c_is_whole (hr.mono (by first | decide | omega)) rfl (pa_cons (pv 0) pa_nil)) (pe_one (pe_chain op_le op_le (pv 1) (pv 0) (pv 2)))))), fun rs M P h => ?_⟩
  obtain ⟨d, lo, hi, rfl, p⟩ := h
  walk_at "d"
  refine ifB (fun h => ?_) (fun h => ?_)
  · cases d with
    | int i =>
      have p' : P (.d (.bool (decide (lo ≤ i) && decide (i ≤ hi)))) M := p
      refine dE_chain ?_
      walk_at "d"
      refine dR_I0b ?_
      walk_at "d"
      refine ifB (fun h1 => ?_) (fun h1 => ?_)
      · rw [h1, Bool.true_and] at p'
        walk_at "d"
        refine dR_I0b ?_
        exact rtOf.of p'
      · rw [h1, Bool.false_and] at p'
        exact rtOf.of p'
    | _ => cases h
  · rw [inB_not h] at p
    exact rtOf.of p
abbrev s_law_within : Stmt := topS 48
theorem sc_law_within : FnScope ["thing", "least", "most"] ["thing", "least", "most"] (defScope s_law_within) := ⟨rfl, rfl, rfl, by decide +kernel, rfl, by decide +kernel, by decide +kernel⟩
theorem ok_law_within (T : Txt mg) (F : Fun K "_law_within" "_law_within" s_law_within f fd) : FnOk P w K mg base CX0 1 f fd ["thing", "least", "most"] (spOf K S_inB) := by
  refine ok_of F sc_law_within (fun rs M P h => by obtain ⟨a, b, c, rfl, _⟩ := h; rfl) fun cdv A outer s H E hr => ⟨_, (pss_one (ps_ret (pe_and (pe_callB (kcall_isi K) (by rfl) T.isinstance (by decide +kernel) (pa_cons (pv 0) (pa_cons (pe_bltn (v := .ty "int") (by rfl) T.int (by decide +kernel) rfl) pa_nil))) (pe_and (pe_not (pe_callB (kcall_isi K) (by rfl) T.isinstance (by decide +kernel) (pa_cons (pv 0) (pa_cons (pe_bltn (v := .ty "bool") (by rfl) T.bool (by decide +kernel) rfl) pa_nil)))) (pe_one (pe_chain op_le op_le (pv 1) (pv 0) (pv 2))))))), fun rs M P h => ?_⟩
  obtain ⟨d, lo, hi, rfl, p⟩ := h
  walk_at "d"
  refine dE_ty ?_
  walk_at "d"
  refine dC_isi (kit_int d) ?_
  walk_at "d"
  refine ifB (fun h => ?_) (fun h => ?_)
  · walk_at "d"
    refine dE_ty ?_
    walk_at "d"
    refine dC_isi (kit_bool d) ?_
    walk_at "d"
    refine ifB (fun h2 => ?_) (fun h2 => ?_)
    · cases d with
      | int i =>
        have p' : P (.d (.bool (decide (lo ≤ i) && decide (i ≤ hi)))) M := p
        refine dE_chain ?_
        walk_at "d"
        refine dR_I0b ?_
        walk_at "d"
        refine ifB (fun h1 => ?_) (fun h1 => ?_)
        · rw [h1, Bool.true_and] at p'
          walk_at "d"
          refine dR_I0b ?_
          exact rtOf.of p'
        · rw [h1, Bool.false_and] at p'
          exact rtOf.of p'
      | bool b => cases h2
      | _ => cases h
    · rw [inB_not (by rw [← isI_eq, h2, Bool.and_false])] at p
      exact rtOf.of p
  · rw [inB_not (by rw [← isI_eq, h, Bool.false_and])] at p
    exact rtOf.of p
theorem one_lt {a b : Nat} : ([a] < [b]) ↔ a < b := by
  rw [List.cons_lt_cons_iff]
  constructor
  · rintro (h | ⟨_, h⟩)
    · exact h
    · exact absurd h (List.not_lt_nil [])
  · intro h; exact .inl h
theorem le_one (c : Nat) : (!decide ((⟨#[c]⟩ : Str).cps.toList < (Str.ofString "a").cps.toList)) = decide (97 ≤ c) := by
  show (!decide ([c] < [97])) = _
  rw [Bool.eq_iff_iff, Bool.not_eq_true', decide_eq_false_iff_not, one_lt, decide_eq_true_iff]
  omega
theorem one_le (c : Nat) : (!decide ((Str.ofString "z").cps.toList < (⟨#[c]⟩ : Str).cps.toList)) = decide (c ≤ 122) := by
  show (!decide ([122] < [c])) = _
  rw [Bool.eq_iff_iff, Bool.not_eq_true', decide_eq_false_iff_not, one_lt, decide_eq_true_iff]
  omega
/-- a name -/
def nameB : PyData → Bool
  | .str x => decide (1 ≤ x.length) && decide (x.length ≤ 8) && x.cps.toList.all fun c => decide (97 ≤ c) && decide (c ≤ 122)
  | _ => false
def S_name : SpD := fun rs M P => ∃ d : PyData, rs = [.d d] ∧ (∀ x, d = .str x → x.length ≤ 1000000) ∧ P (.d (.bool (nameB d))) M
abbrev s_is_name : Stmt := topS 17
theorem sc_is_name : FnScope ["thing", "letter"] ["thing"] (defScope s_is_name) := ⟨rfl, rfl, rfl, by decide +kernel, rfl, by decide +kernel, by decide +kernel⟩
theorem ok_is_name (C : Cst mg) (T : Txt mg) (F : Fun K "is_name" "is_name" s_is_name f fd) : FnOk P w K mg base CX0 1 f fd ["thing"] (spOf K S_name) := by
  refine ok_of F sc_is_name (fun rs M P h => by obtain ⟨a, rfl, _⟩ := h; rfl) fun cdv A outer s H E hr => ⟨_, (pss_cons (ps_if (PW.pt (pw_or (pt_not (pt_val (pe_callB (kcall_isi K) (by rfl) T.isinstance (by decide +kernel) (pa_cons (pv 0) (pa_cons (pe_bltn (v := .ty "str") (by rfl) T.str (by decide +kernel) rfl) pa_nil))))) (pw_or1 (pt_not (pt_chain op_le op_le pe_int (pe_callB call_len_str (by rfl) T.len (by decide +kernel) (pa_cons (pv 0) pa_nil)) (pe_globI rfl C.c_MOST_LETTERS)))))) (pss_one (ps_ret pe_bl)) pss_nil)
      (pss_one (ps_ret (pe_callB (kcr_all K) (by rfl) T.all (by decide +kernel) (pa_cons (pe_lc (own := [("letter", 1)]) (by rfl) sc_is_name.nd (pi_str (pv 0)) (blkOk_by (N := ["thing", "letter"]) (sc := defScope s_is_name) (own := [("letter", 1)]) (by decide +kernel)) (fun _ _ _ _ _ => (pg_name (i := 1) sc_is_name.nd rfl (Or.inl rfl))) (fun _ _ _ _ _ => pts_nil) (fun _ _ _ _ _ => (pe_chain op_le_str op_le_str pe_str (pv 1) pe_str))) pa_nil))))), fun rs M P h => ?_⟩
  obtain ⟨d, rfl, hz, p⟩ := h
  walk_at "d"
  refine dE_ty ?_
  walk_at "d"
  refine dC_isi (kit_str d) ?_
  walk_at "d"
  cases d with
  | str x =>
    refine ifF rfl ?_
    walk_at "d"
    refine dE_chain ?_
    walk_at "d"
    refine dC_lenX (hz x rfl) ?_
    walk_at "d"
    refine dR_I0b ?_
    walk_at "d"
    have p' : P (.d (.bool (decide (1 ≤ x.length) && decide (x.length ≤ 8) && x.cps.toList.all fun c => decide (97 ≤ c) && decide (c ≤ 122)))) M := p
    refine ifB (fun h => ?_) (fun h => ?_)
    · rw [show decide (1 ≤ x.length) = true from decide_eq_true (by have := of_decide_eq_true h; omega), Bool.true_and] at p'
      walk_at "d"
      refine dR_I0b ?_
      walk_at "d"
      refine ifB (fun h2 => ?_) (fun h2 => ?_)
      · have h3 : decide ((x.length : Int) ≤ 8) = false := by simpa using h2
        rw [show decide (x.length ≤ 8) = false from decide_eq_false (by have := of_decide_eq_false h3; omega), Bool.false_and] at p'
        walk_at "d"
        exact p'
      · have h3 : decide ((x.length : Int) ≤ 8) = true := by simpa using h2
        rw [show decide (x.length ≤ 8) = true from decide_eq_true (by have := of_decide_eq_true h3; omega), Bool.true_and] at p'
        walk_at "d"
        have hx8 : x.length ≤ 8 := by have := of_decide_eq_true h3; omega
        refine dE_lcS (gw_name 1) ?_
        walk_at "d"
        refine ⟨x, rfl, Nat.le_trans (show x.cps.size ≤ 8 from hx8) (by decide), fun i acc M' => M' = M ∧ acc = ((x.cps.toList.take i).map fun c => decide (97 ≤ c) && decide (c ≤ 122)).map .bool, ⟨rfl, rfl⟩, fun i c acc M' hc hI => ?_, fun acc M' hI => .inl ?_⟩
        · obtain ⟨rfl, rfl⟩ := hI
          have hnx : ((x.cps.toList.take (i + 1)).map fun c => decide (97 ≤ c) && decide (c ≤ 122)).map PyData.bool = ((x.cps.toList.take i).map fun c => decide (97 ≤ c) && decide (c ≤ 122)).map PyData.bool ++ [.bool (decide (97 ≤ c) && decide (c ≤ 122))] := by
            rw [List.take_succ, Array.getElem?_toList, hc, List.map_append, List.map_append]
            rfl
          walk_at "d"
          refine ifT rfl ?_
          refine dE_chain ?_
          walk_at "d"
          refine dR_ss ?_
          rw [le_one]
          walk_at "d"
          refine ifB (fun k => ?_) (fun k => ?_)
          · walk_at "d"
            refine dR_ss ?_
            rw [one_le]
            refine ⟨_, rfl, rfl, ?_⟩
            rw [hnx, k, Bool.true_and]
          · refine ⟨_, rfl, rfl, ?_⟩
            rw [hnx, k, Bool.false_and]
        · obtain ⟨rfl, rfl⟩ := hI
          rw [show x.cps.size = x.cps.toList.length from Array.length_toList.symm, List.take_length]
          walk_at "d"
          refine dC_all (.inl rfl) ?_
          rw [List.all_map]
          exact rtOf.of p'
    · rw [show decide (1 ≤ x.length) = false from decide_eq_false (by have := of_decide_eq_false h; omega), Bool.false_and, Bool.false_and] at p'
      walk_at "d"
      refine ifT rfl ?_
      walk_at "d"
      exact p'
  | _ =>
    refine ifT rfl ?_
    refine ifT rfl ?_
    walk_at "d"
    exact p
theorem alpha_mem (c : Nat) : decide (c ∈ (Str.ofString "abcdefghijklmnopqrstuvwxyz").cps.toList) = (decide (97 ≤ c) && decide (c ≤ 122)) := by
  rw [show (Str.ofString "abcdefghijklmnopqrstuvwxyz").cps.toList = [97, 98, 99, 100, 101, 102, 103, 104, 105, 106, 107, 108, 109, 110, 111, 112, 113, 114, 115, 116, 117, 118, 119, 120, 121, 122] by decide +kernel]
  rw [Bool.eq_iff_iff, decide_eq_true_iff, Bool.and_eq_true, decide_eq_true_iff, decide_eq_true_iff]
  simp only [List.mem_cons, List.not_mem_nil, or_false]
  omega
def S_lname : SpD := fun rs M P => ∃ d : PyData, rs = [.d d] ∧ (∀ x, d = .str x → x.length ≤ 1000000 ∧ ∀ c ∈ x.cps.toList, PyData.canLay0 (.str ⟨#[c]⟩) = true) ∧ P (.d (.bool (nameB d))) M
abbrev s_law_is_name : Stmt := topS 49
theorem sc_law_is_name : FnScope ["thing", "sign"] ["thing"] (defScope s_law_is_name) := ⟨rfl, rfl, rfl, by decide +kernel, rfl, by decide +kernel, by decide +kernel⟩
theorem ok_law_is_name (T : Txt mg) (F : Fun K "_law_is_name" "_law_is_name" s_law_is_name f fd) : FnOk P w K mg base CX0 1 f fd ["thing"] (spOf K S_lname) := by
  refine ok_of F sc_law_is_name (fun rs M P h => by obtain ⟨a, rfl, _⟩ := h; rfl) fun cdv A outer s H E hr => ⟨_, (pss_cons (ps_if (PW.pt (pw_or (pt_not (pt_val (pe_callB (kcall_isi K) (by rfl) T.isinstance (by decide +kernel) (pa_cons (pv 0) (pa_cons (pe_bltn (v := .ty "str") (by rfl) T.str (by decide +kernel) rfl) pa_nil))))) (pw_or1 (pt_not (pt_chain op_le op_le pe_int (pe_callB call_len_str (by rfl) T.len (by decide +kernel) (pa_cons (pv 0) pa_nil)) pe_int))))) (pss_one (ps_ret pe_bl)) pss_nil)
      (pss_one (ps_ret (pe_cmpR (kop_eqD K hr.units) (pe_lc (own := [("sign", 1)]) (by rfl) sc_law_is_name.nd (pi_str (pv 0)) (blkOk_by (N := ["thing", "sign"]) (sc := defScope s_law_is_name) (own := [("sign", 1)]) (by decide +kernel)) (fun _ _ _ _ _ => (pg_name (i := 1) sc_law_is_name.nd rfl (Or.inl rfl))) (fun _ _ _ _ _ => (pts_one (pt_cmpR op_notInS (pv 1) pe_str (by rfl)))) (fun _ _ _ _ _ => (pv 1))) (pe_lst pa_nil) (nomark _))))), fun rs M P h => ?_⟩
  obtain ⟨d, rfl, hz, p⟩ := h
  walk_at "d"
  refine dE_ty ?_
  walk_at "d"
  refine dC_isi (kit_str d) ?_
  walk_at "d"
  cases d with
  | str x =>
    refine ifF rfl ?_
    walk_at "d"
    refine dE_chain ?_
    walk_at "d"
    refine dC_lenX (hz x rfl).1 ?_
    walk_at "d"
    refine dR_I0b ?_
    walk_at "d"
    have p' : P (.d (.bool (decide (1 ≤ x.length) && decide (x.length ≤ 8) && x.cps.toList.all fun c => decide (97 ≤ c) && decide (c ≤ 122)))) M := p
    refine ifB (fun h => ?_) (fun h => ?_)
    · rw [show decide (1 ≤ x.length) = true from decide_eq_true (by have := of_decide_eq_true h; omega), Bool.true_and] at p'
      walk_at "d"
      refine dR_I0b ?_
      walk_at "d"
      refine ifB (fun h2 => ?_) (fun h2 => ?_)
      · have h3 : decide ((x.length : Int) ≤ 8) = false := by simpa using h2
        rw [show decide (x.length ≤ 8) = false from decide_eq_false (by have := of_decide_eq_false h3; omega), Bool.false_and] at p'
        walk_at "d"
        exact p'
      · have h3 : decide ((x.length : Int) ≤ 8) = true := by simpa using h2
        rw [show decide (x.length ≤ 8) = true from decide_eq_true (by have := of_decide_eq_true h3; omega), Bool.true_and] at p'
        have hx8 : x.length ≤ 8 := by have := of_decide_eq_true h3; omega
        walk_at "d"
        refine dE_lcS (gw_name 1) ?_
        walk_at "d"
        refine ⟨x, rfl, Nat.le_trans (show x.cps.size ≤ 8 from hx8) (by decide), fun i acc M' => M' = M ∧ acc = ((x.cps.toList.take i).filter fun c => !(decide (97 ≤ c) && decide (c ≤ 122))).map fun c => .str ⟨#[c]⟩, ⟨rfl, rfl⟩, fun i c acc M' hc hI => ?_, fun acc M' hI => .inl ?_⟩
        · obtain ⟨rfl, rfl⟩ := hI
          have ht : x.cps.toList.take (i + 1) = x.cps.toList.take i ++ [c] := by rw [List.take_succ, Array.getElem?_toList, hc]; rfl
          walk_at "d"
          refine dR_notInS ?_
          rw [alpha_mem]
          walk_at "d"
          refine ifB (fun k => ?_) (fun k => ?_)
          · walk_at "d"
            refine ⟨rfl, ?_⟩
            rw [ht, List.filter_append, List.map_append, List.filter_cons, if_pos k]
            rfl
          · refine ⟨rfl, ?_⟩
            rw [ht, List.filter_append, List.filter_cons, if_neg (by rw [k]; decide)]
            simp
        · obtain ⟨rfl, rfl⟩ := hI
          rw [show x.cps.size = x.cps.toList.length from Array.length_toList.symm, List.take_length]
          walk_at "d"
          refine dE_lst ?_
          walk_at "d"
          refine dR_eq (d := .list ((x.cps.toList.filter fun c => !(decide (97 ≤ c) && decide (c ≤ 122))).map fun c => .str ⟨#[c]⟩)) (e := .list []) .of .of ?_ rfl ?_
          · unfold SeqAt.shaped
            have all0 : ∀ l : List Nat, (∀ c ∈ l, PyData.canLay0 (.str ⟨#[c]⟩) = true) → PyData.canLayAll0 (l.map fun c => .str ⟨#[c]⟩) = true ∧ PyData.depthAll (l.map fun c => .str ⟨#[c]⟩) = 0 := fun l => by
              induction l with
              | nil => intro _; exact ⟨rfl, rfl⟩
              | cons c l ih =>
                intro h
                obtain ⟨i1, i2⟩ := ih fun c hc => h c (List.mem_cons_of_mem _ hc)
                refine ⟨?_, ?_⟩
                · rw [List.map_cons, PyData.canLayAll0, h c List.mem_cons_self, i1]; rfl
                · rw [List.map_cons, PyData.depthAll, i2]; rfl
            obtain ⟨a1, a2⟩ := all0 (x.cps.toList.filter fun c => !(decide (97 ≤ c) && decide (c ≤ 122))) fun c hc => (hz x rfl).2 c (List.mem_filter.mp hc).1
            rw [PyData.canLay0, a1, PyData.depth, a2]
            rfl
          · have e : PyData.eqv (.list ((x.cps.toList.filter fun c => !(decide (97 ≤ c) && decide (c ≤ 122))).map fun c => .str ⟨#[c]⟩)) (.list []) = x.cps.toList.all fun c => decide (97 ≤ c) && decide (c ≤ 122) := by
              generalize x.cps.toList = l
              induction l with
              | nil => rfl
              | cons c l ih =>
                rw [List.filter_cons, List.all_cons]
                cases k : (decide (97 ≤ c) && decide (c ≤ 122)) with
                | true => simpa using ih
                | false => rfl
            rw [e]
            exact rtOf.of p'
    · rw [show decide (1 ≤ x.length) = false from decide_eq_false (by have := of_decide_eq_false h; omega), Bool.false_and, Bool.false_and] at p'
      walk_at "d"
      refine ifT rfl ?_
      walk_at "d"
      exact p'
  | _ =>
    refine ifT rfl ?_
    refine ifT rfl ?_
    walk_at "d"
    exact p
end
end K2
namespace K2
open PySem L2 Sd Ma
local macro_rules | `(tactic| walk_at "d1") => `(tactic| first
  | ((with_reducible refine' dE_var ?dv ?_); (case dv => rfl))
  | with_reducible refine' dE_int ?_
  | with_reducible refine' dE_str ?_
  | with_reducible refine' dE_bl ?_
  | with_reducible refine' dE_non ?_
  | ((with_reducible refine' dE_nt ?dv ?_); (case dv => assumption))
  | with_reducible refine' dE_ref ?_
  | with_reducible refine' dE_op ?_
  | with_reducible refine' dE_un ?_
  | with_reducible refine' dE_cmp ?_
  | with_reducible refine' dE_isN ?_
  | with_reducible refine' dE_notN ?_
  | with_reducible refine' dE_call ?_
  | with_reducible refine' dE_cb ?_
  | with_reducible refine' dE_kw ?_
  | with_reducible refine' dE_tup ?_
  | with_reducible refine' dE_if ?_
  | with_reducible refine' dE_and ?_
  | with_reducible refine' dE_or ?_
  | with_reducible refine' dE_not ?_
  | with_reducible refine' dE_sl ?_
  | with_reducible refine' dO_none ?_
  | with_reducible refine' dO_some ?_
  | with_reducible refine' dA_cons ?_
  | with_reducible refine' dA_nil ?_
  | with_reducible refine' dT_B ?_
  | with_reducible refine' dT_test ?_
  | with_reducible refine' dT_and ?_
  | with_reducible refine' dT_or ?_
  | with_reducible refine' dT_not ?_
  | with_reducible refine' dT_yes ?_
  | with_reducible refine' dR_I0i ?_
  | with_reducible refine' dU_neg ?_
  | ((with_reducible refine' dR_ixT ?dv ?_); (case dv => rfl))
  | with_reducible refine' dS_seq ?_
  | with_reducible refine' dS_next ?_
  | with_reducible refine' dS_ret ?_
  | with_reducible refine' dS_drop ?_
  | with_reducible refine' dS_if ?_
  | with_reducible refine' dS_asg ?_
  | with_reducible refine' dS_par ?_
  | with_reducible refine' dG_name ?_
  | ((with_reducible refine' dG_tup ?dv ?_); (case dv => rfl); (dsimp only [List.map]))
  | with_reducible refine' dGs_cons ?_
  | with_reducible refine' dGs_nil ?_
  | with_reducible refine' dC_abs ?_
  | with_reducible refine' dC_max2 ?_
  | with_reducible refine' dC_min2 ?_
  | with_reducible refine' rtOf.of ?_
  | with_reducible refine' ex_cmp ?_
  | with_reducible refine' ex_bool ?_
  | with_reducible refine' ex_int ?_
  | with_reducible refine' ex_list ?_
  | with_reducible refine' ex_tup ?_
  | with_reducible refine' ex_d ?_
  | with_reducible refine' ex_m ?_
  | with_reducible refine' ex_par ?_
  | with_reducible refine' ex_rg1 ?_
  | with_reducible refine' ex_rg2 ?_
  | ((with_reducible refine' ex_dat ?dv ?dw ?_); (case dv => rfl); (case dw => exact Nat.le_of_ble_eq_true rfl))
  | ((fail_if_success (with_reducible show ∃ _, _)); (fail_if_success (with_reducible show _ ∧ _)); refine ⟨_, _, rfl, ?_⟩)
  | ((fail_if_success (with_reducible show ∃ _, _)); (fail_if_success (with_reducible show _ ∧ _)); refine ⟨_, rfl, ?_⟩)
  | fail)
local macro_rules | `(tactic| walk_at "d") => `(tactic| repeat' walk_at "d1")
local macro_rules | `(tactic| walk_at "e1") => `(tactic| first
  | ((with_reducible refine' dE_var ?dv ?_); (case dv => rfl))
  | with_reducible refine' dE_int ?_
  | with_reducible refine' dE_str ?_
  | with_reducible refine' dE_bl ?_
  | with_reducible refine' dE_non ?_
  | ((with_reducible refine' dE_nt ?dv ?_); (case dv => assumption))
  | with_reducible refine' dE_ref ?_
  | with_reducible refine' dE_op ?_
  | with_reducible refine' dE_un ?_
  | with_reducible refine' dE_cmp ?_
  | with_reducible refine' dE_isN ?_
  | with_reducible refine' dE_notN ?_
  | with_reducible refine' dE_call ?_
  | with_reducible refine' dE_cb ?_
  | with_reducible refine' dE_kw ?_
  | with_reducible refine' dE_tup ?_
  | with_reducible refine' dE_if ?_
  | with_reducible refine' dE_and ?_
  | with_reducible refine' dE_or ?_
  | with_reducible refine' dE_not ?_
  | with_reducible refine' dE_sl ?_
  | with_reducible refine' dO_none ?_
  | with_reducible refine' dO_some ?_
  | with_reducible refine' dA_cons ?_
  | with_reducible refine' dA_nil ?_
  | with_reducible refine' dT_B ?_
  | with_reducible refine' dT_test ?_
  | with_reducible refine' dT_and ?_
  | with_reducible refine' dT_or ?_
  | with_reducible refine' dT_not ?_
  | with_reducible refine' dT_yes ?_
  | with_reducible refine' dR_I0i ?_
  | with_reducible refine' dU_neg ?_
  | ((with_reducible refine' dR_ixT ?dv ?_); (case dv => rfl))
  | with_reducible refine' dS_next ?_
  | with_reducible refine' dS_ret ?_
  | with_reducible refine' dS_drop ?_
  | with_reducible refine' dS_if ?_
  | with_reducible refine' dS_asg ?_
  | with_reducible refine' dS_par ?_
  | with_reducible refine' dG_name ?_
  | ((with_reducible refine' dG_tup ?dv ?_); (case dv => rfl); (dsimp only [List.map]))
  | with_reducible refine' dGs_cons ?_
  | with_reducible refine' dGs_nil ?_
  | with_reducible refine' dC_abs ?_
  | with_reducible refine' dC_max2 ?_
  | with_reducible refine' dC_min2 ?_
  | with_reducible refine' rtOf.of ?_
  | with_reducible refine' ex_cmp ?_
  | with_reducible refine' ex_bool ?_
  | with_reducible refine' ex_int ?_
  | with_reducible refine' ex_list ?_
  | with_reducible refine' ex_tup ?_
  | with_reducible refine' ex_d ?_
  | with_reducible refine' ex_m ?_
  | with_reducible refine' ex_par ?_
  | with_reducible refine' ex_rg1 ?_
  | with_reducible refine' ex_rg2 ?_
  | ((with_reducible refine' ex_dat ?dv ?dw ?_); (case dv => rfl); (case dw => exact Nat.le_of_ble_eq_true rfl))
  | ((fail_if_success (with_reducible show ∃ _, _)); (fail_if_success (with_reducible show _ ∧ _)); refine ⟨_, _, rfl, ?_⟩)
  | ((fail_if_success (with_reducible show ∃ _, _)); (fail_if_success (with_reducible show _ ∧ _)); refine ⟨_, rfl, ?_⟩)
  | fail)
local macro_rules | `(tactic| walk_at "e") => `(tactic| repeat' walk_at "e1")
/-- a fraction -/
def fracB : PyData → Bool
  | .tuple [.int t, .int b] => decide (0 ≤ t) && (decide (1 ≤ b) && decide (Int.gcd t b = 1))
  | _ => false
theorem frac_len : ∀ {ds : List PyData}, ds.length ≠ 2 → fracB (.tuple ds) = false
  | [], _ => rfl
  | [x], _ => by cases x <;> rfl
  | [_, _], h => absurd rfl h
  | x :: y :: _ :: _, _ => by cases x <;> first | rfl | (cases y <;> rfl)
theorem frac_two {x y : PyData} (h : isI x = false ∨ isI y = false) : fracB (.tuple [x, y]) = false := by
  unfold fracB
  split
  · rename_i e
    cases e
    rcases h with h | h <;> cases h
  · rfl
section
variable {P : Program} {w : World} {K : PySem.W.Frag} {mg : Str → Option Value} {base : Heap} {f : Addr} {fd : FuncData}
def S_frac : SpD := fun rs M P => ∃ d : PyData, rs = [.d d] ∧ (∀ ds, d = .tuple ds → ds.length ≤ 1000000) ∧ P (.d (.bool (fracB d))) M
abbrev s_is_fraction : Stmt := topS 18
theorem sc_is_fraction : FnScope ["thing", "top", "bottom"] ["thing"] (defScope s_is_fraction) := ⟨rfl, rfl, rfl, by decide +kernel, rfl, by decide +kernel, by decide +kernel⟩
theorem ok_is_fraction (T : Txt mg) (F : Fun K "is_fraction" "is_fraction" s_is_fraction f fd) (c_is_whole : Has P w K mg base 1 "is_whole" ["thing"] S_isI) (c_common_divisor : Has P w K mg base 1 "common_divisor" ["one", "other"] S_cd) : FnOk P w K mg base CX0 2 f fd ["thing"] (spOf K S_frac) := by
  refine ok_of F sc_is_fraction (fun rs M P h => by obtain ⟨a, rfl, _⟩ := h; rfl) fun cdv A outer s H E hr => ⟨_, (pss_cons (ps_if (PW.pt (pw_or (pt_not (pt_val (pe_callB (kcall_isi K) (by rfl) T.isinstance (by decide +kernel) (pa_cons (pv 0) (pa_cons (pe_bltn (v := .ty "tuple") (by rfl) T.tuple (by decide +kernel) rfl) pa_nil))))) (pw_or1 (pt_cmp (pc_neI (pe_callB (kcall_len K) (by rfl) T.len (by decide +kernel) (pa_cons (pv 0) pa_nil)) pe_int))))) (pss_one (ps_ret pe_bl)) pss_nil)
      (pss_cons (ps_asg (pv 0) (kpg_tup K (n := 2) rfl (pgs_cons (pg_name (i := 1) sc_is_fraction.nd rfl (Or.inl rfl)) (pgs_cons (pg_name (i := 2) sc_is_fraction.nd rfl (Or.inl rfl)) pgs_nil))))
      (pss_cons (ps_if (PW.pt (pw_or (pt_not (pt_val (pe_callH' c_is_whole (hr.mono (by first | decide | omega)) rfl (pa_cons (pv 1) pa_nil)))) (pw_or1 (pt_not (pt_val (pe_callH' c_is_whole (hr.mono (by first | decide | omega)) rfl (pa_cons (pv 2) pa_nil))))))) (pss_one (ps_ret pe_bl)) pss_nil)
      (pss_one (ps_ret (pe_and (pe_cmp (pc_ge (pv 1) pe_int)) (pe_and (pe_cmp (pc_ge (pv 2) pe_int)) (pe_one (pe_cmp (pc_eqI (pe_callH' c_common_divisor (hr.mono (by first | decide | omega)) rfl (pa_cons (pv 1) (pa_cons (pv 2) pa_nil))) pe_int)))))))))), fun rs M P h => ?_⟩
  obtain ⟨d, rfl, hz, p⟩ := h
  walk_at "d"
  refine dE_ty ?_
  walk_at "d"
  refine dC_isi (kit_tup d) ?_
  walk_at "d"
  cases d with
  | tuple ds =>
    refine ifF rfl ?_
    walk_at "d"
    refine dC_len (ds := ds) (.inr (.inl rfl)) ?_
    walk_at "d"
    by_cases hl : ds.length = 2
    · match ds, hl with
      | [x, y], _ =>
        refine ifF (show (!decide (((2 : Nat) : Int) = 2)) = false by decide) ?_
        walk_at "d"
        refine ifB (fun h1 => ?_) (fun h1 => ?_)
        · refine ifT rfl ?_
          walk_at "d"
          rw [frac_two (.inl (by simpa using h1))] at p
          exact p
        · walk_at "d"
          refine ifB (fun h2 => ?_) (fun h2 => ?_)
          · walk_at "d"
            rw [frac_two (.inr (by simpa using h2))] at p
            exact p
          · have i1 : isI x = true := by simpa using h1
            have i2 : isI y = true := by simpa using h2
            cases x with
            | int t =>
              cases y with
              | int b =>
                have p' : P (.d (.bool (decide (0 ≤ t) && (decide (1 ≤ b) && decide (Int.gcd t b = 1))))) M := p
                walk_at "d"
                refine ifB (fun h3 => ?_) (fun h3 => ?_)
                · rw [h3, Bool.true_and] at p'
                  walk_at "d"
                  refine ifB (fun h4 => ?_) (fun h4 => ?_)
                  · rw [h4, Bool.true_and] at p'
                    walk_at "d"
                    refine ⟨of_decide_eq_true h3, by have := of_decide_eq_true h4; omega, ?_⟩
                    walk_at "d"
                    rw [show decide (((Int.gcd t b : Nat) : Int) = 1) = decide (Int.gcd t b = 1) by
                      rw [Bool.eq_iff_iff, decide_eq_true_iff, decide_eq_true_iff]; omega]
                    exact p'
                  · rw [h4, Bool.false_and] at p'
                    exact rtOf.of p'
                · rw [h3, Bool.false_and] at p'
                  exact rtOf.of p'
              | _ => cases i2
            | _ => cases i1
    · refine ifT (by rw [decide_eq_false (by omega)]; rfl) ?_
      walk_at "d"
      rw [frac_len hl] at p
      exact p
  | _ =>
    refine ifT rfl ?_
    refine ifT rfl ?_
    walk_at "d"
    exact p
end
end K2
namespace K2
open PySem L2 Sd Ma
local macro_rules | `(tactic| walk_at "d1") => `(tactic| first
  | ((with_reducible refine' dE_var ?dv ?_); (case dv => rfl))
  | with_reducible refine' dE_int ?_
  | with_reducible refine' dE_str ?_
  | with_reducible refine' dE_bl ?_
  | with_reducible refine' dE_non ?_
  | ((with_reducible refine' dE_nt ?dv ?_); (case dv => assumption))
  | with_reducible refine' dE_ref ?_
  | with_reducible refine' dE_op ?_
  | with_reducible refine' dE_un ?_
  | with_reducible refine' dE_cmp ?_
  | with_reducible refine' dE_isN ?_
  | with_reducible refine' dE_notN ?_
  | with_reducible refine' dE_call ?_
  | with_reducible refine' dE_cb ?_
  | with_reducible refine' dE_kw ?_
  | with_reducible refine' dE_tup ?_
  | with_reducible refine' dE_if ?_
  | with_reducible refine' dE_and ?_
  | with_reducible refine' dE_or ?_
  | with_reducible refine' dE_not ?_
  | with_reducible refine' dE_sl ?_
  | with_reducible refine' dO_none ?_
  | with_reducible refine' dO_some ?_
  | with_reducible refine' dA_cons ?_
  | with_reducible refine' dA_nil ?_
  | with_reducible refine' dT_B ?_
  | with_reducible refine' dT_test ?_
  | with_reducible refine' dT_and ?_
  | with_reducible refine' dT_or ?_
  | with_reducible refine' dT_not ?_
  | with_reducible refine' dT_yes ?_
  | with_reducible refine' dR_I0i ?_
  | with_reducible refine' dU_neg ?_
  | ((with_reducible refine' dR_ixT ?dv ?_); (case dv => rfl))
  | with_reducible refine' dS_seq ?_
  | with_reducible refine' dS_next ?_
  | with_reducible refine' dS_ret ?_
  | with_reducible refine' dS_drop ?_
  | with_reducible refine' dS_if ?_
  | with_reducible refine' dS_asg ?_
  | with_reducible refine' dS_par ?_
  | with_reducible refine' dG_name ?_
  | ((with_reducible refine' dG_tup ?dv ?_); (case dv => rfl); (dsimp only [List.map]))
  | with_reducible refine' dGs_cons ?_
  | with_reducible refine' dGs_nil ?_
  | with_reducible refine' dC_abs ?_
  | with_reducible refine' dC_max2 ?_
  | with_reducible refine' dC_min2 ?_
  | with_reducible refine' rtOf.of ?_
  | with_reducible refine' ex_cmp ?_
  | with_reducible refine' ex_bool ?_
  | with_reducible refine' ex_int ?_
  | with_reducible refine' ex_list ?_
  | with_reducible refine' ex_tup ?_
  | with_reducible refine' ex_d ?_
  | with_reducible refine' ex_m ?_
  | with_reducible refine' ex_par ?_
  | with_reducible refine' ex_rg1 ?_
  | with_reducible refine' ex_rg2 ?_
  | ((with_reducible refine' ex_dat ?dv ?dw ?_); (case dv => rfl); (case dw => exact Nat.le_of_ble_eq_true rfl))
  | ((fail_if_success (with_reducible show ∃ _, _)); (fail_if_success (with_reducible show _ ∧ _)); refine ⟨_, _, rfl, ?_⟩)
  | ((fail_if_success (with_reducible show ∃ _, _)); (fail_if_success (with_reducible show _ ∧ _)); refine ⟨_, rfl, ?_⟩)
  | fail)
local macro_rules | `(tactic| walk_at "d") => `(tactic| repeat' walk_at "d1")
local macro_rules | `(tactic| walk_at "e1") => `(tactic| first
  | ((with_reducible refine' dE_var ?dv ?_); (case dv => rfl))
  | with_reducible refine' dE_int ?_
  | with_reducible refine' dE_str ?_
  | with_reducible refine' dE_bl ?_
  | with_reducible refine' dE_non ?_
  | ((with_reducible refine' dE_nt ?dv ?_); (case dv => assumption))
  | with_reducible refine' dE_ref ?_
  | with_reducible refine' dE_op ?_
  | with_reducible refine' dE_un ?_
  | with_reducible refine' dE_cmp ?_
  | with_reducible refine' dE_isN ?_
  | with_reducible refine' dE_notN ?_
  | with_reducible refine' dE_call ?_
  | with_reducible refine' dE_cb ?_
  | with_reducible refine' dE_kw ?_
  | with_reducible refine' dE_tup ?_
  | with_reducible refine' dE_if ?_
  | with_reducible refine' dE_and ?_
  | with_reducible refine' dE_or ?_
  | with_reducible refine' dE_not ?_
  | with_reducible refine' dE_sl ?_
  | with_reducible refine' dO_none ?_
  | with_reducible refine' dO_some ?_
  | with_reducible refine' dA_cons ?_
  | with_reducible refine' dA_nil ?_
  | with_reducible refine' dT_B ?_
  | with_reducible refine' dT_test ?_
  | with_reducible refine' dT_and ?_
  | with_reducible refine' dT_or ?_
  | with_reducible refine' dT_not ?_
  | with_reducible refine' dT_yes ?_
  | with_reducible refine' dR_I0i ?_
  | with_reducible refine' dU_neg ?_
  | ((with_reducible refine' dR_ixT ?dv ?_); (case dv => rfl))
  | with_reducible refine' dS_next ?_
  | with_reducible refine' dS_ret ?_
  | with_reducible refine' dS_drop ?_
  | with_reducible refine' dS_if ?_
  | with_reducible refine' dS_asg ?_
  | with_reducible refine' dS_par ?_
  | with_reducible refine' dG_name ?_
  | ((with_reducible refine' dG_tup ?dv ?_); (case dv => rfl); (dsimp only [List.map]))
  | with_reducible refine' dGs_cons ?_
  | with_reducible refine' dGs_nil ?_
  | with_reducible refine' dC_abs ?_
  | with_reducible refine' dC_max2 ?_
  | with_reducible refine' dC_min2 ?_
  | with_reducible refine' rtOf.of ?_
  | with_reducible refine' ex_cmp ?_
  | with_reducible refine' ex_bool ?_
  | with_reducible refine' ex_int ?_
  | with_reducible refine' ex_list ?_
  | with_reducible refine' ex_tup ?_
  | with_reducible refine' ex_d ?_
  | with_reducible refine' ex_m ?_
  | with_reducible refine' ex_par ?_
  | with_reducible refine' ex_rg1 ?_
  | with_reducible refine' ex_rg2 ?_
  | ((with_reducible refine' ex_dat ?dv ?dw ?_); (case dv => rfl); (case dw => exact Nat.le_of_ble_eq_true rfl))
  | ((fail_if_success (with_reducible show ∃ _, _)); (fail_if_success (with_reducible show _ ∧ _)); refine ⟨_, _, rfl, ?_⟩)
  | ((fail_if_success (with_reducible show ∃ _, _)); (fail_if_success (with_reducible show _ ∧ _)); refine ⟨_, rfl, ?_⟩)
  | fail)
local macro_rules | `(tactic| walk_at "e") => `(tactic| repeat' walk_at "e1")
/-- data as the law makes it, n times spoilt: bounded -/
inductive Gn (n : Nat) : PyData → Prop
  | non : Gn n .none
  | bool (b : Bool) : Gn n (.bool b)
  | int (i : Int) : Sz (200 + n) i → Gn n (.int i)
  | str (x : Str) : x.length ≤ 2000 * 2 ^ n → (∀ c ∈ x.cps.toList, c < 128) → Gn n (.str x)
  | list (ds : List PyData) : ds.length ≤ 10 + n → (∀ d ∈ ds, Gn n d) → Gn n (.list ds)
  | tuple (ds : List PyData) : ds.length ≤ 10 + n → (∀ d ∈ ds, Gn n d) → Gn n (.tuple ds)
def Gd (d : PyData) : Prop := ∃ n, n ≤ 8 ∧ Gn n d ∧ d.depth ≤ 20
theorem depth_mem : ∀ {ds : List PyData} {d : PyData}, d ∈ ds → d.depth ≤ PyData.depthAll ds
  | e :: ds, d, h => by
    rw [PyData.depthAll]
    rcases List.mem_cons.mp h with rfl | h
    · omega
    · have := depth_mem h; omega
theorem ascii_lay {x : Str} (h : ∀ c ∈ x.cps.toList, c < 128) : PyData.canLay0 (.str x) = true := by
  rw [PyData.canLay0]
  show x.cps.all (fun c => decide (c < 0x110000)) = true
  rw [Array.all_eq_true_iff_forall_mem]
  intro c hc
  have := h c (Array.mem_toList_iff.mpr hc)
  exact decide_eq_true (by omega)
theorem Gd.str' {x : Str} (h : Gd (.str x)) : x.length ≤ 1000000 ∧ ∀ c ∈ x.cps.toList, PyData.canLay0 (.str ⟨#[c]⟩) = true := by
  obtain ⟨n, hn, h, _⟩ := h
  cases h with
  | str _ h1 h2 =>
    refine ⟨?_, fun c hc => ?_⟩
    · have : 2 ^ n ≤ 2 ^ 8 := Nat.pow_le_pow_right (by decide) hn
      omega
    · refine ascii_lay fun k hk => ?_
      obtain rfl : k = c := List.mem_singleton.mp hk
      exact h2 k hc
theorem Gd.tup' {ds : List PyData} (h : Gd (.tuple ds)) : ds.length ≤ 1000 ∧ ∀ d ∈ ds, Gd d := by
  obtain ⟨n, hn, h, hd⟩ := h
  rw [PyData.depth] at hd
  cases h with
  | tuple _ h1 h2 => exact ⟨by omega, fun d hm => ⟨n, hn, h2 d hm, by have := depth_mem hm; omega⟩⟩
theorem Gd.name {d : PyData} (h : Gd d) : ∀ x, d = .str x → x.length ≤ 1000000 := fun x e => by subst e; exact h.str'.1
theorem Gd.lname {d : PyData} (h : Gd d) : ∀ x, d = .str x → x.length ≤ 1000000 ∧ ∀ c ∈ x.cps.toList, PyData.canLay0 (.str ⟨#[c]⟩) = true := fun x e => by subst e; exact h.str'
theorem Gd.len {d : PyData} (h : Gd d) : ∀ ds, d = .tuple ds → ds.length ≤ 1000000 := fun ds e => by subst e; have := h.tup'.1; omega
def ropeB : PyData → Bool
  | .tuple [n, a, b, c] => nameB n && (inB 0 1000 a && (inB 1 100 b && inB 1 1000000 c))
  | _ => false
theorem rope_len : ∀ {ds : List PyData}, ds.length ≠ 4 → ropeB (.tuple ds) = false
  | [], _ => rfl
  | [_], _ => rfl
  | [_, _], _ => rfl
  | [_, _, _], _ => rfl
  | [_, _, _, _], h => absurd rfl h
  | _ :: _ :: _ :: _ :: _ :: _, _ => rfl
section
variable {P : Program} {w : World} {K : PySem.W.Frag} {mg : Str → Option Value} {base : Heap} {f : Addr} {fd : FuncData}
def S_isload : SpD := fun rs M P => ∃ d : PyData, rs = [.d d] ∧ Gd d ∧ P (.d (.bool (fracB d))) M
abbrev s_is_load : Stmt := topS 26
theorem sc_is_load : FnScope ["thing"] ["thing"] (defScope s_is_load) := ⟨rfl, rfl, rfl, by decide +kernel, rfl, by decide +kernel, by decide +kernel⟩
theorem ok_is_load (F : Fun K "is_load" "is_load" s_is_load f fd) (c_is_fraction : Has P w K mg base 2 "is_fraction" ["thing"] S_frac) : FnOk P w K mg base CX0 3 f fd ["thing"] (spOf K S_isload) := by
  refine ok_of F sc_is_load (fun rs M P h => by obtain ⟨a, rfl, _⟩ := h; rfl) fun cdv A outer s H E hr => ⟨_, (pss_one (ps_ret (pe_callH' c_is_fraction (hr.mono (by first | decide | omega)) rfl (pa_cons (pv 0) pa_nil)))), fun rs M P h => ?_⟩
  obtain ⟨d, rfl, hd, p⟩ := h
  walk_at "d"
  exact ⟨hd.len, rtOf.of p⟩
def S_isrope : SpD := fun rs M P => ∃ d : PyData, rs = [.d d] ∧ Gd d ∧ P (.d (.bool (ropeB d))) M
abbrev s_is_rope : Stmt := topS 27
theorem sc_is_rope : FnScope ["thing", "name", "slack", "stiff", "strong"] ["thing"] (defScope s_is_rope) := ⟨rfl, rfl, rfl, by decide +kernel, rfl, by decide +kernel, by decide +kernel⟩
theorem ok_is_rope (C : Cst mg) (T : Txt mg) (F : Fun K "is_rope" "is_rope" s_is_rope f fd) (c_is_name : Has P w K mg base 1 "is_name" ["thing"] S_name) (c_is_within : Has P w K mg base 2 "is_within" ["thing", "least", "most"] S_inB) : FnOk P w K mg base CX0 3 f fd ["thing"] (spOf K S_isrope) := by
  refine ok_of F sc_is_rope (fun rs M P h => by obtain ⟨a, rfl, _⟩ := h; rfl) fun cdv A outer s H E hr => ⟨_, (pss_cons (ps_if (PW.pt (pw_or (pt_not (pt_val (pe_callB (kcall_isi K) (by rfl) T.isinstance (by decide +kernel) (pa_cons (pv 0) (pa_cons (pe_bltn (v := .ty "tuple") (by rfl) T.tuple (by decide +kernel) rfl) pa_nil))))) (pw_or1 (pt_cmp (pc_neI (pe_callB (kcall_len K) (by rfl) T.len (by decide +kernel) (pa_cons (pv 0) pa_nil)) pe_int))))) (pss_one (ps_ret pe_bl)) pss_nil)
      (pss_cons (ps_asg (pv 0) (kpg_tup K (n := 4) rfl (pgs_cons (pg_name (i := 1) sc_is_rope.nd rfl (Or.inl rfl)) (pgs_cons (pg_name (i := 2) sc_is_rope.nd rfl (Or.inl rfl)) (pgs_cons (pg_name (i := 3) sc_is_rope.nd rfl (Or.inl rfl)) (pgs_cons (pg_name (i := 4) sc_is_rope.nd rfl (Or.inl rfl)) pgs_nil))))))
      (pss_cons (ps_if (PW.pt (pw_or (pt_not (pt_val (pe_callH' c_is_name (hr.mono (by first | decide | omega)) rfl (pa_cons (pv 1) pa_nil)))) (pw_or1 (pt_not (pt_val (pe_callH' c_is_within (hr.mono (by first | decide | omega)) rfl (pa_cons (pv 2) (pa_cons pe_int (pa_cons (pe_globI rfl C.c_MOST_SLACK) pa_nil))))))))) (pss_one (ps_ret pe_bl)) pss_nil)
      (pss_one (ps_ret (pe_and (pe_callH' c_is_within (hr.mono (by first | decide | omega)) rfl (pa_cons (pv 3) (pa_cons pe_int (pa_cons (pe_globI rfl C.c_MOST_STIFF) pa_nil)))) (pe_one (pe_callH' c_is_within (hr.mono (by first | decide | omega)) rfl (pa_cons (pv 4) (pa_cons pe_int (pa_cons (pe_globI rfl C.c_MOST_STRONG) pa_nil))))))))))), fun rs M P h => ?_⟩
  obtain ⟨d, rfl, hd, p⟩ := h
  walk_at "d"
  refine dE_ty ?_
  walk_at "d"
  refine dC_isi (kit_tup d) ?_
  walk_at "d"
  cases d with
  | tuple ds =>
    refine ifF rfl ?_
    walk_at "d"
    refine dC_len (ds := ds) (.inr (.inl rfl)) ?_
    walk_at "d"
    by_cases hl : ds.length = 4
    · match ds, hl with
      | [n, a, b, c], _ =>
        have p' : P (.d (.bool (nameB n && (inB 0 1000 a && (inB 1 100 b && inB 1 1000000 c))))) M := p
        have hn : Gd n := hd.tup'.2 n List.mem_cons_self
        refine ifF (show (!decide (((4 : Nat) : Int) = 4)) = false by decide) ?_
        walk_at "d"
        refine ⟨hn.name, ?_⟩
        walk_at "d"
        refine ifB (fun h1 => ?_) (fun h1 => ?_)
        · refine ifT rfl ?_
          walk_at "d"
          rw [show nameB n = false by simpa using h1, Bool.false_and] at p'
          exact p'
        · rw [show nameB n = true by simpa using h1, Bool.true_and] at p'
          walk_at "d"
          refine ⟨a, 0, 1000, rfl, ?_⟩
          walk_at "d"
          refine ifB (fun h2 => ?_) (fun h2 => ?_)
          · walk_at "d"
            rw [show inB 0 1000 a = false by simpa using h2, Bool.false_and] at p'
            exact p'
          · rw [show inB 0 1000 a = true by simpa using h2, Bool.true_and] at p'
            walk_at "d"
            refine ⟨b, 1, 100, rfl, ?_⟩
            walk_at "d"
            refine ifB (fun h3 => ?_) (fun h3 => ?_)
            · rw [h3, Bool.true_and] at p'
              walk_at "d"
              exact ⟨c, 1, 1000000, rfl, rtOf.of p'⟩
            · rw [h3, Bool.false_and] at p'
              exact rtOf.of p'
    · refine ifT (by rw [decide_eq_false (by omega)]; rfl) ?_
      walk_at "d"
      rw [rope_len hl] at p
      exact p
  | _ =>
    refine ifT rfl ?_
    refine ifT rfl ?_
    walk_at "d"
    exact p
end
end K2
namespace K2
open PySem L2 Sd Ma
local macro_rules | `(tactic| walk_at "d1") => `(tactic| first
  | ((with_reducible refine' dE_var ?dv ?_); (case dv => rfl))
  | with_reducible refine' dE_int ?_
  | with_reducible refine' dE_str ?_
  | with_reducible refine' dE_bl ?_
  | with_reducible refine' dE_non ?_
  | ((with_reducible refine' dE_nt ?dv ?_); (case dv => assumption))
  | with_reducible refine' dE_ref ?_
  | with_reducible refine' dE_op ?_
  | with_reducible refine' dE_un ?_
  | with_reducible refine' dE_cmp ?_
  | with_reducible refine' dE_isN ?_
  | with_reducible refine' dE_notN ?_
  | with_reducible refine' dE_call ?_
  | with_reducible refine' dE_cb ?_
  | with_reducible refine' dE_kw ?_
  | with_reducible refine' dE_tup ?_
  | with_reducible refine' dE_if ?_
  | with_reducible refine' dE_and ?_
  | with_reducible refine' dE_or ?_
  | with_reducible refine' dE_not ?_
  | with_reducible refine' dE_sl ?_
  | with_reducible refine' dO_none ?_
  | with_reducible refine' dO_some ?_
  | with_reducible refine' dA_cons ?_
  | with_reducible refine' dA_nil ?_
  | with_reducible refine' dT_B ?_
  | with_reducible refine' dT_test ?_
  | with_reducible refine' dT_and ?_
  | with_reducible refine' dT_or ?_
  | with_reducible refine' dT_not ?_
  | with_reducible refine' dT_yes ?_
  | with_reducible refine' dR_I0i ?_
  | with_reducible refine' dU_neg ?_
  | ((with_reducible refine' dR_ixT ?dv ?_); (case dv => rfl))
  | with_reducible refine' dS_seq ?_
  | with_reducible refine' dS_next ?_
  | with_reducible refine' dS_ret ?_
  | with_reducible refine' dS_drop ?_
  | with_reducible refine' dS_if ?_
  | with_reducible refine' dS_asg ?_
  | with_reducible refine' dS_par ?_
  | with_reducible refine' dG_name ?_
  | ((with_reducible refine' dG_tup ?dv ?_); (case dv => rfl); (dsimp only [List.map]))
  | with_reducible refine' dGs_cons ?_
  | with_reducible refine' dGs_nil ?_
  | with_reducible refine' dC_abs ?_
  | with_reducible refine' dC_max2 ?_
  | with_reducible refine' dC_min2 ?_
  | with_reducible refine' rtOf.of ?_
  | with_reducible refine' ex_cmp ?_
  | with_reducible refine' ex_bool ?_
  | with_reducible refine' ex_int ?_
  | with_reducible refine' ex_list ?_
  | with_reducible refine' ex_tup ?_
  | with_reducible refine' ex_d ?_
  | with_reducible refine' ex_m ?_
  | with_reducible refine' ex_par ?_
  | with_reducible refine' ex_rg1 ?_
  | with_reducible refine' ex_rg2 ?_
  | ((with_reducible refine' ex_dat ?dv ?dw ?_); (case dv => rfl); (case dw => exact Nat.le_of_ble_eq_true rfl))
  | ((fail_if_success (with_reducible show ∃ _, _)); (fail_if_success (with_reducible show _ ∧ _)); refine ⟨_, _, rfl, ?_⟩)
  | ((fail_if_success (with_reducible show ∃ _, _)); (fail_if_success (with_reducible show _ ∧ _)); refine ⟨_, rfl, ?_⟩)
  | fail)
local macro_rules | `(tactic| walk_at "d") => `(tactic| repeat' walk_at "d1")
local macro_rules | `(tactic| walk_at "e1") => `(tactic| first
  | ((with_reducible refine' dE_var ?dv ?_); (case dv => rfl))
  | with_reducible refine' dE_int ?_
  | with_reducible refine' dE_str ?_
  | with_reducible refine' dE_bl ?_
  | with_reducible refine' dE_non ?_
  | ((with_reducible refine' dE_nt ?dv ?_); (case dv => assumption))
  | with_reducible refine' dE_ref ?_
  | with_reducible refine' dE_op ?_
  | with_reducible refine' dE_un ?_
  | with_reducible refine' dE_cmp ?_
  | with_reducible refine' dE_isN ?_
  | with_reducible refine' dE_notN ?_
  | with_reducible refine' dE_call ?_
  | with_reducible refine' dE_cb ?_
  | with_reducible refine' dE_kw ?_
  | with_reducible refine' dE_tup ?_
  | with_reducible refine' dE_if ?_
  | with_reducible refine' dE_and ?_
  | with_reducible refine' dE_or ?_
  | with_reducible refine' dE_not ?_
  | with_reducible refine' dE_sl ?_
  | with_reducible refine' dO_none ?_
  | with_reducible refine' dO_some ?_
  | with_reducible refine' dA_cons ?_
  | with_reducible refine' dA_nil ?_
  | with_reducible refine' dT_B ?_
  | with_reducible refine' dT_test ?_
  | with_reducible refine' dT_and ?_
  | with_reducible refine' dT_or ?_
  | with_reducible refine' dT_not ?_
  | with_reducible refine' dT_yes ?_
  | with_reducible refine' dR_I0i ?_
  | with_reducible refine' dU_neg ?_
  | ((with_reducible refine' dR_ixT ?dv ?_); (case dv => rfl))
  | with_reducible refine' dS_next ?_
  | with_reducible refine' dS_ret ?_
  | with_reducible refine' dS_drop ?_
  | with_reducible refine' dS_if ?_
  | with_reducible refine' dS_asg ?_
  | with_reducible refine' dS_par ?_
  | with_reducible refine' dG_name ?_
  | ((with_reducible refine' dG_tup ?dv ?_); (case dv => rfl); (dsimp only [List.map]))
  | with_reducible refine' dGs_cons ?_
  | with_reducible refine' dGs_nil ?_
  | with_reducible refine' dC_abs ?_
  | with_reducible refine' dC_max2 ?_
  | with_reducible refine' dC_min2 ?_
  | with_reducible refine' rtOf.of ?_
  | with_reducible refine' ex_cmp ?_
  | with_reducible refine' ex_bool ?_
  | with_reducible refine' ex_int ?_
  | with_reducible refine' ex_list ?_
  | with_reducible refine' ex_tup ?_
  | with_reducible refine' ex_d ?_
  | with_reducible refine' ex_m ?_
  | with_reducible refine' ex_par ?_
  | with_reducible refine' ex_rg1 ?_
  | with_reducible refine' ex_rg2 ?_
  | ((with_reducible refine' ex_dat ?dv ?dw ?_); (case dv => rfl); (case dw => exact Nat.le_of_ble_eq_true rfl))
  | ((fail_if_success (with_reducible show ∃ _, _)); (fail_if_success (with_reducible show _ ∧ _)); refine ⟨_, _, rfl, ?_⟩)
  | ((fail_if_success (with_reducible show ∃ _, _)); (fail_if_success (with_reducible show _ ∧ _)); refine ⟨_, rfl, ?_⟩)
  | fail)
local macro_rules | `(tactic| walk_at "e") => `(tactic| repeat' walk_at "e1")
theorem lay_all : ∀ {ds : List PyData}, (∀ d ∈ ds, d.canLay0 = true) → PyData.canLayAll0 ds = true
  | [], _ => rfl
  | d :: ds, h => by rw [PyData.canLayAll0, h d List.mem_cons_self, lay_all fun d hd => h d (List.mem_cons_of_mem _ hd)]; rfl
theorem Gn.lay {n : Nat} {d : PyData} (h : Gn n d) : d.canLay0 = true := by
  induction h with
  | non => rfl
  | bool b => rfl
  | int i _ => rfl
  | str x _ h => exact ascii_lay h
  | list ds _ _ ih => rw [PyData.canLay0]; exact lay_all ih
  | tuple ds _ _ ih => rw [PyData.canLay0]; exact lay_all ih
theorem Gd.shp {d : PyData} (h : Gd d) : Shp 20 d := by
  obtain ⟨n, _, h1, h2⟩ := h
  exact ⟨h1.lay, h2⟩
theorem fr_eqv1 {x y : Q} : PyData.eqv (fr x) (fr y) = decide (x = y) := by
  show (PyData.eqv (.int x.1) (.int y.1) && (PyData.eqv (.int x.2) (.int y.2) && true)) = _
  rw [Bool.and_true, Bool.eq_iff_iff, Bool.and_eq_true, decide_eq_true_iff]
  show (decide (x.1 = y.1) = true ∧ decide (x.2 = y.2) = true) ↔ _
  rw [decide_eq_true_iff, decide_eq_true_iff, Prod.ext_iff]
theorem low_self {t b : Int} (ht : 0 ≤ t) (hb : 0 < b) : (low t b = (t, b)) ↔ Int.gcd t b = 1 := by
  have hr := low_red ht hb
  constructor
  · intro e
    rw [e] at hr
    exact hr.co
  · intro e
    unfold low
    rw [e]
    simp
end K2
namespace K2
open PySem L2 Sd Ma
local macro_rules | `(tactic| walk_at "d1") => `(tactic| first
  | ((with_reducible refine' dE_var ?dv ?_); (case dv => rfl))
  | with_reducible refine' dE_int ?_
  | with_reducible refine' dE_str ?_
  | with_reducible refine' dE_bl ?_
  | with_reducible refine' dE_non ?_
  | ((with_reducible refine' dE_nt ?dv ?_); (case dv => assumption))
  | with_reducible refine' dE_ref ?_
  | with_reducible refine' dE_op ?_
  | with_reducible refine' dE_un ?_
  | with_reducible refine' dE_cmp ?_
  | with_reducible refine' dE_isN ?_
  | with_reducible refine' dE_notN ?_
  | with_reducible refine' dE_call ?_
  | with_reducible refine' dE_cb ?_
  | with_reducible refine' dE_kw ?_
  | with_reducible refine' dE_tup ?_
  | with_reducible refine' dE_if ?_
  | with_reducible refine' dE_and ?_
  | with_reducible refine' dE_or ?_
  | with_reducible refine' dE_not ?_
  | with_reducible refine' dE_sl ?_
  | with_reducible refine' dO_none ?_
  | with_reducible refine' dO_some ?_
  | with_reducible refine' dA_cons ?_
  | with_reducible refine' dA_nil ?_
  | with_reducible refine' dT_B ?_
  | with_reducible refine' dT_test ?_
  | with_reducible refine' dT_and ?_
  | with_reducible refine' dT_or ?_
  | with_reducible refine' dT_not ?_
  | with_reducible refine' dT_yes ?_
  | with_reducible refine' dR_I0i ?_
  | with_reducible refine' dU_neg ?_
  | ((with_reducible refine' dR_ixT ?dv ?_); (case dv => rfl))
  | with_reducible refine' dS_seq ?_
  | with_reducible refine' dS_next ?_
  | with_reducible refine' dS_ret ?_
  | with_reducible refine' dS_drop ?_
  | with_reducible refine' dS_if ?_
  | with_reducible refine' dS_asg ?_
  | with_reducible refine' dS_par ?_
  | with_reducible refine' dG_name ?_
  | ((with_reducible refine' dG_tup ?dv ?_); (case dv => rfl); (dsimp only [List.map]))
  | with_reducible refine' dGs_cons ?_
  | with_reducible refine' dGs_nil ?_
  | with_reducible refine' dC_abs ?_
  | with_reducible refine' dC_max2 ?_
  | with_reducible refine' dC_min2 ?_
  | with_reducible refine' rtOf.of ?_
  | with_reducible refine' ex_cmp ?_
  | with_reducible refine' ex_bool ?_
  | with_reducible refine' ex_int ?_
  | with_reducible refine' ex_list ?_
  | with_reducible refine' ex_tup ?_
  | with_reducible refine' ex_d ?_
  | with_reducible refine' ex_m ?_
  | with_reducible refine' ex_par ?_
  | with_reducible refine' ex_rg1 ?_
  | with_reducible refine' ex_rg2 ?_
  | ((with_reducible refine' ex_dat ?dv ?dw ?_); (case dv => rfl); (case dw => exact Nat.le_of_ble_eq_true rfl))
  | ((fail_if_success (with_reducible show ∃ _, _)); (fail_if_success (with_reducible show _ ∧ _)); refine ⟨_, _, rfl, ?_⟩)
  | ((fail_if_success (with_reducible show ∃ _, _)); (fail_if_success (with_reducible show _ ∧ _)); refine ⟨_, rfl, ?_⟩)
  | fail)
local macro_rules | `(tactic| walk_at "d") => `(tactic| repeat' walk_at "d1")
local macro_rules | `(tactic| walk_at "e1") => `(tactic| first
  | ((with_reducible refine' dE_var ?dv ?_); (case dv => rfl))
  | with_reducible refine' dE_int ?_
  | with_reducible refine' dE_str ?_
  | with_reducible refine' dE_bl ?_
  | with_reducible refine' dE_non ?_
  | ((with_reducible refine' dE_nt ?dv ?_); (case dv => assumption))
  | with_reducible refine' dE_ref ?_
  | with_reducible refine' dE_op ?_
  | with_reducible refine' dE_un ?_
  | with_reducible refine' dE_cmp ?_
  | with_reducible refine' dE_isN ?_
  | with_reducible refine' dE_notN ?_
  | with_reducible refine' dE_call ?_
  | with_reducible refine' dE_cb ?_
  | with_reducible refine' dE_kw ?_
  | with_reducible refine' dE_tup ?_
  | with_reducible refine' dE_if ?_
  | with_reducible refine' dE_and ?_
  | with_reducible refine' dE_or ?_
  | with_reducible refine' dE_not ?_
  | with_reducible refine' dE_sl ?_
  | with_reducible refine' dO_none ?_
  | with_reducible refine' dO_some ?_
  | with_reducible refine' dA_cons ?_
  | with_reducible refine' dA_nil ?_
  | with_reducible refine' dT_B ?_
  | with_reducible refine' dT_test ?_
  | with_reducible refine' dT_and ?_
  | with_reducible refine' dT_or ?_
  | with_reducible refine' dT_not ?_
  | with_reducible refine' dT_yes ?_
  | with_reducible refine' dR_I0i ?_
  | with_reducible refine' dU_neg ?_
  | ((with_reducible refine' dR_ixT ?dv ?_); (case dv => rfl))
  | with_reducible refine' dS_next ?_
  | with_reducible refine' dS_ret ?_
  | with_reducible refine' dS_drop ?_
  | with_reducible refine' dS_if ?_
  | with_reducible refine' dS_asg ?_
  | with_reducible refine' dS_par ?_
  | with_reducible refine' dG_name ?_
  | ((with_reducible refine' dG_tup ?dv ?_); (case dv => rfl); (dsimp only [List.map]))
  | with_reducible refine' dGs_cons ?_
  | with_reducible refine' dGs_nil ?_
  | with_reducible refine' dC_abs ?_
  | with_reducible refine' dC_max2 ?_
  | with_reducible refine' dC_min2 ?_
  | with_reducible refine' rtOf.of ?_
  | with_reducible refine' ex_cmp ?_
  | with_reducible refine' ex_bool ?_
  | with_reducible refine' ex_int ?_
  | with_reducible refine' ex_list ?_
  | with_reducible refine' ex_tup ?_
  | with_reducible refine' ex_d ?_
  | with_reducible refine' ex_m ?_
  | with_reducible refine' ex_par ?_
  | with_reducible refine' ex_rg1 ?_
  | with_reducible refine' ex_rg2 ?_
  | ((with_reducible refine' ex_dat ?dv ?dw ?_); (case dv => rfl); (case dw => exact Nat.le_of_ble_eq_true rfl))
  | ((fail_if_success (with_reducible show ∃ _, _)); (fail_if_success (with_reducible show _ ∧ _)); refine ⟨_, _, rfl, ?_⟩)
  | ((fail_if_success (with_reducible show ∃ _, _)); (fail_if_success (with_reducible show _ ∧ _)); refine ⟨_, rfl, ?_⟩)
  | fail)
local macro_rules | `(tactic| walk_at "e") => `(tactic| repeat' walk_at "e1")
def nmOf : PyData → Str
  | .tuple (.str x :: _) => x
  | _ => ""
end K2
namespace K2
open PySem L2 Sd Ma
local macro_rules | `(tactic| walk_at "d1") => `(tactic| first
  | ((with_reducible refine' dE_var ?dv ?_); (case dv => rfl))
  | with_reducible refine' dE_int ?_
  | with_reducible refine' dE_str ?_
  | with_reducible refine' dE_bl ?_
  | with_reducible refine' dE_non ?_
  | ((with_reducible refine' dE_nt ?dv ?_); (case dv => assumption))
  | with_reducible refine' dE_ref ?_
  | with_reducible refine' dE_op ?_
  | with_reducible refine' dE_un ?_
  | with_reducible refine' dE_cmp ?_
  | with_reducible refine' dE_isN ?_
  | with_reducible refine' dE_notN ?_
  | with_reducible refine' dE_call ?_
  | with_reducible refine' dE_cb ?_
  | with_reducible refine' dE_kw ?_
  | with_reducible refine' dE_tup ?_
  | with_reducible refine' dE_if ?_
  | with_reducible refine' dE_and ?_
  | with_reducible refine' dE_or ?_
  | with_reducible refine' dE_not ?_
  | with_reducible refine' dE_sl ?_
  | with_reducible refine' dO_none ?_
  | with_reducible refine' dO_some ?_
  | with_reducible refine' dA_cons ?_
  | with_reducible refine' dA_nil ?_
  | with_reducible refine' dT_B ?_
  | with_reducible refine' dT_test ?_
  | with_reducible refine' dT_and ?_
  | with_reducible refine' dT_or ?_
  | with_reducible refine' dT_not ?_
  | with_reducible refine' dT_yes ?_
  | with_reducible refine' dR_I0i ?_
  | with_reducible refine' dU_neg ?_
  | ((with_reducible refine' dR_ixT ?dv ?_); (case dv => rfl))
  | with_reducible refine' dS_seq ?_
  | with_reducible refine' dS_next ?_
  | with_reducible refine' dS_ret ?_
  | with_reducible refine' dS_drop ?_
  | with_reducible refine' dS_if ?_
  | with_reducible refine' dS_asg ?_
  | with_reducible refine' dS_par ?_
  | with_reducible refine' dG_name ?_
  | ((with_reducible refine' dG_tup ?dv ?_); (case dv => rfl); (dsimp only [List.map]))
  | with_reducible refine' dGs_cons ?_
  | with_reducible refine' dGs_nil ?_
  | with_reducible refine' dC_abs ?_
  | with_reducible refine' dC_max2 ?_
  | with_reducible refine' dC_min2 ?_
  | with_reducible refine' rtOf.of ?_
  | with_reducible refine' ex_cmp ?_
  | with_reducible refine' ex_bool ?_
  | with_reducible refine' ex_int ?_
  | with_reducible refine' ex_list ?_
  | with_reducible refine' ex_tup ?_
  | with_reducible refine' ex_d ?_
  | with_reducible refine' ex_m ?_
  | with_reducible refine' ex_par ?_
  | with_reducible refine' ex_rg1 ?_
  | with_reducible refine' ex_rg2 ?_
  | ((with_reducible refine' ex_dat ?dv ?dw ?_); (case dv => rfl); (case dw => exact Nat.le_of_ble_eq_true rfl))
  | ((fail_if_success (with_reducible show ∃ _, _)); (fail_if_success (with_reducible show _ ∧ _)); refine ⟨_, _, rfl, ?_⟩)
  | ((fail_if_success (with_reducible show ∃ _, _)); (fail_if_success (with_reducible show _ ∧ _)); refine ⟨_, rfl, ?_⟩)
  | fail)
local macro_rules | `(tactic| walk_at "d") => `(tactic| repeat' walk_at "d1")
local macro_rules | `(tactic| walk_at "e1") => `(tactic| first
  | ((with_reducible refine' dE_var ?dv ?_); (case dv => rfl))
  | with_reducible refine' dE_int ?_
  | with_reducible refine' dE_str ?_
  | with_reducible refine' dE_bl ?_
  | with_reducible refine' dE_non ?_
  | ((with_reducible refine' dE_nt ?dv ?_); (case dv => assumption))
  | with_reducible refine' dE_ref ?_
  | with_reducible refine' dE_op ?_
  | with_reducible refine' dE_un ?_
  | with_reducible refine' dE_cmp ?_
  | with_reducible refine' dE_isN ?_
  | with_reducible refine' dE_notN ?_
  | with_reducible refine' dE_call ?_
  | with_reducible refine' dE_cb ?_
  | with_reducible refine' dE_kw ?_
  | with_reducible refine' dE_tup ?_
  | with_reducible refine' dE_if ?_
  | with_reducible refine' dE_and ?_
  | with_reducible refine' dE_or ?_
  | with_reducible refine' dE_not ?_
  | with_reducible refine' dE_sl ?_
  | with_reducible refine' dO_none ?_
  | with_reducible refine' dO_some ?_
  | with_reducible refine' dA_cons ?_
  | with_reducible refine' dA_nil ?_
  | with_reducible refine' dT_B ?_
  | with_reducible refine' dT_test ?_
  | with_reducible refine' dT_and ?_
  | with_reducible refine' dT_or ?_
  | with_reducible refine' dT_not ?_
  | with_reducible refine' dT_yes ?_
  | with_reducible refine' dR_I0i ?_
  | with_reducible refine' dU_neg ?_
  | ((with_reducible refine' dR_ixT ?dv ?_); (case dv => rfl))
  | with_reducible refine' dS_next ?_
  | with_reducible refine' dS_ret ?_
  | with_reducible refine' dS_drop ?_
  | with_reducible refine' dS_if ?_
  | with_reducible refine' dS_asg ?_
  | with_reducible refine' dS_par ?_
  | with_reducible refine' dG_name ?_
  | ((with_reducible refine' dG_tup ?dv ?_); (case dv => rfl); (dsimp only [List.map]))
  | with_reducible refine' dGs_cons ?_
  | with_reducible refine' dGs_nil ?_
  | with_reducible refine' dC_abs ?_
  | with_reducible refine' dC_max2 ?_
  | with_reducible refine' dC_min2 ?_
  | with_reducible refine' rtOf.of ?_
  | with_reducible refine' ex_cmp ?_
  | with_reducible refine' ex_bool ?_
  | with_reducible refine' ex_int ?_
  | with_reducible refine' ex_list ?_
  | with_reducible refine' ex_tup ?_
  | with_reducible refine' ex_d ?_
  | with_reducible refine' ex_m ?_
  | with_reducible refine' ex_par ?_
  | with_reducible refine' ex_rg1 ?_
  | with_reducible refine' ex_rg2 ?_
  | ((with_reducible refine' ex_dat ?dv ?dw ?_); (case dv => rfl); (case dw => exact Nat.le_of_ble_eq_true rfl))
  | ((fail_if_success (with_reducible show ∃ _, _)); (fail_if_success (with_reducible show _ ∧ _)); refine ⟨_, _, rfl, ?_⟩)
  | ((fail_if_success (with_reducible show ∃ _, _)); (fail_if_success (with_reducible show _ ∧ _)); refine ⟨_, rfl, ?_⟩)
  | fail)
local macro_rules | `(tactic| walk_at "e") => `(tactic| repeat' walk_at "e1")
theorem Gn.up {n m : Nat} {d : PyData} (h : Gn n d) (k : n ≤ m) : Gn m d := by
  induction h with
  | non => exact .non
  | bool b => exact .bool b
  | int i h => exact .int i (h.up (by omega))
  | str x h1 h2 => exact .str x (Nat.le_trans h1 (Nat.mul_le_mul_left _ (Nat.pow_le_pow_right (by decide) k))) h2
  | list ds h1 _ ih => exact .list ds (by omega) ih
  | tuple ds h1 _ ih => exact .tuple ds (by omega) ih
mutual
def gB : PyData → Bool
  | .none => true
  | .bool _ => true
  | .int i => decide (i.natAbs < 2 ^ 200)
  | .str x => decide (x.length ≤ 2000) && x.cps.toList.all fun c => decide (c < 128)
  | .list ds => decide (ds.length ≤ 10) && gBs ds
  | .tuple ds => decide (ds.length ≤ 10) && gBs ds
  | .dict _ => false
def gBs : List PyData → Bool
  | [] => true
  | d :: ds => gB d && gBs ds
end
mutual
theorem gB_ok : ∀ d : PyData, gB d = true → Gn 0 d
  | .none, _ => .non
  | .bool b, _ => .bool b
  | .int i, h => by
    rw [gB] at h
    exact .int i (show i.natAbs < 2 ^ 200 from of_decide_eq_true h)
  | .str x, h => by
    rw [gB, Bool.and_eq_true, List.all_eq_true] at h
    exact .str x (by have := of_decide_eq_true h.1; omega) fun c hc => of_decide_eq_true (h.2 c hc)
  | .list ds, h => by
    rw [gB, Bool.and_eq_true] at h
    exact .list ds (by have := of_decide_eq_true h.1; omega) (gBs_ok ds h.2)
  | .tuple ds, h => by
    rw [gB, Bool.and_eq_true] at h
    exact .tuple ds (by have := of_decide_eq_true h.1; omega) (gBs_ok ds h.2)
  | .dict _, h => by rw [gB] at h; cases h
theorem gBs_ok : ∀ ds : List PyData, gBs ds = true → ∀ d ∈ ds, Gn 0 d
  | [], _, _, hm => by cases hm
  | d :: ds, h, e, hm => by
    rw [gBs, Bool.and_eq_true] at h
    have g := gB_ok d h.1
    rcases List.mem_cons.mp hm with hm | hm
    · rw [hm]; exact g
    · exact gBs_ok ds h.2 e hm
end
def oddL : List PyData := [.none, .bool true, .bool false, .int 0, .int 1, .int (-1), .int 5, .int (10 ^ 30), .str "", .str "ann", .tuple [], .list [], .tuple [.int 1, .int 2], .tuple [.int (-1), .int 2], .tuple [.int 2, .int 4], .tuple [.int 0, .int 2], .tuple [.int 0, .int 1]]
  ++ [.tuple [.none], .tuple [.str "ann", .int 1, .int 1, .int 1], .tuple [.str "ann", .int 0, .int 0, .int 1], .tuple [.tuple [.str "ann", .int 0, .int 1, .int 1]], .tuple [.str "ann", .bool true, .int 1, .int 1], .tuple [.int 1, .int 0]]
theorem oddL_g : gBs oddL = true := by decide +kernel
theorem oddL_d : (oddL.all fun d => decide (d.depth ≤ 2)) = true := by decide +kernel
theorem odd_ok {d : PyData} (h : d ∈ oddL) : Gn 0 d ∧ d.depth ≤ 2 := ⟨gBs_ok _ oddL_g d h, of_decide_eq_true (List.all_eq_true.mp oddL_d d h)⟩
section
variable {P : Program} {w : World} {K : PySem.W.Frag} {mg : Str → Option Value} {base : Heap} {f : Addr} {fd : FuncData}
def S_odd : SpD := fun rs M P => ∃ b : Addr, rs = [.m b] ∧ BI M b ∧ ∀ d M', Gn 0 d → d.depth ≤ 2 → BS M b M' → P (.d d) M'
abbrev s_law_odd : Stmt := topS 50
theorem sc_law_odd : FnScope ["bag", "some"] ["bag"] (defScope s_law_odd) := ⟨rfl, rfl, rfl, by decide +kernel, rfl, by decide +kernel, by decide +kernel⟩
theorem ok_law_odd (T : Txt mg) (F : Fun K "_law_odd" "_law_odd" s_law_odd f fd) (c_law_take : Has P w K mg base 1 "_law_take" ["bag", "many"] S_take) : FnOk P w K mg base CX0 2 f fd ["bag"] (spOf K S_odd) := by
  refine ok_of F sc_law_odd (fun rs M P h => by obtain ⟨a, rfl, _⟩ := h; rfl) fun cdv A outer s H E hr => ⟨_, (pss_cons (ps_set (i := 1) sc_law_odd.nd rfl (Or.inl rfl) (pe_lst (pa_cons pe_non (pa_cons pe_bl (pa_cons pe_bl (pa_cons pe_int (pa_cons pe_int (pa_cons (pe_un un_neg pe_int) (pa_cons pe_int (pa_cons (pe_op op_pow pe_int pe_int) (pa_cons pe_str (pa_cons pe_str (pa_cons (pe_tup pa_nil) (pa_cons (pe_lst pa_nil) (pa_cons (pe_tup (pa_cons pe_int (pa_cons pe_int pa_nil))) (pa_cons (pe_tup (pa_cons (pe_un un_neg pe_int) (pa_cons pe_int pa_nil))) (pa_cons (pe_tup (pa_cons pe_int (pa_cons pe_int pa_nil))) (pa_cons (pe_tup (pa_cons pe_int (pa_cons pe_int pa_nil))) (pa_cons (pe_tup (pa_cons pe_int (pa_cons pe_int pa_nil))) pa_nil)))))))))))))))))))
      (pss_cons (ps_set (i := 1) sc_law_odd.nd rfl (Or.inl rfl) (pe_op op_cat (pv 1) (pe_lst (pa_cons (pe_tup (pa_cons pe_non pa_nil)) (pa_cons (pe_tup (pa_cons pe_str (pa_cons pe_int (pa_cons pe_int (pa_cons pe_int pa_nil))))) (pa_cons (pe_tup (pa_cons pe_str (pa_cons pe_int (pa_cons pe_int (pa_cons pe_int pa_nil))))) (pa_cons (pe_tup (pa_cons (pe_tup (pa_cons pe_str (pa_cons pe_int (pa_cons pe_int (pa_cons pe_int pa_nil))))) pa_nil)) (pa_cons (pe_tup (pa_cons pe_str (pa_cons pe_bl (pa_cons pe_int (pa_cons pe_int pa_nil))))) (pa_cons (pe_tup (pa_cons pe_int (pa_cons pe_int pa_nil))) pa_nil)))))))))
      (pss_one (ps_ret (pe_ix (kix_list K) (pv 1) (pe_callH' c_law_take (hr.mono (by first | decide | omega)) rfl (pa_cons (pv 0) (pa_cons (pe_callB (kcall_len K) (by rfl) T.len (by decide +kernel) (pa_cons (pv 1) pa_nil)) pa_nil))) (fun _ _ => rfl)))))), fun rs M P h => ?_⟩
  obtain ⟨b, rfl, hb, p⟩ := h
  walk_at "d"
  refine dE_lst ?_
  walk_at "d"
  refine dR_Ii (show CPow 10 30 from ⟨by decide, by decide, by decide⟩) ?_
  walk_at "d"
  refine dE_lst ?_
  walk_at "d"
  refine dE_lst ?_
  walk_at "d"
  refine dR_cat (.inl rfl) (.inl rfl) (by decide) ?_
  refine dG_name ?_
  have e : ∀ es : List PyData, es = oddL → dS K (tRet (tOp (rIxL K) (tVar 1) (tCall (spOf K S_take) [] E0 (tCons (tVar 0) (tCons (tCB (fun xs H Q => ∃ p ys, xs = [.ref p] ∧ (SqL K H p ys ∨ SqT K H p ys) ∧ Q (.int ys.length) H) (tCons (tVar 1) tNil)) tNil))))) { nx := fun x M' => rtOf P (SV.d PyData.none) M', rt := rtOf P } [some (.m b), some (.d (.list es))] M := fun es hes => by
    walk_at "d"
    refine dC_len (ds := es) (.inl rfl) ?_
    walk_at "d"
    refine ⟨by rw [hes]; decide, by rw [hes]; decide, hb, fun i M' i0 i1 hB => ?_⟩
    obtain ⟨d, hd, hdm⟩ := atI_nat' (es := es) i0 i1
    rw [hes] at hdm
    refine dR_ixL (ds := es) (.inl rfl) hd (rtOf.of (p d M' (odd_ok hdm).1 (odd_ok hdm).2 hB))
  exact e _ rfl
end
end K2
namespace K2
open PySem L2 Sd Ma
local macro_rules | `(tactic| walk_at "d1") => `(tactic| first
  | ((with_reducible refine' dE_var ?dv ?_); (case dv => rfl))
  | with_reducible refine' dE_int ?_
  | with_reducible refine' dE_str ?_
  | with_reducible refine' dE_bl ?_
  | with_reducible refine' dE_non ?_
  | ((with_reducible refine' dE_nt ?dv ?_); (case dv => assumption))
  | with_reducible refine' dE_ref ?_
  | with_reducible refine' dE_op ?_
  | with_reducible refine' dE_un ?_
  | with_reducible refine' dE_cmp ?_
  | with_reducible refine' dE_isN ?_
  | with_reducible refine' dE_notN ?_
  | with_reducible refine' dE_call ?_
  | with_reducible refine' dE_cb ?_
  | with_reducible refine' dE_kw ?_
  | with_reducible refine' dE_tup ?_
  | with_reducible refine' dE_if ?_
  | with_reducible refine' dE_and ?_
  | with_reducible refine' dE_or ?_
  | with_reducible refine' dE_not ?_
  | with_reducible refine' dE_sl ?_
  | with_reducible refine' dO_none ?_
  | with_reducible refine' dO_some ?_
  | with_reducible refine' dA_cons ?_
  | with_reducible refine' dA_nil ?_
  | with_reducible refine' dT_B ?_
  | with_reducible refine' dT_test ?_
  | with_reducible refine' dT_and ?_
  | with_reducible refine' dT_or ?_
  | with_reducible refine' dT_not ?_
  | with_reducible refine' dT_yes ?_
  | with_reducible refine' dR_I0i ?_
  | with_reducible refine' dU_neg ?_
  | ((with_reducible refine' dR_ixT ?dv ?_); (case dv => rfl))
  | with_reducible refine' dS_seq ?_
  | with_reducible refine' dS_next ?_
  | with_reducible refine' dS_ret ?_
  | with_reducible refine' dS_drop ?_
  | with_reducible refine' dS_if ?_
  | with_reducible refine' dS_asg ?_
  | with_reducible refine' dS_par ?_
  | with_reducible refine' dG_name ?_
  | ((with_reducible refine' dG_tup ?dv ?_); (case dv => rfl); (dsimp only [List.map]))
  | with_reducible refine' dGs_cons ?_
  | with_reducible refine' dGs_nil ?_
  | with_reducible refine' dC_abs ?_
  | with_reducible refine' dC_max2 ?_
  | with_reducible refine' dC_min2 ?_
  | with_reducible refine' rtOf.of ?_
  | with_reducible refine' ex_cmp ?_
  | with_reducible refine' ex_bool ?_
  | with_reducible refine' ex_int ?_
  | with_reducible refine' ex_list ?_
  | with_reducible refine' ex_tup ?_
  | with_reducible refine' ex_d ?_
  | with_reducible refine' ex_m ?_
  | with_reducible refine' ex_par ?_
  | with_reducible refine' ex_rg1 ?_
  | with_reducible refine' ex_rg2 ?_
  | ((with_reducible refine' ex_dat ?dv ?dw ?_); (case dv => rfl); (case dw => exact Nat.le_of_ble_eq_true rfl))
  | ((fail_if_success (with_reducible show ∃ _, _)); (fail_if_success (with_reducible show _ ∧ _)); refine ⟨_, _, rfl, ?_⟩)
  | ((fail_if_success (with_reducible show ∃ _, _)); (fail_if_success (with_reducible show _ ∧ _)); refine ⟨_, rfl, ?_⟩)
  | fail)
local macro_rules | `(tactic| walk_at "d") => `(tactic| repeat' walk_at "d1")
local macro_rules | `(tactic| walk_at "e1") => `(tactic| first
  | ((with_reducible refine' dE_var ?dv ?_); (case dv => rfl))
  | with_reducible refine' dE_int ?_
  | with_reducible refine' dE_str ?_
  | with_reducible refine' dE_bl ?_
  | with_reducible refine' dE_non ?_
  | ((with_reducible refine' dE_nt ?dv ?_); (case dv => assumption))
  | with_reducible refine' dE_ref ?_
  | with_reducible refine' dE_op ?_
  | with_reducible refine' dE_un ?_
  | with_reducible refine' dE_cmp ?_
  | with_reducible refine' dE_isN ?_
  | with_reducible refine' dE_notN ?_
  | with_reducible refine' dE_call ?_
  | with_reducible refine' dE_cb ?_
  | with_reducible refine' dE_kw ?_
  | with_reducible refine' dE_tup ?_
  | with_reducible refine' dE_if ?_
  | with_reducible refine' dE_and ?_
  | with_reducible refine' dE_or ?_
  | with_reducible refine' dE_not ?_
  | with_reducible refine' dE_sl ?_
  | with_reducible refine' dO_none ?_
  | with_reducible refine' dO_some ?_
  | with_reducible refine' dA_cons ?_
  | with_reducible refine' dA_nil ?_
  | with_reducible refine' dT_B ?_
  | with_reducible refine' dT_test ?_
  | with_reducible refine' dT_and ?_
  | with_reducible refine' dT_or ?_
  | with_reducible refine' dT_not ?_
  | with_reducible refine' dT_yes ?_
  | with_reducible refine' dR_I0i ?_
  | with_reducible refine' dU_neg ?_
  | ((with_reducible refine' dR_ixT ?dv ?_); (case dv => rfl))
  | with_reducible refine' dS_next ?_
  | with_reducible refine' dS_ret ?_
  | with_reducible refine' dS_drop ?_
  | with_reducible refine' dS_if ?_
  | with_reducible refine' dS_asg ?_
  | with_reducible refine' dS_par ?_
  | with_reducible refine' dG_name ?_
  | ((with_reducible refine' dG_tup ?dv ?_); (case dv => rfl); (dsimp only [List.map]))
  | with_reducible refine' dGs_cons ?_
  | with_reducible refine' dGs_nil ?_
  | with_reducible refine' dC_abs ?_
  | with_reducible refine' dC_max2 ?_
  | with_reducible refine' dC_min2 ?_
  | with_reducible refine' rtOf.of ?_
  | with_reducible refine' ex_cmp ?_
  | with_reducible refine' ex_bool ?_
  | with_reducible refine' ex_int ?_
  | with_reducible refine' ex_list ?_
  | with_reducible refine' ex_tup ?_
  | with_reducible refine' ex_d ?_
  | with_reducible refine' ex_m ?_
  | with_reducible refine' ex_par ?_
  | with_reducible refine' ex_rg1 ?_
  | with_reducible refine' ex_rg2 ?_
  | ((with_reducible refine' ex_dat ?dv ?dw ?_); (case dv => rfl); (case dw => exact Nat.le_of_ble_eq_true rfl))
  | ((fail_if_success (with_reducible show ∃ _, _)); (fail_if_success (with_reducible show _ ∧ _)); refine ⟨_, _, rfl, ?_⟩)
  | ((fail_if_success (with_reducible show ∃ _, _)); (fail_if_success (with_reducible show _ ∧ _)); refine ⟨_, rfl, ?_⟩)
  | fail)
local macro_rules | `(tactic| walk_at "e") => `(tactic| repeat' walk_at "e1")
structure Wk (K : PySem.W.Frag) (C : Addr) : Prop where
  cl : Cls K C
  strands : NoAttr K C "strands"
  gone : NoAttr K C "gone"
  weight : NoAttr K C "weight"
  story : NoAttr K C "story"
  falls : NoAttr K C "falls"
  busy : NoAttr K C "busy"
/-- an error class that says a text only -/
structure Er (K : PySem.W.Frag) (mg : Str → Option Value) (nx : Str) (C : Addr) : Prop where
  x : PySem.W.excIn K C [.type "ValueError", .type "Exception", .type "BaseException", .type "object"] "ValueError.__new__" = true
  g : mg nx = some (.ref C)
  k : PySem.W.keepIn K (.ref C) = true
  b : PySem.W.subIn K (.ref C) (.type "BaseException") = some true
  t : PySem.W.typeIn K (.ref C) = some (.type "type")
structure EC where
  NoRope : Addr
  NoLoad : Addr
  NoName : Addr
  NoNumber : Addr
  Taken : Addr
  Full : Addr
  Hung : Addr
  NoRopes : Addr
  Whole : Addr
  AskedError : Addr
  ToldError : Addr
  PullError : Addr
  fHung : Addr
  fWhole : Addr
/-- an error class, as the law asks of its errors -/
structure Ek (K : PySem.W.Frag) (E : EC) (D : Addr) (bs : List Bool) (b1 b2 : Bool) : Prop where
  ec : ExcC K D
  kit : [Value.ref E.AskedError, .ref E.ToldError, .ref E.Full, .ref E.Hung, .ref E.NoLoad, .ref E.NoName, .ref E.NoNumber, .ref E.NoRope, .ref E.NoRopes, .ref E.Taken, .ref E.Whole, .type "ValueError"].map (PySem.W.kitOne K (.ref D)) = bs.map some
  h1 : PySem.W.exmOne K (.ref D) (.ref E.Hung) = some b1
  h2 : PySem.W.exmOne K (.ref D) (.ref E.Whole) = some b2
  h3 : PySem.W.exmOne K (.ref D) (.ref E.PullError) = some true
structure Ers (K : PySem.W.Frag) (mg : Str → Option Value) (P : Program) (E : EC) : Prop where
  NoRope : Er K mg "NoRope" E.NoRope
  NoLoad : Er K mg "NoLoad" E.NoLoad
  NoName : Er K mg "NoName" E.NoName
  NoNumber : Er K mg "NoNumber" E.NoNumber
  Taken : Er K mg "Taken" E.Taken
  Full : Er K mg "Full" E.Full
  Hung : PySem.SupX.Sup K mg P "Hung" "weight" E.Hung E.fHung
  NoRopes : Er K mg "NoRopes" E.NoRopes
  Whole : PySem.SupX.Sup K mg P "Whole" "name" E.Whole E.fWhole
  g_AskedError : mg "AskedError" = some (.ref E.AskedError)
  g_ToldError : mg "ToldError" = some (.ref E.ToldError)
  g_PullError : mg "PullError" = some (.ref E.PullError)
  k_NoRope : Ek K E E.NoRope [false, true, false, false, false, false, false, true, false, false, false, true] false false
  k_NoLoad : Ek K E E.NoLoad [false, true, false, false, true, false, false, false, false, false, false, true] false false
  k_NoName : Ek K E E.NoName [false, true, false, false, false, true, false, false, false, false, false, true] false false
  k_NoNumber : Ek K E E.NoNumber [false, true, false, false, false, false, true, false, false, false, false, true] false false
  k_Taken : Ek K E E.Taken [false, true, false, false, false, false, false, false, false, true, false, true] false false
  k_Full : Ek K E E.Full [true, false, true, false, false, false, false, false, false, false, false, true] false false
  k_NoRopes : Ek K E E.NoRopes [true, false, false, false, false, false, false, false, true, false, false, true] false false
  k_Hung : Ek K E E.Hung [true, false, false, true, false, false, false, false, false, false, false, true] true false
  k_Whole : Ek K E E.Whole [true, false, false, false, false, false, false, false, false, false, true, true] false true
theorem Ers.g_Full {K : PySem.W.Frag} {mg : Str → Option Value} {P : Program} {E : EC} (Z : Ers K mg P E) : mg "Full" = some (.ref E.Full) := Z.Full.g
theorem Ers.g_Hung {K : PySem.W.Frag} {mg : Str → Option Value} {P : Program} {E : EC} (Z : Ers K mg P E) : mg "Hung" = some (.ref E.Hung) := Z.Hung.gC
theorem Ers.g_NoLoad {K : PySem.W.Frag} {mg : Str → Option Value} {P : Program} {E : EC} (Z : Ers K mg P E) : mg "NoLoad" = some (.ref E.NoLoad) := Z.NoLoad.g
theorem Ers.g_NoName {K : PySem.W.Frag} {mg : Str → Option Value} {P : Program} {E : EC} (Z : Ers K mg P E) : mg "NoName" = some (.ref E.NoName) := Z.NoName.g
theorem Ers.g_NoNumber {K : PySem.W.Frag} {mg : Str → Option Value} {P : Program} {E : EC} (Z : Ers K mg P E) : mg "NoNumber" = some (.ref E.NoNumber) := Z.NoNumber.g
theorem Ers.g_NoRope {K : PySem.W.Frag} {mg : Str → Option Value} {P : Program} {E : EC} (Z : Ers K mg P E) : mg "NoRope" = some (.ref E.NoRope) := Z.NoRope.g
theorem Ers.g_NoRopes {K : PySem.W.Frag} {mg : Str → Option Value} {P : Program} {E : EC} (Z : Ers K mg P E) : mg "NoRopes" = some (.ref E.NoRopes) := Z.NoRopes.g
theorem Ers.g_Taken {K : PySem.W.Frag} {mg : Str → Option Value} {P : Program} {E : EC} (Z : Ers K mg P E) : mg "Taken" = some (.ref E.Taken) := Z.Taken.g
theorem Ers.g_Whole {K : PySem.W.Frag} {mg : Str → Option Value} {P : Program} {E : EC} (Z : Ers K mg P E) : mg "Whole" = some (.ref E.Whole) := Z.Whole.gC
structure WS where
  st : List Rope
  gone : List Str
  wt : Q
  story : List (Q × List Str)
  falls : Int
abbrev rowD (r : Q × List Str) : PyData := .tuple [fr r.1, nm r.2]
abbrev wfs (x : WS) (a : Addr) (b : Bool) : List (Str × SV) := [("strands", .d (bd x.st)), ("gone", .d (nm x.gone)), ("weight", .d (fr x.wt)), ("story", .m a), ("falls", .d (.int x.falls)), ("busy", .d (.bool b))]
def WAt (C : Addr) (M : Mem) (p a : Addr) (x : WS) (b : Bool) : Prop := M.o p = some (.ins C (wfs x a b)) ∧ M a = some (x.story.map rowD)
def wput (C : Addr) (M : Mem) (p a : Addr) (x : WS) (b : Bool) : Mem := oset (mset M a (x.story.map rowD)) p (.ins C (wfs x a b))
section
variable {C p a : Addr} {M : Mem} {x y : WS} {b c : Bool}
theorem wput_o : (wput C M p a x b).o p = some (.ins C (wfs x a b)) := oset_same
theorem wput_l : (wput C M p a x b) a = some (x.story.map rowD) := mset_same
theorem wput_at : WAt C (wput C M p a x b) p a x b := ⟨wput_o, wput_l⟩
theorem mset_id {ds : List PyData} (h : M a = some ds) : mset M a ds = M := Mem.ext' (fun b => by
  by_cases e : b = a
  · subst e; exact mset_same.trans h.symm
  · exact mset_ne e) fun _ => rfl
theorem oset_id {ob : Ob} (h : M.o p = some ob) : oset M p ob = M := Mem.ext' (fun _ => rfl) fun b => by
  by_cases e : b = p
  · subst e; exact oset_same.trans h.symm
  · exact oset_ne e
theorem wput_id (h : WAt C M p a x b) : wput C M p a x b = M := by
  unfold wput
  rw [mset_id h.2, oset_id h.1]
theorem mset_oset {ds : List PyData} {ob : Ob} : mset (oset M p ob) a ds = oset (mset M a ds) p ob := rfl
theorem wput_wput : wput C (wput C M p a x b) p a y c = wput C M p a y c := by
  unfold wput
  rw [mset_oset, mset_mset, oset_oset]
theorem oset_w (h : y.story = x.story) : oset (wput C M p a x b) p (.ins C (wfs y a c)) = wput C M p a y c := by
  unfold wput
  rw [oset_oset, h]
theorem mset_w {s : List (Q × List Str)} : mset (wput C M p a x b) a (s.map rowD) = wput C M p a { x with story := s } b := by
  unfold wput
  rw [mset_oset, mset_mset]
theorem put_busy : putS "busy" (.d (.bool c)) (wfs x a b) = wfs x a c := rfl
theorem put_st {ro : List Rope} : putS "strands" (.d (bd ro)) (wfs x a b) = wfs { x with st := ro } a b := rfl
theorem put_gone {ns : List Str} : putS "gone" (.d (nm ns)) (wfs x a b) = wfs { x with gone := ns } a b := rfl
theorem put_wt {q : Q} : putS "weight" (.d (fr q)) (wfs x a b) = wfs { x with wt := q } a b := rfl
theorem put_falls {i : Int} : putS "falls" (.d (.int i)) (wfs x a b) = wfs { x with falls := i } a b := rfl
theorem w_busy : oset (wput C M p a x b) p (.ins C (putS "busy" (.d (.bool c)) (wfs x a b))) = wput C M p a x c := (congrArg (fun z => oset _ p (.ins C z)) put_busy).trans (oset_w rfl)
theorem w_st {ro : List Rope} : oset (wput C M p a x b) p (.ins C (putS "strands" (.d (bd ro)) (wfs x a b))) = wput C M p a { x with st := ro } b := (congrArg (fun z => oset _ p (.ins C z)) put_st).trans (oset_w rfl)
theorem w_gone {ns : List Str} : oset (wput C M p a x b) p (.ins C (putS "gone" (.d (nm ns)) (wfs x a b))) = wput C M p a { x with gone := ns } b := (congrArg (fun z => oset _ p (.ins C z)) put_gone).trans (oset_w rfl)
theorem w_wt {q : Q} : oset (wput C M p a x b) p (.ins C (putS "weight" (.d (fr q)) (wfs x a b))) = wput C M p a { x with wt := q } b := (congrArg (fun z => oset _ p (.ins C z)) put_wt).trans (oset_w rfl)
theorem w_falls {i : Int} : oset (wput C M p a x b) p (.ins C (putS "falls" (.d (.int i)) (wfs x a b))) = wput C M p a { x with falls := i } b := (congrArg (fun z => oset _ p (.ins C z)) put_falls).trans (oset_w rfl)
theorem wfs_len : (wfs x a b).length < 1000 := Nat.le_of_ble_eq_true rfl
theorem look_st : (wfs x a b).lookup ("strands" : Str) = some (.d (bd x.st)) := rfl
theorem look_gone : (wfs x a b).lookup ("gone" : Str) = some (.d (nm x.gone)) := rfl
theorem look_wt : (wfs x a b).lookup ("weight" : Str) = some (.d (fr x.wt)) := rfl
theorem look_story : (wfs x a b).lookup ("story" : Str) = some (.m a) := rfl
theorem look_falls : (wfs x a b).lookup ("falls" : Str) = some (.d (.int x.falls)) := rfl
end
/-- how a deed is refused -/
inductive Rf
  | noRope | noLoad | noName | noNumber | taken | full | noRopes
  | hung (q : Q)
  | whole (n : Str)
  deriving DecidableEq
def Rf.out (E : EC) (M : Mem) (PX : Value → Option Addr → Mem → Prop) : Rf → Prop
  | .noRope => PX (.ref E.NoRope) none M
  | .noLoad => PX (.ref E.NoLoad) none M
  | .noName => PX (.ref E.NoName) none M
  | .noNumber => PX (.ref E.NoNumber) none M
  | .taken => PX (.ref E.Taken) none M
  | .full => PX (.ref E.Full) none M
  | .noRopes => PX (.ref E.NoRopes) none M
  | .hung q => ∀ d, M.o d = none → M d = none → PX (.ref E.Hung) (some d) (oset M d (.exd [("weight", .d (fr q))]))
  | .whole n => ∀ d, M.o d = none → M d = none → PX (.ref E.Whole) (some d) (oset M d (.exd [("name", .d (.str n))]))
/-- what stands in a works -/
structure Wo (x : WS) : Prop where
  len : x.st.length ≤ 6
  asc : ∀ r ∈ x.st, r.n.length ≤ 10 ∧ ∀ c ∈ r.n.cps.toList, c < 128
  ris : (x.st.map Rope.n).Pairwise fun a b => a.cps.toList < b.cps.toList
  fine : ∀ r ∈ x.st, r.Fine
  brk : Brk x.st x.gone
  wt : LOk x.wt
theorem Wo.ok {x : WS} (h : Wo x) : BOk x.st := ⟨by have := h.len; omega, fun r hr => fine_ok (h.fine r hr)⟩
theorem Wo.lay {x : WS} (h : Wo x) {r : Rope} (hr : r ∈ x.st) : PyData.canLay0 (.str r.n) = true := asc_lay (h.asc r hr).2
theorem Wo.nd {x : WS} (h : Wo x) : (x.st.map Rope.n).Nodup := by
  refine h.ris.imp fun h e => ?_
  subst e
  exact List.lt_irrefl _ h
theorem Wo.glen {x : WS} (h : Wo x) : x.gone.length ≤ 6 := by
  have := List.length_map (f := Rope.n) (as := x.st)
  have := h.len
  have := nodup_len _ _ h.brk.nd h.brk.sub
  omega
def leR (x y : Rope) : Bool := PySem.W.dataLe false Rope.d x y
def sortR (ro : List Rope) : List Rope := ro.mergeSort leR
theorem sortR_dat (ro : List Rope) : (ro.map Rope.d).mergeSort (PySem.W.dataLe false id) = (sortR ro).map Rope.d :=
  (List.map_mergeSort (r := leR) (s := PySem.W.dataLe false id) (f := Rope.d) (fun a _ b _ => rfl)).symm
theorem leR_all : PySem.W.TotalLe leR := by
  have h := PySem.W.sortLe_total (α := Rope) (PyProof.Rows.listOrd PyProof.Rows.itemOrd) false fun x => PySem.W.keyToks x.d
  exact ⟨h.trans, h.total⟩
theorem leR_lt {r s : Rope} (hn : r.n ≠ s.n) (h : leR r s = true) : r.n.cps.toList < s.n.cps.toList := by
  have h' : (!PySem.W.dataLt s.d r.d) = true := h
  rw [PySem.W.dataLt_tuple, PySem.W.dataLt_cons (by simp [PySem.W.alike]), if_neg (by
    show ¬ (s.n == r.n) = true
    rw [beq_iff_eq]; exact Ne.symm hn), PySem.W.dataLt_str, Bool.not_eq_true', decide_eq_false_iff_not] at h'
  exact Classical.byContradiction fun k => hn (PySem.W.str_of_cps (List.le_antisymm (List.not_lt.mp h') (List.not_lt.mp k)))
theorem sortR_perm (ro : List Rope) : (sortR ro).Perm ro := List.mergeSort_perm ro _
theorem sortR_ris {ro : List Rope} (nd : (ro.map Rope.n).Nodup) : ((sortR ro).map Rope.n).Pairwise fun a b => a.cps.toList < b.cps.toList := by
  have h1 : (sortR ro).Pairwise fun a b => leR a b = true := List.pairwise_mergeSort leR_all.trans (fun a b => by rcases leR_all.total a b with h | h <;> simp [h]) ro
  have h2 : ((sortR ro).map Rope.n).Nodup := (((sortR_perm ro).map Rope.n).nodup_iff).mpr nd
  rw [List.Nodup, List.pairwise_map] at h2
  rw [List.pairwise_map]
  exact (h1.and h2).imp fun h => leR_lt h.2 h.1
section
variable {P : Program} {w : World} {K : PySem.W.Frag} {mg : Str → Option Value} {base : Heap} {f : Addr} {fd : FuncData}
def isNm (ro : List Rope) (d : PyData) : Bool := ro.any fun r => PyData.eqv (.str r.n) d
def S_isnm : SpD := fun rs M P => ∃ (ro : List Rope) (d : PyData), rs = [.d (bd ro), .d d] ∧ ro.length ≤ 100 ∧ (∀ r ∈ ro, PyData.canLay0 (.str r.n) = true) ∧ SeqAt.shaped d = true ∧ P (.d (.bool (isNm ro d))) M
abbrev s_is_named : Stmt := topS 40
theorem sc_is_named : FnScope ["ropes", "thing", "rope"] ["ropes", "thing"] (defScope s_is_named) := ⟨rfl, rfl, rfl, by decide +kernel, rfl, by decide +kernel, by decide +kernel⟩
theorem ok_is_named (T : Txt mg) (F0 : Fun K "is_named" "is_named" s_is_named f fd) : FnOk P w K mg base CX0 1 f fd ["ropes", "thing"] (spOf K S_isnm) := by
  refine ok_of F0 sc_is_named (fun rs M P h => by obtain ⟨a, b, rfl, _⟩ := h; rfl) fun cdv A outer s H E hr => ⟨_, (pss_one (ps_ret (pe_callB (kcr_any K) (by rfl) T.any (by decide +kernel) (pa_cons (pe_lc (own := [("rope", 2)]) (by rfl) sc_is_named.nd (kpi_tup K (pv 0)) (blkOk_by (N := ["ropes", "thing", "rope"]) (sc := defScope s_is_named) (own := [("rope", 2)]) (by decide +kernel)) (fun _ _ _ _ _ => (pg_name (i := 2) sc_is_named.nd rfl (Or.inl rfl))) (fun _ _ _ _ _ => pts_nil) (fun _ _ _ _ _ => (pe_cmpR (kop_eqD K hr.units) (pe_ix (kix_tup K) (pv 2) pe_int (fun _ _ => rfl)) (pv 1) (nomark _)))) pa_nil)))), fun rs M P h => ?_⟩
  obtain ⟨ro, d, rfl, hl, hn, hd, p⟩ := h
  walk_at "d"
  refine dE_lcTm (enc := Rope.d) (out := fun r => .bool (PyData.eqv (.str r.n) d)) (xs := ro) ?_
  walk_at "d"
  refine ⟨rfl, rfl, by omega, fun r hr => ?_, .inl ?_⟩
  · walk_at "d"
    refine dR_eq (d := .str r.n) (e := d) .of .of (Shp.lay (hn r hr)) hd ?_
    walk_at "d"
    exact ⟨rfl, rfl⟩
  · walk_at "d"
    refine dC_any (bs := ro.map fun r => PyData.eqv (.str r.n) d) (.inl (by rw [List.map_map]; rfl)) ?_
    rw [List.any_map]
    exact rtOf.of p
def S_slk : SpD := fun rs M P => ∃ (ro : List Rope) (r : Rope), rs = [.d (bd ro), .d (.str r.n)] ∧ ro.length ≤ 100 ∧ (ro.map Rope.n).Nodup ∧ (∀ r ∈ ro, PyData.canLay0 (.str r.n) = true) ∧ r ∈ ro ∧ P (.d (.int r.a)) M
abbrev s_slack_called : Stmt := topS 41
theorem sc_slack_called : FnScope ["ropes", "name", "rope"] ["ropes", "name"] (defScope s_slack_called) := ⟨rfl, rfl, rfl, by decide +kernel, rfl, by decide +kernel, by decide +kernel⟩
theorem ok_slack_called (F0 : Fun K "slack_called" "slack_called" s_slack_called f fd) : FnOk P w K mg base CX0 1 f fd ["ropes", "name"] (spOf K S_slk) := by
  refine ok_of F0 sc_slack_called (fun rs M P h => by obtain ⟨a, b, rfl, _⟩ := h; rfl) fun cdv A outer s H E hr => ⟨_, (pss_one (ps_ret (pe_ix (kix_list K) (pe_lc (own := [("rope", 2)]) (by rfl) sc_slack_called.nd (kpi_tup K (pv 0)) (blkOk_by (N := ["ropes", "name", "rope"]) (sc := defScope s_slack_called) (own := [("rope", 2)]) (by decide +kernel)) (fun _ _ _ _ _ => (pg_name (i := 2) sc_slack_called.nd rfl (Or.inl rfl))) (fun _ _ _ _ _ => (pts_one (pt_cmpR (kop_eqD K hr.units) (pe_ix (kix_tup K) (pv 2) pe_int (fun _ _ => rfl)) (pv 1) (nomark _)))) (fun _ _ _ _ _ => (pe_ix (kix_tup K) (pv 2) pe_int (fun _ _ => rfl)))) pe_int (fun _ _ => rfl)))), fun rs M P h => ?_⟩
  obtain ⟨ro, r, rfl, hl, nd, hn, hr1, p⟩ := h
  walk_at "d"
  refine dE_lcTf (enc := Rope.d) (out := fun s => .int s.a) (pt := fun s => s.n == r.n) (xs := ro) ?_
  walk_at "d"
  refine ⟨rfl, rfl, by omega, fun s hs => ?_, fun s hs h => ?_, .inl ?_⟩
  · walk_at "d"
    refine dR_eq (d := .str s.n) (e := .str r.n) .of .of (Shp.lay (hn s hs)) (Shp.lay (hn r hr1)) ?_
    walk_at "d"
    exact ⟨rfl, rfl⟩
  · walk_at "d"
    exact ⟨rfl, rfl⟩
  · rw [only_one nd hr1]
    walk_at "d"
    refine dR_ixL (.inl rfl) atI_zero ?_
    exact rtOf.of p
def S_tight : SpD := fun rs M P => ∃ (r : Rope) (i : Int), rs = [.d r.d, .d (.int i)] ∧ P (.d (Rope.d ⟨r.n, r.a - i, r.b, r.c⟩)) M
abbrev s_tighter : Stmt := topS 42
theorem sc_tighter : FnScope ["rope", "by", "name", "slack", "stiff", "strong"] ["rope", "by"] (defScope s_tighter) := ⟨rfl, rfl, rfl, by decide +kernel, rfl, by decide +kernel, by decide +kernel⟩
theorem ok_tighter (F0 : Fun K "tighter" "tighter" s_tighter f fd) : FnOk P w K mg base CX0 1 f fd ["rope", "by"] (spOf K S_tight) := by
  refine ok_of F0 sc_tighter (fun rs M P h => by obtain ⟨a, b, rfl, _⟩ := h; rfl) fun cdv A outer s H E hr => ⟨_, (pss_cons (ps_asg (pv 0) (kpg_tup K (n := 4) rfl (pgs_cons (pg_name (i := 2) sc_tighter.nd rfl (Or.inl rfl)) (pgs_cons (pg_name (i := 3) sc_tighter.nd rfl (Or.inl rfl)) (pgs_cons (pg_name (i := 4) sc_tighter.nd rfl (Or.inl rfl)) (pgs_cons (pg_name (i := 5) sc_tighter.nd rfl (Or.inl rfl)) pgs_nil))))))
      (pss_one (ps_ret (pe_tup (pa_cons (pv 2) (pa_cons (pe_op op_sub (pv 3) (pv 1)) (pa_cons (pv 4) (pa_cons (pv 5) pa_nil)))))))), fun rs M P h => ?_⟩
  obtain ⟨r, i, rfl, p⟩ := h
  walk_at "d"
  exact p
end
end K2
namespace K2
open PySem L2 Sd Ma
local macro_rules | `(tactic| walk_at "d1") => `(tactic| first
  | ((with_reducible refine' dE_var ?dv ?_); (case dv => rfl))
  | with_reducible refine' dE_int ?_
  | with_reducible refine' dE_str ?_
  | with_reducible refine' dE_bl ?_
  | with_reducible refine' dE_non ?_
  | ((with_reducible refine' dE_nt ?dv ?_); (case dv => assumption))
  | with_reducible refine' dE_ref ?_
  | with_reducible refine' dE_op ?_
  | with_reducible refine' dE_un ?_
  | with_reducible refine' dE_cmp ?_
  | with_reducible refine' dE_isN ?_
  | with_reducible refine' dE_notN ?_
  | with_reducible refine' dE_call ?_
  | with_reducible refine' dE_cb ?_
  | with_reducible refine' dE_kw ?_
  | with_reducible refine' dE_tup ?_
  | with_reducible refine' dE_if ?_
  | with_reducible refine' dE_and ?_
  | with_reducible refine' dE_or ?_
  | with_reducible refine' dE_not ?_
  | with_reducible refine' dE_sl ?_
  | with_reducible refine' dO_none ?_
  | with_reducible refine' dO_some ?_
  | with_reducible refine' dA_cons ?_
  | with_reducible refine' dA_nil ?_
  | with_reducible refine' dT_B ?_
  | with_reducible refine' dT_test ?_
  | with_reducible refine' dT_and ?_
  | with_reducible refine' dT_or ?_
  | with_reducible refine' dT_not ?_
  | with_reducible refine' dT_yes ?_
  | with_reducible refine' dR_I0i ?_
  | with_reducible refine' dU_neg ?_
  | ((with_reducible refine' dR_ixT ?dv ?_); (case dv => rfl))
  | with_reducible refine' dS_seq ?_
  | with_reducible refine' dS_next ?_
  | with_reducible refine' dS_ret ?_
  | with_reducible refine' dS_drop ?_
  | with_reducible refine' dS_if ?_
  | with_reducible refine' dS_asg ?_
  | with_reducible refine' dS_par ?_
  | with_reducible refine' dG_name ?_
  | ((with_reducible refine' dG_tup ?dv ?_); (case dv => rfl); (dsimp only [List.map]))
  | with_reducible refine' dGs_cons ?_
  | with_reducible refine' dGs_nil ?_
  | with_reducible refine' dC_abs ?_
  | with_reducible refine' dC_max2 ?_
  | with_reducible refine' dC_min2 ?_
  | with_reducible refine' rtOf.of ?_
  | with_reducible refine' ex_cmp ?_
  | with_reducible refine' ex_bool ?_
  | with_reducible refine' ex_int ?_
  | with_reducible refine' ex_list ?_
  | with_reducible refine' ex_tup ?_
  | with_reducible refine' ex_d ?_
  | with_reducible refine' ex_m ?_
  | with_reducible refine' ex_par ?_
  | with_reducible refine' ex_rg1 ?_
  | with_reducible refine' ex_rg2 ?_
  | ((with_reducible refine' ex_dat ?dv ?dw ?_); (case dv => rfl); (case dw => exact Nat.le_of_ble_eq_true rfl))
  | ((fail_if_success (with_reducible show ∃ _, _)); (fail_if_success (with_reducible show _ ∧ _)); refine ⟨_, _, rfl, ?_⟩)
  | ((fail_if_success (with_reducible show ∃ _, _)); (fail_if_success (with_reducible show _ ∧ _)); refine ⟨_, rfl, ?_⟩)
  | fail)
local macro_rules | `(tactic| walk_at "d") => `(tactic| repeat' walk_at "d1")
local macro_rules | `(tactic| walk_at "e1") => `(tactic| first
  | ((with_reducible refine' dE_var ?dv ?_); (case dv => rfl))
  | with_reducible refine' dE_int ?_
  | with_reducible refine' dE_str ?_
  | with_reducible refine' dE_bl ?_
  | with_reducible refine' dE_non ?_
  | ((with_reducible refine' dE_nt ?dv ?_); (case dv => assumption))
  | with_reducible refine' dE_ref ?_
  | with_reducible refine' dE_op ?_
  | with_reducible refine' dE_un ?_
  | with_reducible refine' dE_cmp ?_
  | with_reducible refine' dE_isN ?_
  | with_reducible refine' dE_notN ?_
  | with_reducible refine' dE_call ?_
  | with_reducible refine' dE_cb ?_
  | with_reducible refine' dE_kw ?_
  | with_reducible refine' dE_tup ?_
  | with_reducible refine' dE_if ?_
  | with_reducible refine' dE_and ?_
  | with_reducible refine' dE_or ?_
  | with_reducible refine' dE_not ?_
  | with_reducible refine' dE_sl ?_
  | with_reducible refine' dO_none ?_
  | with_reducible refine' dO_some ?_
  | with_reducible refine' dA_cons ?_
  | with_reducible refine' dA_nil ?_
  | with_reducible refine' dT_B ?_
  | with_reducible refine' dT_test ?_
  | with_reducible refine' dT_and ?_
  | with_reducible refine' dT_or ?_
  | with_reducible refine' dT_not ?_
  | with_reducible refine' dT_yes ?_
  | with_reducible refine' dR_I0i ?_
  | with_reducible refine' dU_neg ?_
  | ((with_reducible refine' dR_ixT ?dv ?_); (case dv => rfl))
  | with_reducible refine' dS_next ?_
  | with_reducible refine' dS_ret ?_
  | with_reducible refine' dS_drop ?_
  | with_reducible refine' dS_if ?_
  | with_reducible refine' dS_asg ?_
  | with_reducible refine' dS_par ?_
  | with_reducible refine' dG_name ?_
  | ((with_reducible refine' dG_tup ?dv ?_); (case dv => rfl); (dsimp only [List.map]))
  | with_reducible refine' dGs_cons ?_
  | with_reducible refine' dGs_nil ?_
  | with_reducible refine' dC_abs ?_
  | with_reducible refine' dC_max2 ?_
  | with_reducible refine' dC_min2 ?_
  | with_reducible refine' rtOf.of ?_
  | with_reducible refine' ex_cmp ?_
  | with_reducible refine' ex_bool ?_
  | with_reducible refine' ex_int ?_
  | with_reducible refine' ex_list ?_
  | with_reducible refine' ex_tup ?_
  | with_reducible refine' ex_d ?_
  | with_reducible refine' ex_m ?_
  | with_reducible refine' ex_par ?_
  | with_reducible refine' ex_rg1 ?_
  | with_reducible refine' ex_rg2 ?_
  | ((with_reducible refine' ex_dat ?dv ?dw ?_); (case dv => rfl); (case dw => exact Nat.le_of_ble_eq_true rfl))
  | ((fail_if_success (with_reducible show ∃ _, _)); (fail_if_success (with_reducible show _ ∧ _)); refine ⟨_, _, rfl, ?_⟩)
  | ((fail_if_success (with_reducible show ∃ _, _)); (fail_if_success (with_reducible show _ ∧ _)); refine ⟨_, rfl, ?_⟩)
  | fail)
local macro_rules | `(tactic| walk_at "e") => `(tactic| repeat' walk_at "e1")
theorem WAt.ex {C p a : Addr} {M : Mem} {x : WS} {b : Bool} (h : WAt C M p a x b) : ∃ M0, M = wput C M0 p a x b := ⟨M, (wput_id h).symm⟩
theorem w_fresh {C p a n : Addr} {M : Mem} {x : WS} {b : Bool} (h : (wput C M p a x b) n = none) : n ≠ a ∧ ∀ y c, (wput C M p a y c) n = none := by
  have hn : n ≠ a := by
    rintro rfl
    rw [wput_l] at h
    cases h
  refine ⟨hn, fun y c => ?_⟩
  have h1 : (mset M a (x.story.map rowD)) n = none := h
  rw [mset_ne hn] at h1
  show (mset M a (y.story.map rowD)) n = none
  rw [mset_ne hn]
  exact h1
theorem strs_alike (ns : List Str) : PySem.W.AllAlike (ns.map PyData.str) := fun d hd d' hd' => by
  obtain ⟨x, _, rfl⟩ := List.mem_map.mp hd
  obtain ⟨y, _, rfl⟩ := List.mem_map.mp hd'
  rfl
theorem strs_sortable (ns : List Str) : PySem.W.Sortable (ns.map PyData.str) := .inr fun d hd => by
  obtain ⟨x, _, rfl⟩ := List.mem_map.mp hd
  exact ⟨fun e => PyData.noConfusion e, fun xs e => PyData.noConfusion e⟩
theorem strs_depth (ns : List Str) : ∀ d ∈ ns.map PyData.str, d.depth ≤ 60 := fun d hd => by
  obtain ⟨x, _, rfl⟩ := List.mem_map.mp hd
  exact Nat.zero_le _
section
variable {P : Program} {w : World} {K : PySem.W.Frag} {mg : Str → Option Value} {base : Heap} {f a_N C : Addr} {fd : FuncData} {E : EC}
def S_ropes (C : Addr) : SpX := fun rs M P PX => ∃ p a x b, rs = [.m p] ∧ WAt C M p a x b ∧ P (.d (bd x.st)) M
abbrev s_Works_ropes : Stmt := inClass (topS 39) 5
theorem sc_Works_ropes : FnScope ["self"] ["self"] (defScope s_Works_ropes) := ⟨rfl, rfl, rfl, by decide +kernel, rfl, by decide +kernel, by decide +kernel⟩
theorem ok_w_ropes (wk : Wk K C) (F0 : Fun K "ropes" "Works.ropes" s_Works_ropes f fd) : FnOk P w K mg base (L2N.CX P w) 1 f fd ["self"] (spOfX K (S_ropes C)) := by
  refine okX_of F0 sc_Works_ropes (fun rs M P PX h => by obtain ⟨p, a, x, b, rfl, _⟩ := h; rfl) fun cdv A outer s H E hr => ⟨_, (pss_one (ps_ret (kpe_fld K (pv 0)))), fun rs M P PX h => ?_⟩
  obtain ⟨p, a, x, b, rfl, h, q⟩ := h
  exact dS_ret (dE_own rfl h.1 wk.cl wk.strands look_st (rtOf.of q))
def S_gone (C : Addr) : SpX := fun rs M P PX => ∃ p a x b, rs = [.m p] ∧ WAt C M p a x b ∧ P (.d (nm x.gone)) M
abbrev s_Works_broken : Stmt := inClass (topS 39) 6
theorem sc_Works_broken : FnScope ["self"] ["self"] (defScope s_Works_broken) := ⟨rfl, rfl, rfl, by decide +kernel, rfl, by decide +kernel, by decide +kernel⟩
theorem ok_w_broken (wk : Wk K C) (F0 : Fun K "broken" "Works.broken" s_Works_broken f fd) : FnOk P w K mg base (L2N.CX P w) 1 f fd ["self"] (spOfX K (S_gone C)) := by
  refine okX_of F0 sc_Works_broken (fun rs M P PX h => by obtain ⟨p, a, x, b, rfl, _⟩ := h; rfl) fun cdv A outer s H E hr => ⟨_, (pss_one (ps_ret (kpe_fld K (pv 0)))), fun rs M P PX h => ?_⟩
  obtain ⟨p, a, x, b, rfl, h, q⟩ := h
  exact dS_ret (dE_own rfl h.1 wk.cl wk.gone look_gone (rtOf.of q))
def S_wt (C : Addr) : SpX := fun rs M P PX => ∃ p a x b, rs = [.m p] ∧ WAt C M p a x b ∧ P (.d (fr x.wt)) M
abbrev s_Works_load : Stmt := inClass (topS 39) 7
theorem sc_Works_load : FnScope ["self"] ["self"] (defScope s_Works_load) := ⟨rfl, rfl, rfl, by decide +kernel, rfl, by decide +kernel, by decide +kernel⟩
theorem ok_w_load (wk : Wk K C) (F0 : Fun K "load" "Works.load" s_Works_load f fd) : FnOk P w K mg base (L2N.CX P w) 1 f fd ["self"] (spOfX K (S_wt C)) := by
  refine okX_of F0 sc_Works_load (fun rs M P PX h => by obtain ⟨p, a, x, b, rfl, _⟩ := h; rfl) fun cdv A outer s H E hr => ⟨_, (pss_one (ps_ret (kpe_fld K (pv 0)))), fun rs M P PX h => ?_⟩
  obtain ⟨p, a, x, b, rfl, h, q⟩ := h
  exact dS_ret (dE_own rfl h.1 wk.cl wk.weight look_wt (rtOf.of q))
def S_fell (C : Addr) : SpX := fun rs M P PX => ∃ p a x b, rs = [.m p] ∧ WAt C M p a x b ∧ P (.d (.int x.falls)) M
abbrev s_Works_fell : Stmt := inClass (topS 39) 10
theorem sc_Works_fell : FnScope ["self"] ["self"] (defScope s_Works_fell) := ⟨rfl, rfl, rfl, by decide +kernel, rfl, by decide +kernel, by decide +kernel⟩
theorem ok_w_fell (wk : Wk K C) (F0 : Fun K "fell" "Works.fell" s_Works_fell f fd) : FnOk P w K mg base (L2N.CX P w) 1 f fd ["self"] (spOfX K (S_fell C)) := by
  refine okX_of F0 sc_Works_fell (fun rs M P PX h => by obtain ⟨p, a, x, b, rfl, _⟩ := h; rfl) fun cdv A outer s H E hr => ⟨_, (pss_one (ps_ret (kpe_fld K (pv 0)))), fun rs M P PX h => ?_⟩
  obtain ⟨p, a, x, b, rfl, h, q⟩ := h
  exact dS_ret (dE_own rfl h.1 wk.cl wk.falls look_falls (rtOf.of q))
def S_log (C : Addr) : SpX := fun rs M P PX => ∃ p a x b, rs = [.m p] ∧ WAt C M p a x b ∧ ∀ l, M l = none → P (.m l) (mset M l (x.story.map rowD))
abbrev s_Works_log : Stmt := inClass (topS 39) 9
theorem sc_Works_log : FnScope ["self"] ["self"] (defScope s_Works_log) := ⟨rfl, rfl, rfl, by decide +kernel, rfl, by decide +kernel, by decide +kernel⟩
theorem ok_w_log (wk : Wk K C) (T : Txt mg) (F0 : Fun K "log" "Works.log" s_Works_log f fd) : FnOk P w K mg base (L2N.CX P w) 1 f fd ["self"] (spOfX K (S_log C)) := by
  refine okX_of F0 sc_Works_log (fun rs M P PX h => by obtain ⟨p, a, x, b, rfl, _⟩ := h; rfl) fun cdv A outer s H E hr => ⟨_, (pss_one (ps_ret (pe_callTy (kcall_list K) (by rfl) T.list (by decide +kernel) (pa_cons (kpe_fld K (pv 0)) pa_nil)))), fun rs M P PX h => ?_⟩
  obtain ⟨p, a, x, b, rfl, h, q⟩ := h
  walk_at "d"
  refine dE_own rfl h.1 wk.cl wk.story look_story ?_
  walk_at "d"
  exact dC_listM (.of_m h.2) fun l hl => rtOf.of (q l hl)
def S_wsink (C : Addr) : SpX := fun rs M P PX => ∃ p a x b, rs = [.m p] ∧ WAt C M p a x b ∧ Wo x ∧ P (.d (opt (sunkOf (leftOf x.st x.gone) x.wt.1 x.wt.2))) M
abbrev s_Works_sinking : Stmt := inClass (topS 39) 8
theorem sc_Works_sinking : FnScope ["self"] ["self"] (defScope s_Works_sinking) := ⟨rfl, rfl, rfl, by decide +kernel, rfl, by decide +kernel, by decide +kernel⟩
theorem ok_w_sinking (wk : Wk K C) (F0 : Fun K "sinking" "Works.sinking" s_Works_sinking f fd) (c_ropes_left : Has P w K mg base 1 "ropes_left" ["bundle", "broken"] S_left) (c_sunk_by : Has P w K mg base 4 "sunk_by" ["left", "load"] S_sunk) : FnOk P w K mg base (L2N.CX P w) 5 f fd ["self"] (spOfX K (S_wsink C)) := by
  refine okX_of F0 sc_Works_sinking (fun rs M P PX h => by obtain ⟨p, a, x, b, rfl, _⟩ := h; rfl) fun cdv A outer s H E hr => ⟨_, (pss_one (ps_ret (pe_callH' c_sunk_by (hr.mono (by first | decide | omega)) rfl (pa_cons (pe_callH' c_ropes_left (hr.mono (by first | decide | omega)) rfl (pa_cons (kpe_fld K (pv 0)) (pa_cons (kpe_fld K (pv 0)) pa_nil))) (pa_cons (kpe_fld K (pv 0)) pa_nil))))), fun rs M P PX h => ?_⟩
  obtain ⟨p, a, x, b, rfl, h, hx, q⟩ := h
  walk_at "d"
  refine dE_own rfl h.1 wk.cl wk.strands look_st ?_
  walk_at "d"
  refine dE_own rfl h.1 wk.cl wk.gone look_gone ?_
  walk_at "d"
  refine ⟨hx.ok.len, ?_⟩
  walk_at "d"
  refine dE_own rfl h.1 wk.cl wk.weight look_wt ?_
  walk_at "d"
  have hl := left_ok hx.ok x.gone
  exact ⟨leftOf x.st x.gone, x.wt.1, x.wt.2, rfl, hl.len, hl.ok, hx.wt.p0, hx.wt.q0, hx.wt.s1, hx.wt.s2, rtOf.of q⟩
def S_len (C : Addr) : SpX := fun rs M P PX => ∃ p a x b, rs = [.m p] ∧ WAt C M p a x b ∧ x.st.length ≤ 6 ∧ P (.d (.int (leftOf x.st x.gone).length)) M
abbrev s_Works___len__ : Stmt := inClass (topS 39) 11
theorem sc_Works___len__ : FnScope ["self"] ["self"] (defScope s_Works___len__) := ⟨rfl, rfl, rfl, by decide +kernel, rfl, by decide +kernel, by decide +kernel⟩
theorem ok_w_len (wk : Wk K C) (T : Txt mg) (F0 : Fun K "__len__" "Works.__len__" s_Works___len__ f fd) (c_ropes_left : Has P w K mg base 1 "ropes_left" ["bundle", "broken"] S_left) : FnOk P w K mg base (L2N.CX P w) 2 f fd ["self"] (spOfX K (S_len C)) := by
  refine okX_of F0 sc_Works___len__ (fun rs M P PX h => by obtain ⟨p, a, x, b, rfl, _⟩ := h; rfl) fun cdv A outer s H E hr => ⟨_, (pss_one (ps_ret (pe_callB (kcall_len K) (by rfl) T.len (by decide +kernel) (pa_cons (pe_callH' c_ropes_left (hr.mono (by first | decide | omega)) rfl (pa_cons (kpe_fld K (pv 0)) (pa_cons (kpe_fld K (pv 0)) pa_nil))) pa_nil)))), fun rs M P PX h => ?_⟩
  obtain ⟨p, a, x, b, rfl, h, hx, q⟩ := h
  walk_at "d"
  refine dE_own rfl h.1 wk.cl wk.strands look_st ?_
  walk_at "d"
  refine dE_own rfl h.1 wk.cl wk.gone look_gone ?_
  walk_at "d"
  refine ⟨by omega, ?_⟩
  walk_at "d"
  refine dC_len (.inl rfl) ?_
  rw [List.length_map]
  exact rtOf.of q
def S_rhung (E : EC) (C : Addr) : SpX := fun rs M P PX => ∃ p a x b, rs = [.m p] ∧ WAt C M p a x b ∧ (x.wt = (0, 1) → P (.d .none) M) ∧ (x.wt ≠ (0, 1) → (Rf.hung x.wt).out E M PX)
abbrev s_Works_refuse_hung : Stmt := inClass (topS 39) 12
theorem sc_Works_refuse_hung : FnScope ["self"] ["self"] (defScope s_Works_refuse_hung) := ⟨rfl, rfl, rfl, by decide +kernel, rfl, by decide +kernel, by decide +kernel⟩
theorem ok_w_refuse_hung (wk : Wk K C) (Z : Ers K mg P E) (N : Nt K mg a_N) (T : Txt mg) (F0 : Fun K "refuse_hung" "Works.refuse_hung" s_Works_refuse_hung f fd) : FnOk P w K mg base (L2N.CX P w) 4 f fd ["self"] (spOfX K (S_rhung E C)) := by
  refine okX_of F0 sc_Works_refuse_hung (fun rs M P PX h => by obtain ⟨p, a, x, b, rfl, _⟩ := h; rfl) fun cdv A outer s H XE hr => ⟨_, (pss_one (ps_if (pt_cmpR (kop_neD K hr.units) (kpe_fld K (pv 0)) (pe_glob (v := .ref a_N) rfl N.m rfl) (nomark _)) (pss_one (L2N.ps_raise rfl (L2N.takes_of rfl rfl rfl rfl) (pmk_sup Z.Hung T.super hr (pa_cons (kpe_fld K (pv 0)) pa_nil) rfl))) pss_nil)), fun rs M P PX h => ?_⟩
  obtain ⟨p, a, x, b, rfl, h, q1, q2⟩ := h
  walk_at "d"
  refine dE_own rfl h.1 wk.cl wk.weight look_wt ?_
  walk_at "d"
  refine dR_ne (d := fr x.wt) (e := fr (0, 1)) .of .of Shp.fr.shaped Shp.fr.shaped ?_
  rw [fr_eqv]
  walk_at "d"
  refine ifB (fun k => ?_) (fun k => ?_)
  · refine dS_raiseF rfl ?_
    refine dE_own rfl h.1 wk.cl wk.weight look_wt ?_
    exact fun d h1 h2 => xtOf.of (q2 (by simpa using k) d h1 h2)
  · walk_at "d"
    exact q1 (by simpa using k)
def S_runn (E : EC) (C : Addr) : SpX := fun rs M P PX => ∃ p a x b d, rs = [.m p, .d d] ∧ WAt C M p a x b ∧ Wo x ∧ SeqAt.shaped d = true ∧ (isNm x.st d = true → P (.d .none) M) ∧ (isNm x.st d = false → Rf.noName.out E M PX)
abbrev s_Works_refuse_unnamed : Stmt := inClass (topS 39) 13
theorem sc_Works_refuse_unnamed : FnScope ["self", "name"] ["self", "name"] (defScope s_Works_refuse_unnamed) := ⟨rfl, rfl, rfl, by decide +kernel, rfl, by decide +kernel, by decide +kernel⟩
theorem ok_w_refuse_unnamed (wk : Wk K C) (Z : Ers K mg P E) (F0 : Fun K "refuse_unnamed" "Works.refuse_unnamed" s_Works_refuse_unnamed f fd) (c_is_named : Has P w K mg base 1 "is_named" ["ropes", "thing"] S_isnm) : FnOk P w K mg base (L2N.CX P w) 4 f fd ["self", "name"] (spOfX K (S_runn E C)) := by
  refine okX_of F0 sc_Works_refuse_unnamed (fun rs M P PX h => by obtain ⟨p, a, x, b, d, rfl, _⟩ := h; rfl) fun cdv A outer s H XE hr => ⟨_, (pss_one (ps_if (pt_not (pt_val (pe_callH' c_is_named (hr.mono (by first | decide | omega)) rfl (pa_cons (kpe_fld K (pv 0)) (pa_cons (pv 1) pa_nil))))) (pss_one (L2N.ps_raise rfl (L2N.takes_of rfl rfl rfl rfl) (L2N.pmk_own PySem.F.excBase_ValueError Z.NoName.x Z.NoName.g Z.NoName.k (raises_own Z.NoName.b Z.NoName.t) (by exact rfl)))) pss_nil)), fun rs M P PX h => ?_⟩
  obtain ⟨p, a, x, b, d, rfl, h, hx, hd, q1, q2⟩ := h
  walk_at "d"
  refine dE_own rfl h.1 wk.cl wk.strands look_st ?_
  walk_at "d"
  refine ⟨hx.ok.len, fun r hr => hx.lay hr, hd, ?_⟩
  walk_at "d"
  refine ifB (fun k => ?_) (fun k => ?_)
  · exact dS_raise rfl (xtOf.of (q2 (by simpa using k)))
  · walk_at "d"
    exact q1 (by simpa using k)
def loseW (x : WS) (q : Q) (ns : List Str) : WS := if ns = [] then x else { x with gone := sortN (x.gone ++ ns), story := x.story ++ [(q, sortN ns)] }
def S_lose (C : Addr) : SpX := fun rs M P PX => ∃ (p a : Addr) (x : WS) (b : Bool) (q : Q) (wv : List (List Str)), rs = [.m p, .d (fr q), .d (.list (wv.map nm))] ∧ WAt C M p a x b ∧ wv.length ≤ 10 ∧ wv.flatten.length ≤ 10 ∧ x.gone.length ≤ 10 ∧ x.story.length ≤ 1000 ∧ P (.d .none) (wput C M p a (loseW x q wv.flatten) b)
abbrev s_Works_lose : Stmt := inClass (topS 39) 14
theorem sc_Works_lose : FnScope ["self", "load", "told", "names", "wave"] ["self", "load", "told"] (defScope s_Works_lose) := ⟨rfl, rfl, rfl, by decide +kernel, rfl, by decide +kernel, by decide +kernel⟩
theorem ok_w_lose (wk : Wk K C) (T : Txt mg) (F0 : Fun K "lose" "Works.lose" s_Works_lose f fd) : FnOk P w K mg base (L2N.CX P w) 2 f fd ["self", "load", "told"] (spOfX K (S_lose C)) := by
  refine okX_of F0 sc_Works_lose (fun rs M P PX h => by obtain ⟨p, a, x, b, q, wv, rfl, _⟩ := h; rfl) fun cdv A outer s H XE hr => ⟨_, (pss_cons (ps_set (i := 3) sc_Works_lose.nd rfl (Or.inl rfl) (pe_lst pa_nil))
      (pss_cons (ps_for (passes_of rfl) rfl (kpi_list K (pv 2)) (pg_name (i := 4) sc_Works_lose.nd rfl (Or.inl rfl)) (pss_one (ps_expr (kpe_bm K (pe_bm PySem.F.plainAttrs_list PySem.F.slot_list_extend PySem.F.type_list_extend (mt_extT K) (pv 3) (pa_cons (pv 4) pa_nil))))))
      (pss_one (ps_if (kpt_truth K (pv 3)) (pss_cons (ps_expr (kpe_bm K (pe_bm PySem.F.plainAttrs_list PySem.F.slot_list_append PySem.F.type_list_append mt_append (kpe_fld K (pv 0)) (pa_cons (pe_tup (pa_cons (pv 1) (pa_cons (pe_callTy (kcall_tuple K) (by rfl) T.tuple (by decide +kernel) (pa_cons (pe_callB (kcr_sortedD K hr) (by rfl) T.sorted (by decide +kernel) (pa_cons (pv 3) pa_nil)) pa_nil)) pa_nil))) pa_nil))))
      (pss_one (kps_fld K (pv 0) (pe_callTy (kcall_tuple K) (by rfl) T.tuple (by decide +kernel) (pa_cons (pe_callB (kcr_sortedD K hr) (by rfl) T.sorted (by decide +kernel) (pa_cons (pe_lst (kpa_star K (kpe_fld K (pv 0)) (kpa_star K (pv 3) pa_nil))) pa_nil)) pa_nil))))) pss_nil)))), fun rs M P PX h => ?_⟩
  obtain ⟨p, a, x, b, q, wv, rfl, h, hw, hf, hg, hs, k⟩ := h
  obtain ⟨M, rfl⟩ := h.ex
  rw [wput_wput] at k
  walk_at "d"
  refine dE_lstM ?_
  walk_at "d"
  intro n hn
  obtain ⟨na, fresh⟩ := w_fresh hn
  walk_at "d"
  refine dS_forL ?_
  walk_at "d"
  refine ⟨fun i δ M' => ∃ y : Option SV, δ = [some (.m p), some (.d (fr q)), some (.d (.list (wv.map nm))), some (.m n), y] ∧ M' = mset (wput C M p a x b) n ((wv.take i).flatten.map .str), ⟨_, rfl, by simp⟩, fun i z δ M' hx hI => ?_, fun δ M' hI => ?_⟩
  · obtain ⟨y, rfl, rfl⟩ := hI
    obtain ⟨v, hw1, rfl⟩ := getElem?_map_some hx
    have ht : (wv.take (i + 1)).flatten = (wv.take i).flatten ++ v := by rw [List.take_succ, hw1, List.flatten_append]; simp
    have hlen : (wv.take (i + 1)).flatten.length ≤ wv.flatten.length := by
      have e : wv.flatten = (wv.take (i + 1)).flatten ++ (wv.drop (i + 1)).flatten := by rw [← List.flatten_append, List.take_append_drop]
      rw [e, List.length_append]; omega
    rw [ht, List.length_append] at hlen
    walk_at "d"
    refine dE_extT ?_
    walk_at "d"
    refine ⟨⟨_, mset_same⟩, ?_⟩
    walk_at "d"
    refine ⟨_, _, rfl, mset_same, by simp only [List.length_map]; omega, ?_⟩
    refine ⟨_, rfl, ?_⟩
    rw [mset_mset, ht, ← List.map_append]
  · obtain ⟨y, rfl, rfl⟩ := hI
    rw [List.length_map, List.take_length]
    generalize wv.flatten = ns at *
    walk_at "d"
    refine dT_tru ?_
    walk_at "d"
    refine ⟨_, .of_m mset_same, ?_⟩
    unfold loseW at k
    refine ifB (fun h1 => ?_) (fun h1 => ?_)
    · have h0 : ns ≠ [] := by rintro rfl; cases h1
      rw [if_neg h0] at k
      walk_at "d"
      refine dE_app ?_
      refine dE_own rfl wput_o wk.cl wk.story look_story ?_
      refine ⟨a, rfl, ⟨_, (mset_ne (Ne.symm na)).trans wput_l⟩, ?_⟩
      walk_at "d"
      refine dC_sortedD (.of_m mset_same) (strs_alike ns) (strs_sortable ns) (strs_depth ns) ?_
      rw [sortN_dat]
      walk_at "d"
      refine dC_tuple (.inl rfl) ?_
      walk_at "d"
      refine ⟨rowD (q, sortN ns), _, rfl, (mset_ne (Ne.symm na)).trans wput_l, by rw [List.length_map]; omega, ?_⟩
      rw [mset_comm na, show x.story.map rowD ++ [rowD (q, sortN ns)] = (x.story ++ [(q, sortN ns)]).map rowD by rw [List.map_append]; rfl, mset_w]
      refine dS_own wk.cl wk.gone rfl ?_
      walk_at "d"
      refine dE_lst ?_
      refine dA_star ?_
      refine dE_own rfl wput_o wk.cl wk.gone look_gone ?_
      refine ⟨_, .inr (.inl rfl), ?_⟩
      refine dA_star ?_
      walk_at "d"
      refine ⟨_, .of_m mset_same, ?_⟩
      refine dA_nil ?_
      refine ⟨(x.gone ++ ns).map .str, ?_, by rw [List.length_map, List.length_append]; omega, ?_⟩
      · rw [dat_map, dat_map, List.map_append]
        simp [datAll]
      walk_at "d"
      refine dC_sortedD (.inl rfl) (strs_alike _) (strs_sortable _) (strs_depth _) ?_
      rw [sortN_dat]
      walk_at "d"
      refine dC_tuple (.inl rfl) ?_
      refine ⟨_, wput_o, wfs_len, ?_⟩
      rw [← mset_oset, w_gone]
      exact ⟨_, k, msub_set MSub.refl (fresh _ _)⟩
    · have h0 : ns = [] := by
        cases ns with
        | nil => rfl
        | cons z zs => cases h1
      rw [if_pos h0] at k
      exact dS_next ⟨_, k, msub_set MSub.refl hn⟩
def settleW (x : WS) (q : Q) : WS := if q ≠ (0, 1) ∧ leftOf x.st x.gone = [] then { x with wt := (0, 1), falls := x.falls + 1 } else { x with wt := q }
def S_settle (C : Addr) : SpX := fun rs M P PX => ∃ p a x b q, rs = [.m p, .d (fr q)] ∧ WAt C M p a x b ∧ x.st.length ≤ 6 ∧ P (.d .none) (wput C M p a (settleW x q) b)
abbrev s_Works_settle : Stmt := inClass (topS 39) 15
theorem sc_Works_settle : FnScope ["self", "load"] ["self", "load"] (defScope s_Works_settle) := ⟨rfl, rfl, rfl, by decide +kernel, rfl, by decide +kernel, by decide +kernel⟩
theorem ok_w_settle (wk : Wk K C) (N : Nt K mg a_N) (T : Txt mg) (F0 : Fun K "settle" "Works.settle" s_Works_settle f fd) (c_Works_len : HasL P w K mg base 2 C (S_len C)) : FnOk P w K mg base (L2N.CX P w) 4 f fd ["self", "load"] (spOfX K (S_settle C)) := by
  refine okX_of F0 sc_Works_settle (fun rs M P PX h => by obtain ⟨p, a, x, b, q, rfl, _⟩ := h; rfl) fun cdv A outer s H XE hr => ⟨_, (pss_one (ps_if (PW.pt (pw_and (pt_cmpR (kop_neD K hr.units) (pv 1) (pe_glob (v := .ref a_N) rfl N.m rfl) (nomark _)) (pw_and1 (pt_cmp (pc_eqI (pe_callB (kcall_lenO K c_Works_len (hr.mono (by first | decide | omega))) (by rfl) T.len (by decide +kernel) (pa_cons (pv 0) pa_nil)) pe_int))))) (pss_cons (kps_fldaug K (pv 0) pe_int in_add)
      (pss_one (kps_fld K (pv 0) (pe_glob (v := .ref a_N) rfl N.m rfl)))) (pss_one (kps_fld K (pv 0) (pv 1))))), fun rs M P PX h => ?_⟩
  obtain ⟨p, a, x, b, q, rfl, h, hx, k⟩ := h
  obtain ⟨M, rfl⟩ := h.ex
  rw [wput_wput] at k
  have yes : q ≠ (0, 1) → leftOf x.st x.gone = [] → rtOf P (.d .none) (wput C M p a { x with wt := (0, 1), falls := x.falls + 1 } b) := fun h1 h2 => by
    unfold settleW at k
    rw [if_pos ⟨h1, h2⟩] at k
    exact rtOf.of k
  have no : ¬ (q ≠ (0, 1) ∧ leftOf x.st x.gone = []) → dS K (sFld K (tVar 0) (tVar 1) "weight") { nx := fun _ M' => rtOf P (.d .none) M', rt := rtOf P, xs := fun cls d _ M' => xtOf PX cls d M', wx := fun cls d _ H' => XE cls d H' } [some (.m p), some (.d (fr q))] (wput C M p a x b) := fun h1 => by
    refine dS_own wk.cl wk.weight rfl ?_
    walk_at "d"
    refine ⟨_, wput_o, wfs_len, ?_⟩
    rw [w_wt]
    unfold settleW at k
    rw [if_neg h1] at k
    exact rtOf.of k
  walk_at "d"
  refine dR_ne (d := fr q) (e := fr (0, 1)) .of .of Shp.fr.shaped Shp.fr.shaped ?_
  rw [fr_eqv]
  walk_at "d"
  refine ifB (fun h1 => ?_) (fun h1 => ?_)
  · walk_at "d"
    refine dC_lenO wput_o ⟨p, a, x, b, rfl, wput_at, hx, _, rfl, by have := List.length_filter_le (fun r : Rope => !x.gone.contains r.n) x.st; unfold leftOf; omega, ?_⟩
    walk_at "d"
    refine ifB (fun h2 => ?_) (fun h2 => ?_)
    · have e0 : leftOf x.st x.gone = [] := by simpa using h2
      walk_at "d"
      refine dS_fldaug (i := x.falls) ?_
      refine dE_var rfl ⟨p, C, _, rfl, wput_o, wk.cl, wk.falls, look_falls, ?_⟩
      walk_at "d"
      refine ⟨1, _, rfl, wput_o, wfs_len, ?_⟩
      rw [w_falls]
      refine dS_own wk.cl wk.weight rfl ?_
      walk_at "d"
      refine ⟨_, wput_o, wfs_len, ?_⟩
      rw [show (SV.d (.tuple [.int 0, .int 1])) = .d (fr (0, 1)) from rfl, w_wt]
      exact yes (by simpa using h1) e0
    · exact no fun h3 => by rw [h3.2] at h2; simp at h2
  · exact no fun h3 => absurd h3.1 (by simpa using h1)
end
end K2
namespace K2
open PySem L2 Sd Ma
local macro_rules | `(tactic| walk_at "d1") => `(tactic| first
  | ((with_reducible refine' dE_var ?dv ?_); (case dv => rfl))
  | with_reducible refine' dE_int ?_
  | with_reducible refine' dE_str ?_
  | with_reducible refine' dE_bl ?_
  | with_reducible refine' dE_non ?_
  | ((with_reducible refine' dE_nt ?dv ?_); (case dv => assumption))
  | with_reducible refine' dE_ref ?_
  | with_reducible refine' dE_op ?_
  | with_reducible refine' dE_un ?_
  | with_reducible refine' dE_cmp ?_
  | with_reducible refine' dE_isN ?_
  | with_reducible refine' dE_notN ?_
  | with_reducible refine' dE_call ?_
  | with_reducible refine' dE_cb ?_
  | with_reducible refine' dE_kw ?_
  | with_reducible refine' dE_tup ?_
  | with_reducible refine' dE_if ?_
  | with_reducible refine' dE_and ?_
  | with_reducible refine' dE_or ?_
  | with_reducible refine' dE_not ?_
  | with_reducible refine' dE_sl ?_
  | with_reducible refine' dO_none ?_
  | with_reducible refine' dO_some ?_
  | with_reducible refine' dA_cons ?_
  | with_reducible refine' dA_nil ?_
  | with_reducible refine' dT_B ?_
  | with_reducible refine' dT_test ?_
  | with_reducible refine' dT_and ?_
  | with_reducible refine' dT_or ?_
  | with_reducible refine' dT_not ?_
  | with_reducible refine' dT_yes ?_
  | with_reducible refine' dR_I0i ?_
  | with_reducible refine' dU_neg ?_
  | ((with_reducible refine' dR_ixT ?dv ?_); (case dv => rfl))
  | with_reducible refine' dS_seq ?_
  | with_reducible refine' dS_next ?_
  | with_reducible refine' dS_ret ?_
  | with_reducible refine' dS_drop ?_
  | with_reducible refine' dS_if ?_
  | with_reducible refine' dS_asg ?_
  | with_reducible refine' dS_par ?_
  | with_reducible refine' dG_name ?_
  | ((with_reducible refine' dG_tup ?dv ?_); (case dv => rfl); (dsimp only [List.map]))
  | with_reducible refine' dGs_cons ?_
  | with_reducible refine' dGs_nil ?_
  | with_reducible refine' dC_abs ?_
  | with_reducible refine' dC_max2 ?_
  | with_reducible refine' dC_min2 ?_
  | with_reducible refine' rtOf.of ?_
  | with_reducible refine' ex_cmp ?_
  | with_reducible refine' ex_bool ?_
  | with_reducible refine' ex_int ?_
  | with_reducible refine' ex_list ?_
  | with_reducible refine' ex_tup ?_
  | with_reducible refine' ex_d ?_
  | with_reducible refine' ex_m ?_
  | with_reducible refine' ex_par ?_
  | with_reducible refine' ex_rg1 ?_
  | with_reducible refine' ex_rg2 ?_
  | ((with_reducible refine' ex_dat ?dv ?dw ?_); (case dv => rfl); (case dw => exact Nat.le_of_ble_eq_true rfl))
  | ((fail_if_success (with_reducible show ∃ _, _)); (fail_if_success (with_reducible show _ ∧ _)); refine ⟨_, _, rfl, ?_⟩)
  | ((fail_if_success (with_reducible show ∃ _, _)); (fail_if_success (with_reducible show _ ∧ _)); refine ⟨_, rfl, ?_⟩)
  | fail)
local macro_rules | `(tactic| walk_at "d") => `(tactic| repeat' walk_at "d1")
local macro_rules | `(tactic| walk_at "e1") => `(tactic| first
  | ((with_reducible refine' dE_var ?dv ?_); (case dv => rfl))
  | with_reducible refine' dE_int ?_
  | with_reducible refine' dE_str ?_
  | with_reducible refine' dE_bl ?_
  | with_reducible refine' dE_non ?_
  | ((with_reducible refine' dE_nt ?dv ?_); (case dv => assumption))
  | with_reducible refine' dE_ref ?_
  | with_reducible refine' dE_op ?_
  | with_reducible refine' dE_un ?_
  | with_reducible refine' dE_cmp ?_
  | with_reducible refine' dE_isN ?_
  | with_reducible refine' dE_notN ?_
  | with_reducible refine' dE_call ?_
  | with_reducible refine' dE_cb ?_
  | with_reducible refine' dE_kw ?_
  | with_reducible refine' dE_tup ?_
  | with_reducible refine' dE_if ?_
  | with_reducible refine' dE_and ?_
  | with_reducible refine' dE_or ?_
  | with_reducible refine' dE_not ?_
  | with_reducible refine' dE_sl ?_
  | with_reducible refine' dO_none ?_
  | with_reducible refine' dO_some ?_
  | with_reducible refine' dA_cons ?_
  | with_reducible refine' dA_nil ?_
  | with_reducible refine' dT_B ?_
  | with_reducible refine' dT_test ?_
  | with_reducible refine' dT_and ?_
  | with_reducible refine' dT_or ?_
  | with_reducible refine' dT_not ?_
  | with_reducible refine' dT_yes ?_
  | with_reducible refine' dR_I0i ?_
  | with_reducible refine' dU_neg ?_
  | ((with_reducible refine' dR_ixT ?dv ?_); (case dv => rfl))
  | with_reducible refine' dS_next ?_
  | with_reducible refine' dS_ret ?_
  | with_reducible refine' dS_drop ?_
  | with_reducible refine' dS_if ?_
  | with_reducible refine' dS_asg ?_
  | with_reducible refine' dS_par ?_
  | with_reducible refine' dG_name ?_
  | ((with_reducible refine' dG_tup ?dv ?_); (case dv => rfl); (dsimp only [List.map]))
  | with_reducible refine' dGs_cons ?_
  | with_reducible refine' dGs_nil ?_
  | with_reducible refine' dC_abs ?_
  | with_reducible refine' dC_max2 ?_
  | with_reducible refine' dC_min2 ?_
  | with_reducible refine' rtOf.of ?_
  | with_reducible refine' ex_cmp ?_
  | with_reducible refine' ex_bool ?_
  | with_reducible refine' ex_int ?_
  | with_reducible refine' ex_list ?_
  | with_reducible refine' ex_tup ?_
  | with_reducible refine' ex_d ?_
  | with_reducible refine' ex_m ?_
  | with_reducible refine' ex_par ?_
  | with_reducible refine' ex_rg1 ?_
  | with_reducible refine' ex_rg2 ?_
  | ((with_reducible refine' ex_dat ?dv ?dw ?_); (case dv => rfl); (case dw => exact Nat.le_of_ble_eq_true rfl))
  | ((fail_if_success (with_reducible show ∃ _, _)); (fail_if_success (with_reducible show _ ∧ _)); refine ⟨_, _, rfl, ?_⟩)
  | ((fail_if_success (with_reducible show ∃ _, _)); (fail_if_success (with_reducible show _ ∧ _)); refine ⟨_, rfl, ?_⟩)
  | fail)
local macro_rules | `(tactic| walk_at "e") => `(tactic| repeat' walk_at "e1")
theorem rope_of {d : PyData} (h : ropeB d = true) : ∃ r : Rope, d = r.d ∧ r.Fine ∧ nameB (.str r.n) = true ∧ r.n.length ≤ 10 ∧ ∀ c ∈ r.n.cps.toList, c < 128 := by
  unfold ropeB at h
  split at h
  · rename_i n a b c
    obtain ⟨h1, h2⟩ := Bool.and_eq_true _ _ ▸ h
    obtain ⟨h3, h4⟩ := Bool.and_eq_true _ _ ▸ h2
    obtain ⟨h5, h6⟩ := Bool.and_eq_true _ _ ▸ h4
    have num : ∀ {lo hi : Int} {d : PyData}, inB lo hi d = true → ∃ i, d = .int i ∧ lo ≤ i ∧ i ≤ hi := fun {lo hi d} h => by
      cases d with
      | int i =>
        have h' : (decide (lo ≤ i) && decide (i ≤ hi)) = true := h
        rw [Bool.and_eq_true, decide_eq_true_iff, decide_eq_true_iff] at h'
        exact ⟨i, rfl, h'.1, h'.2⟩
      | _ => cases h
    obtain ⟨i, rfl, i1, i2⟩ := num h3
    obtain ⟨j, rfl, j1, j2⟩ := num h5
    obtain ⟨k, rfl, k1, k2⟩ := num h6
    cases n with
    | str x =>
      have h' : (decide (1 ≤ x.length) && decide (x.length ≤ 8) && x.cps.toList.all fun c => decide (97 ≤ c) && decide (c ≤ 122)) = true := h1
      rw [Bool.and_eq_true, Bool.and_eq_true, decide_eq_true_iff, decide_eq_true_iff, List.all_eq_true] at h'
      refine ⟨⟨x, i, j, k⟩, rfl, ⟨i1, i2, j1, j2, k1, k2⟩, h1, by have := h'.1.2; show x.length ≤ 10; omega, fun c hc => ?_⟩
      have := h'.2 c hc
      rw [Bool.and_eq_true, decide_eq_true_iff, decide_eq_true_iff] at this
      omega
    | _ => cases h1
  · cases h
theorem frac_of {d : PyData} (h : fracB d = true) : ∃ q : Q, d = fr q ∧ Red q := by
  unfold fracB at h
  split at h
  · rename_i t b
    rw [Bool.and_eq_true, Bool.and_eq_true, decide_eq_true_iff, decide_eq_true_iff, decide_eq_true_iff] at h
    exact ⟨(t, b), rfl, h.1, by show 0 < b; omega, h.2.2⟩
  · cases h
theorem Gd.lok {q : Q} (h : Gd (fr q)) (hr : Red q) : LOk q := by
  obtain ⟨n, hn, h, _⟩ := h
  cases h with
  | tuple _ _ h2 =>
    have h3 := h2 (.int q.1) List.mem_cons_self
    have h4 := h2 (.int q.2) (List.mem_cons_of_mem _ List.mem_cons_self)
    cases h3 with
    | int _ h3 =>
      cases h4 with
      | int _ h4 => exact ⟨hr, h3.up (by omega), h4.up (by omega)⟩
theorem nm_is {ro : List Rope} {n : Str} : isNm ro (.str n) = true ↔ ∃ r ∈ ro, r.n = n := by
  unfold isNm
  rw [List.any_eq_true]
  constructor
  · rintro ⟨r, h1, h2⟩
    exact ⟨r, h1, beq_iff_eq.mp h2⟩
  · rintro ⟨r, h1, h2⟩
    exact ⟨r, h1, beq_iff_eq.mpr h2⟩
theorem nm_str {ro : List Rope} {d : PyData} (h : isNm ro d = true) : ∃ r ∈ ro, d = .str r.n := by
  unfold isNm at h
  obtain ⟨r, h1, h2⟩ := List.any_eq_true.mp h
  refine ⟨r, h1, ?_⟩
  cases d with
  | str x => exact congrArg PyData.str (beq_iff_eq.mp (show (r.n == x) = true from h2)).symm
  | _ => cases h2
theorem oset_comm {M : Mem} {p d : Addr} {x y : Ob} (h : d ≠ p) : oset (oset M d x) p y = oset (oset M p y) d x := Mem.ext' (fun _ => rfl) fun b => by
  by_cases e1 : b = p
  · subst e1; rw [oset_same, oset_ne (Ne.symm h), oset_same]
  · rw [oset_ne e1]
    by_cases e2 : b = d
    · subst e2; rw [oset_same, oset_same]
    · rw [oset_ne e2, oset_ne e2, oset_ne e1]
section
variable {P : Program} {w : World} {K : PySem.W.Frag} {mg : Str → Option Value} {base : Heap} {f a_N C : Addr} {fd : FuncData} {E : EC}
/-- the works' last line: busy no more -/
theorem fin_ok {D : DEnds} {δ : DSt} {M : Mem} {p a : Addr} {x : WS} {b : Bool} (wk : Wk K C) (h0 : δ[0]? = some (some (.m p))) (k : D.nx δ (wput C M p a x false)) : dS K (sFld K (tVar 0) (tC (.bl false)) "busy") D δ (wput C M p a x b) :=
  dS_own wk.cl wk.busy h0 (dE_bl ⟨_, wput_o, wfs_len, by rw [w_busy]; exact k⟩)
theorem fin_rf {D : DEnds} {PX : Value → Option Addr → Mem → Prop} {δ : DSt} {M : Mem} {p a : Addr} {x : WS} {b : Bool} (rf : Rf) (wk : Wk K C) (hD : ∀ cls d M', PX cls d M' → D.xs cls d δ M') (h0 : δ[0]? = some (some (.m p))) (k : rf.out E (wput C M p a x false) PX) :
    rf.out E (wput C M p a x b) fun cls d M' => dS K (sFld K (tVar 0) (tC (.bl false)) "busy") (D.sx cls d) δ M' := by
  have fld : ∀ (cls : Value) (fs : List (Str × SV)), (∀ d, (wput C M p a x false).o d = none → (wput C M p a x false) d = none → PX cls (some d) (oset (wput C M p a x false) d (.exd fs))) → ∀ d, (wput C M p a x b).o d = none → (wput C M p a x b) d = none → dS K (sFld K (tVar 0) (tC (.bl false)) "busy") (D.sx cls (some d)) δ (oset (wput C M p a x b) d (.exd fs)) := fun cls fs k d h1 h2 => by
    have n : d ≠ p := by
      rintro rfl
      rw [wput_o] at h1
      cases h1
    refine dS_own wk.cl wk.busy h0 (dE_bl ⟨_, (oset_ne (Ne.symm n)).trans wput_o, wfs_len, ?_⟩)
    rw [oset_comm n, w_busy]
    have h1' : (oset (mset M a (x.story.map rowD)) p (.ins C (wfs x a b))).o d = none := h1
    rw [oset_ne n] at h1'
    exact hD _ _ _ (k d ((oset_ne n).trans h1') h2)
  cases rf with
  | hung q => exact fld _ _ k
  | whole q => exact fld _ _ k
  | noRope => exact fin_ok wk h0 (hD _ _ _ k)
  | noLoad => exact fin_ok wk h0 (hD _ _ _ k)
  | noName => exact fin_ok wk h0 (hD _ _ _ k)
  | noNumber => exact fin_ok wk h0 (hD _ _ _ k)
  | taken => exact fin_ok wk h0 (hD _ _ _ k)
  | full => exact fin_ok wk h0 (hD _ _ _ k)
  | noRopes => exact fin_ok wk h0 (hD _ _ _ k)
def w0 : WS := ⟨[], [], (0, 1), [], 0⟩
theorem w0_ok : Wo w0 := ⟨by decide, (fun r hr => by cases hr), .nil, (fun r hr => by cases hr), ⟨(fun r hr => by cases hr), .nil⟩, mk01.ok⟩
def S_init (C : Addr) : SpX := fun rs M P PX => ∃ p, rs = [.m p] ∧ M.o p = some (.ins C []) ∧ ∀ a, M a = none → P (.d .none) (wput C M p a w0 false)
abbrev s_Works___init__ : Stmt := inClass (topS 39) 0
theorem sc_Works___init__ : FnScope ["self"] ["self"] (defScope s_Works___init__) := ⟨rfl, rfl, rfl, by decide +kernel, rfl, by decide +kernel, by decide +kernel⟩
theorem ok_w_init (wk : Wk K C) (N : Nt K mg a_N) (F0 : Fun K "__init__" "Works.__init__" s_Works___init__ f fd) : FnOk P w K mg base (L2N.CX P w) 1 f fd ["self"] (spOfX K (S_init C)) := by
  refine okX_of F0 sc_Works___init__ (fun rs M P PX h => by obtain ⟨p, rfl, _⟩ := h; rfl) fun cdv A outer s H XE hr => ⟨_, (pss_cons (kps_fld K (pv 0) (pe_tup pa_nil))
      (pss_cons (kps_fld K (pv 0) (pe_tup pa_nil))
      (pss_cons (kps_fld K (pv 0) (pe_glob (v := .ref a_N) rfl N.m rfl))
      (pss_cons (kps_fld K (pv 0) (pe_lst pa_nil))
      (pss_cons (kps_fld K (pv 0) pe_int)
      (pss_one (kps_fld K (pv 0) pe_bl))))))), fun rs M P PX h => ?_⟩
  obtain ⟨p, rfl, h, k⟩ := h
  refine dS_seq (dS_own wk.cl wk.strands rfl ?_)
  walk_at "d"
  refine ⟨_, h, Nat.le_of_ble_eq_true rfl, ?_⟩
  refine dS_seq (dS_own wk.cl wk.gone rfl ?_)
  walk_at "d"
  refine ⟨_, oset_same, Nat.le_of_ble_eq_true rfl, ?_⟩
  rw [oset_oset]
  refine dS_seq (dS_own wk.cl wk.weight rfl ?_)
  walk_at "d"
  refine ⟨_, oset_same, Nat.le_of_ble_eq_true rfl, ?_⟩
  rw [oset_oset]
  refine dS_seq (dS_own wk.cl wk.story rfl ?_)
  refine dE_lstM ?_
  walk_at "d"
  intro a ha
  refine ⟨_, oset_same, Nat.le_of_ble_eq_true rfl, ?_⟩
  rw [mset_oset, oset_oset]
  refine dS_seq (dS_own wk.cl wk.falls rfl ?_)
  walk_at "d"
  refine ⟨_, oset_same, Nat.le_of_ble_eq_true rfl, ?_⟩
  rw [oset_oset]
  refine dS_own wk.cl wk.busy rfl ?_
  walk_at "d"
  refine ⟨_, oset_same, Nat.le_of_ble_eq_true rfl, ?_⟩
  rw [oset_oset]
  exact rtOf.of (k a ha)
def putR (x : WS) (d : PyData) : Option Rf := if ropeB d = false then some .noRope else if isNm x.st (.str (nmOf d)) = true then some .taken else if 6 ≤ x.st.length then some .full else if x.wt ≠ (0, 1) then some (.hung x.wt) else none
def putW (x : WS) (r : Rope) : WS := { x with st := sortR (x.st ++ [r]) }
def S_put (E : EC) (C : Addr) : SpX := fun rs M P PX => ∃ p a x b d, rs = [.m p, .d d] ∧ WAt C M p a x b ∧ Wo x ∧ Gd d ∧ (∀ rf, putR x d = some rf → rf.out E (wput C M p a x false) PX) ∧ ∀ r : Rope, putR x d = none → d = r.d → P (.d .none) (wput C M p a (putW x r) false)
abbrev s_Works_put : Stmt := inClass (topS 39) 1
theorem sc_Works_put : FnScope ["self", "rope"] ["self", "rope"] (defScope s_Works_put) := ⟨rfl, rfl, rfl, by decide +kernel, rfl, by decide +kernel, by decide +kernel⟩
theorem ok_w_put {C0 : Addr} (wk : Wk K C0) (Z : Ers K mg P E) (C : Cst mg) (T : Txt mg) (F0 : Fun K "put" "Works.put" s_Works_put f fd) (c_is_rope : Has P w K mg base 3 "is_rope" ["thing"] S_isrope) (c_is_named : Has P w K mg base 1 "is_named" ["ropes", "thing"] S_isnm) (c_Works_refuse_hung : HasM P w K mg base 4 C0 "refuse_hung" ["self"] (S_rhung E C0)) : FnOk P w K mg base (L2N.CX P w) 5 f fd ["self", "rope"] (spOfX K (S_put E C0)) := by
  refine okX_of F0 sc_Works_put (fun rs M P PX h => by obtain ⟨p, a, x, b, d, rfl, _⟩ := h; rfl) fun cdv A outer s H XE hr => ⟨_, (pss_cons (kps_fld K (pv 0) pe_bl)
      (pss_one (ps_fn rfl rfl rfl (L2N.takes_of rfl rfl rfl rfl) (fun W pn xe tk own => (pss_cons (ps_if (pt_not (pt_val (pe_callH' c_is_rope (hr.mono (by first | decide | omega)) rfl (pa_cons (pv 1) pa_nil)))) (pss_one (L2N.ps_raise rfl tk (L2N.pmk_own PySem.F.excBase_ValueError Z.NoRope.x Z.NoRope.g Z.NoRope.k (raises_own Z.NoRope.b Z.NoRope.t) (by exact rfl)))) pss_nil)
      (pss_cons (ps_if (pt_val (pe_callH' c_is_named (hr.mono (by first | decide | omega)) rfl (pa_cons (kpe_fld K (pv 0)) (pa_cons (pe_ix (kix_tup K) (pv 1) pe_int (fun _ _ => rfl)) pa_nil)))) (pss_one (L2N.ps_raise rfl tk (L2N.pmk_own PySem.F.excBase_ValueError Z.Taken.x Z.Taken.g Z.Taken.k (raises_own Z.Taken.b Z.Taken.t) (by exact rfl)))) pss_nil)
      (pss_cons (ps_if (pt_cmp (pc_ge (pe_callB (kcall_len K) (by rfl) T.len (by decide +kernel) (pa_cons (kpe_fld K (pv 0)) pa_nil)) (pe_globI rfl C.c_MOST_ROPES))) (pss_one (L2N.ps_raise rfl tk (L2N.pmk_own PySem.F.excBase_ValueError Z.Full.x Z.Full.g Z.Full.k (raises_own Z.Full.b Z.Full.t) (by exact rfl)))) pss_nil)
      (pss_cons (ps_expr (pe_mX0 (pv 0) wk.cl c_Works_refuse_hung (hr.mono (by first | decide | omega)) tk))
      (pss_one (kps_fld K (pv 0) (pe_callTy (kcall_tuple K) (by rfl) T.tuple (by decide +kernel) (pa_cons (pe_callB (kcr_sortedD K hr) (by rfl) T.sorted (by decide +kernel) (pa_cons (pe_lst (kpa_star K (kpe_fld K (pv 0)) (pa_cons (pv 1) pa_nil))) pa_nil)) pa_nil))))))))) (pss_one (kps_fld K (pv 0) pe_bl)) (fun a pn => (pss_one (kps_fld K (pv 0) pe_bl)))))), fun rs M P PX h => ?_⟩
  obtain ⟨p, a, x, b, d, rfl, h, hx, hd, kx, kn⟩ := h
  obtain ⟨M, rfl⟩ := h.ex
  simp only [wput_wput] at kx kn
  unfold putR at kx kn
  refine dS_seq (dS_own wk.cl wk.busy rfl (dE_bl ⟨_, wput_o, wfs_len, ?_⟩))
  rw [w_busy]
  refine dS_fn rfl ?_
  walk_at "d"
  refine ⟨hd, ?_⟩
  walk_at "d"
  refine ifB (fun h1 => ?_) (fun h1 => ?_)
  · have h1' : ropeB d = false := by simpa using h1
    refine dS_raise rfl (fin_rf .noRope wk (fun _ _ _ => xtOf.of) rfl (kx _ ?_))
    rw [if_pos h1']
  have h1' : ropeB d = true := by simpa using h1
  rw [if_neg (by rw [h1']; decide)] at kx kn
  obtain ⟨r, rfl, hf, hnm, hlen, hasc⟩ := rope_of h1'
  rw [show nmOf r.d = r.n from rfl] at kx kn
  walk_at "d"
  refine dE_own rfl wput_o wk.cl wk.strands look_st ?_
  walk_at "d"
  refine ⟨hx.ok.len, fun s hs => hx.lay hs, Shp.lay (asc_lay hasc), ?_⟩
  walk_at "d"
  refine ifB (fun h2 => ?_) (fun h2 => ?_)
  · refine dS_raise rfl (fin_rf .taken wk (fun _ _ _ => xtOf.of) rfl (kx _ ?_))
    rw [if_pos h2]
  rw [if_neg (by rw [h2]; decide)] at kx kn
  walk_at "d"
  refine dE_own rfl wput_o wk.cl wk.strands look_st ?_
  walk_at "d"
  refine dC_len (.inr (.inl rfl)) ?_
  walk_at "d"
  refine ifB (fun h3 => ?_) (fun h3 => ?_)
  · refine dS_raise rfl (fin_rf .full wk (fun _ _ _ => xtOf.of) rfl (kx _ ?_))
    rw [if_pos (by simp at h3; omega)]
  have h3' : ¬ 6 ≤ x.st.length := by simp at h3; omega
  rw [if_neg h3'] at kx kn
  refine dS_next ?_
  refine dS_seq ?_
  refine dS_dropX rfl ?_
  refine dEX_own rfl wput_o rfl ?_
  refine dA_nil ?_
  refine ⟨p, a, x, true, rfl, wput_at, fun h4 => ?_, fun h4 => fin_rf (.hung x.wt) wk (fun _ _ _ => xtOf.of) rfl (kx _ (by rw [if_pos h4]))⟩
  rw [if_neg (by simpa using h4)] at kn
  refine dS_own wk.cl wk.strands rfl ?_
  walk_at "d"
  refine dE_lst ?_
  refine dA_star ?_
  refine dE_own rfl wput_o wk.cl wk.strands look_st ?_
  refine ⟨_, .inr (.inl rfl), ?_⟩
  walk_at "d"
  refine ⟨(x.st ++ [r]).map Rope.d, ?_, by rw [List.length_map, List.length_append]; show _ + 1 ≤ _; omega, ?_⟩
  · rw [dat_map, List.map_append]
    simp [datAll]
  walk_at "d"
  refine dC_sortedD (.inl rfl) (fun d hd d' hd' => ?_) (.inl fun d hd => ?_) (fun d hd => ?_) ?_
  · obtain ⟨r1, _, rfl⟩ := List.mem_map.mp hd
    obtain ⟨r2, _, rfl⟩ := List.mem_map.mp hd'
    simp [PySem.W.alike, PySem.W.alikeAll]
  · obtain ⟨r1, _, rfl⟩ := List.mem_map.mp hd
    exact ⟨_, _, rfl⟩
  · obtain ⟨r1, _, rfl⟩ := List.mem_map.mp hd
    exact Nat.le_of_ble_eq_true rfl
  rw [sortR_dat]
  walk_at "d"
  refine dC_tuple (.inl rfl) ?_
  refine ⟨_, wput_o, wfs_len, ?_⟩
  rw [w_st]
  exact fin_ok wk rfl (rtOf.of (kn r rfl rfl))
def splR (x : WS) (d : PyData) : Option Rf := if isNm x.st d = false then some .noName else match d with
  | .str n => if x.gone.contains n = false then some (.whole n) else if x.wt ≠ (0, 1) then some (.hung x.wt) else none
  | _ => none
def splW (x : WS) (n : Str) : WS := { x with gone := x.gone.filter fun m => !(m == n) }
def S_spl (E : EC) (C : Addr) : SpX := fun rs M P PX => ∃ p a x b d, rs = [.m p, .d d] ∧ WAt C M p a x b ∧ Wo x ∧ SeqAt.shaped d = true ∧ (∀ rf, splR x d = some rf → rf.out E (wput C M p a x false) PX) ∧ ∀ n : Str, splR x d = none → d = .str n → P (.d .none) (wput C M p a (splW x n) false)
abbrev s_Works_splice : Stmt := inClass (topS 39) 3
theorem sc_Works_splice : FnScope ["self", "name", "other"] ["self", "name"] (defScope s_Works_splice) := ⟨rfl, rfl, rfl, by decide +kernel, rfl, by decide +kernel, by decide +kernel⟩
theorem ok_w_splice (wk : Wk K C) (Z : Ers K mg P E) (T : Txt mg) (F0 : Fun K "splice" "Works.splice" s_Works_splice f fd) (c_Works_refuse_unnamed : HasM P w K mg base 4 C "refuse_unnamed" ["self", "name"] (S_runn E C)) (c_Works_refuse_hung : HasM P w K mg base 4 C "refuse_hung" ["self"] (S_rhung E C)) : FnOk P w K mg base (L2N.CX P w) 5 f fd ["self", "name"] (spOfX K (S_spl E C)) := by
  refine okX_of F0 sc_Works_splice (fun rs M P PX h => by obtain ⟨p, a, x, b, d, rfl, _⟩ := h; rfl) fun cdv A outer s H XE hr => ⟨_, (pss_cons (kps_fld K (pv 0) pe_bl)
      (pss_one (ps_fn rfl rfl rfl (L2N.takes_of rfl rfl rfl rfl) (fun W pn xe tk own => (pss_cons (ps_expr (pe_mX (pv 0) wk.cl c_Works_refuse_unnamed (hr.mono (by first | decide | omega)) tk (pa_cons (pv 1) pa_nil)))
      (pss_cons (ps_if (pt_cmpR (kop_notIn K) (pv 1) (kpe_fld K (pv 0)) (by rfl)) (pss_one (L2N.ps_raise rfl tk (pmk_sup Z.Whole T.super hr (pa_cons (pv 1) pa_nil) rfl))) pss_nil)
      (pss_cons (ps_expr (pe_mX0 (pv 0) wk.cl c_Works_refuse_hung (hr.mono (by first | decide | omega)) tk))
      (pss_one (kps_fld K (pv 0) (pe_callTy (kcall_tuple K) (by rfl) T.tuple (by decide +kernel) (pa_cons (pe_lc (own := [("other", 2)]) (by rfl) sc_Works_splice.nd (kpi_tup K (kpe_fld K (pv 0))) (blkOk_by (N := ["self", "name", "other"]) (sc := defScope s_Works_splice) (own := [("other", 2)]) (by decide +kernel)) (fun _ _ _ _ _ => (pg_name (i := 2) sc_Works_splice.nd rfl (Or.inl rfl))) (fun _ _ _ _ _ => (pts_one (pt_cmpR (kop_neD K hr.units) (pv 2) (pv 1) (nomark _)))) (fun _ _ _ _ _ => (pv 2))) pa_nil)))))))) (pss_one (kps_fld K (pv 0) pe_bl)) (fun a pn => (pss_one (kps_fld K (pv 0) pe_bl)))))), fun rs M P PX h => ?_⟩
  obtain ⟨p, a, x, b, d, rfl, h, hx, hd, kx, kn⟩ := h
  obtain ⟨M, rfl⟩ := h.ex
  simp only [wput_wput] at kx kn
  unfold splR at kx kn
  refine dS_seq (dS_own wk.cl wk.busy rfl (dE_bl ⟨_, wput_o, wfs_len, ?_⟩))
  rw [w_busy]
  refine dS_fn rfl ?_
  refine dS_seq ?_
  refine dS_dropX rfl ?_
  refine dEX_own rfl wput_o rfl ?_
  walk_at "d"
  refine ⟨p, a, x, true, d, rfl, wput_at, hx, hd, fun h1 => ?_, fun h1 => fin_rf .noName wk (fun _ _ _ => xtOf.of) rfl (kx _ (by rw [if_pos h1]))⟩
  rw [if_neg (by rw [h1]; decide)] at kx kn
  obtain ⟨r, hr1, rfl⟩ := nm_str h1
  simp only at kx kn
  refine dS_seq ?_
  walk_at "d"
  refine dE_own rfl wput_o wk.cl wk.gone look_gone ?_
  refine dR_no (ns := x.gone) (.inr (.inl rfl)) ?_
  walk_at "d"
  refine ifB (fun h2 => ?_) (fun h2 => ?_)
  · refine dS_raiseF rfl ?_
    walk_at "d"
    exact fin_rf (.whole r.n) wk (fun _ _ _ => xtOf.of) rfl (kx _ (by rw [if_pos (by simpa using h2)]))
  rw [if_neg (by simpa using h2)] at kx kn
  refine dS_next ?_
  refine dS_seq ?_
  refine dS_dropX rfl ?_
  refine dEX_own rfl wput_o rfl ?_
  refine dA_nil ?_
  refine ⟨p, a, x, true, rfl, wput_at, fun h4 => ?_, fun h4 => fin_rf (.hung x.wt) wk (fun _ _ _ => xtOf.of) rfl (kx _ (by rw [if_pos h4]))⟩
  rw [if_neg (by simpa using h4)] at kn
  refine dS_own wk.cl wk.gone rfl ?_
  walk_at "d"
  refine dE_lcTf (enc := PyData.str) (out := PyData.str) (pt := fun m => !(m == r.n)) (xs := x.gone) ?_
  refine dE_own rfl wput_o wk.cl wk.gone look_gone ?_
  refine ⟨rfl, rfl, by have := hx.glen; omega, fun m hm => ?_, fun m hm h => ?_, .inl ?_⟩
  · have hl : PyData.canLay0 (.str m) = true := by
      obtain ⟨r', h1, h2⟩ := List.mem_map.mp (hx.brk.sub m hm)
      rw [← h2]
      exact hx.lay h1
    walk_at "d"
    refine dR_ne (d := .str m) (e := .str r.n) .of .of (Shp.lay hl) (Shp.lay (hx.lay hr1)) ?_
    walk_at "d"
    exact ⟨rfl, rfl⟩
  · walk_at "d"
    exact ⟨rfl, rfl⟩
  walk_at "d"
  refine dC_tuple (.inl rfl) ?_
  refine ⟨_, wput_o, wfs_len, ?_⟩
  rw [w_gone]
  exact fin_ok wk rfl (rtOf.of (kn r.n rfl rfl))
def slk (x : WS) (n : Str) : Int := match x.st.find? fun r => r.n == n with
  | some r => r.a
  | none => 0
theorem slk_is {x : WS} (h : (x.st.map Rope.n).Nodup) {r : Rope} (hr : r ∈ x.st) : slk x r.n = r.a := by
  unfold slk
  cases e : x.st.find? fun s => s.n == r.n with
  | none =>
    have := List.find?_eq_none.mp e r hr
    simp at this
  | some s =>
    have h1 := List.find?_some e
    rw [names_inj h (List.mem_of_find?_eq_some e) hr (beq_iff_eq.mp h1)]
def tgtR (x : WS) (d e : PyData) : Option Rf := if isNm x.st d = false then some .noName else match d with
  | .str n => if inB 1 (slk x n) e = false then some .noNumber else if x.wt ≠ (0, 1) then some (.hung x.wt) else none
  | _ => none
def tgtW (x : WS) (n : Str) (i : Int) : WS := { x with st := x.st.map fun r => if (r.n == n) = true then ⟨r.n, r.a - i, r.b, r.c⟩ else r }
def S_tgt (E : EC) (C : Addr) : SpX := fun rs M P PX => ∃ p a x b d e, rs = [.m p, .d d, .d e] ∧ WAt C M p a x b ∧ Wo x ∧ SeqAt.shaped d = true ∧ (∀ rf, tgtR x d e = some rf → rf.out E (wput C M p a x false) PX) ∧ ∀ (n : Str) (i : Int), tgtR x d e = none → d = .str n → e = .int i → P (.d .none) (wput C M p a (tgtW x n i) false)
abbrev s_Works_tighten : Stmt := inClass (topS 39) 4
theorem sc_Works_tighten : FnScope ["self", "name", "by", "rope"] ["self", "name", "by"] (defScope s_Works_tighten) := ⟨rfl, rfl, rfl, by decide +kernel, rfl, by decide +kernel, by decide +kernel⟩
theorem ok_w_tighten (wk : Wk K C) (Z : Ers K mg P E) (T : Txt mg) (F0 : Fun K "tighten" "Works.tighten" s_Works_tighten f fd) (c_is_within : Has P w K mg base 2 "is_within" ["thing", "least", "most"] S_inB) (c_slack_called : Has P w K mg base 1 "slack_called" ["ropes", "name"] S_slk) (c_tighter : Has P w K mg base 1 "tighter" ["rope", "by"] S_tight) (c_Works_refuse_unnamed : HasM P w K mg base 4 C "refuse_unnamed" ["self", "name"] (S_runn E C)) (c_Works_refuse_hung : HasM P w K mg base 4 C "refuse_hung" ["self"] (S_rhung E C)) : FnOk P w K mg base (L2N.CX P w) 5 f fd ["self", "name", "by"] (spOfX K (S_tgt E C)) := by
  refine okX_of F0 sc_Works_tighten (fun rs M P PX h => by obtain ⟨p, a, x, b, d, e, rfl, _⟩ := h; rfl) fun cdv A outer s H XE hr => ⟨_, (pss_cons (kps_fld K (pv 0) pe_bl)
      (pss_one (ps_fn rfl rfl rfl (L2N.takes_of rfl rfl rfl rfl) (fun W pn xe tk own => (pss_cons (ps_expr (pe_mX (pv 0) wk.cl c_Works_refuse_unnamed (hr.mono (by first | decide | omega)) tk (pa_cons (pv 1) pa_nil)))
      (pss_cons (ps_if (pt_not (pt_val (pe_callH' c_is_within (hr.mono (by first | decide | omega)) rfl (pa_cons (pv 2) (pa_cons pe_int (pa_cons (pe_callH' c_slack_called (hr.mono (by first | decide | omega)) rfl (pa_cons (kpe_fld K (pv 0)) (pa_cons (pv 1) pa_nil))) pa_nil)))))) (pss_one (L2N.ps_raise rfl tk (L2N.pmk_own PySem.F.excBase_ValueError Z.NoNumber.x Z.NoNumber.g Z.NoNumber.k (raises_own Z.NoNumber.b Z.NoNumber.t) (by exact rfl)))) pss_nil)
      (pss_cons (ps_expr (pe_mX0 (pv 0) wk.cl c_Works_refuse_hung (hr.mono (by first | decide | omega)) tk))
      (pss_one (kps_fld K (pv 0) (pe_callTy (kcall_tuple K) (by rfl) T.tuple (by decide +kernel) (pa_cons (pe_lc (own := [("rope", 3)]) (by rfl) sc_Works_tighten.nd (kpi_tup K (kpe_fld K (pv 0))) (blkOk_by (N := ["self", "name", "by", "rope"]) (sc := defScope s_Works_tighten) (own := [("rope", 3)]) (by decide +kernel)) (fun _ _ _ _ _ => (pg_name (i := 3) sc_Works_tighten.nd rfl (Or.inl rfl))) (fun _ _ _ _ _ => pts_nil) (fun _ _ _ _ _ => (pe_ifExp (pt_cmpR (kop_eqD K hr.units) (pe_ix (kix_tup K) (pv 3) pe_int (fun _ _ => rfl)) (pv 1) (nomark _)) (pe_callH' c_tighter (hr.mono (by first | decide | omega)) rfl (pa_cons (pv 3) (pa_cons (pv 2) pa_nil))) (pv 3)))) pa_nil)))))))) (pss_one (kps_fld K (pv 0) pe_bl)) (fun a pn => (pss_one (kps_fld K (pv 0) pe_bl)))))), fun rs M P PX h => ?_⟩
  obtain ⟨p, a, x, b, d, e, rfl, h, hx, hd, kx, kn⟩ := h
  obtain ⟨M, rfl⟩ := h.ex
  simp only [wput_wput] at kx kn
  unfold tgtR at kx kn
  refine dS_seq (dS_own wk.cl wk.busy rfl (dE_bl ⟨_, wput_o, wfs_len, ?_⟩))
  rw [w_busy]
  refine dS_fn rfl ?_
  refine dS_seq ?_
  refine dS_dropX rfl ?_
  refine dEX_own rfl wput_o rfl ?_
  walk_at "d"
  refine ⟨p, a, x, true, d, rfl, wput_at, hx, hd, fun h1 => ?_, fun h1 => fin_rf .noName wk (fun _ _ _ => xtOf.of) rfl (kx _ (by rw [if_pos h1]))⟩
  rw [if_neg (by rw [h1]; decide)] at kx kn
  obtain ⟨r, hr1, rfl⟩ := nm_str h1
  simp only at kx kn
  rw [slk_is hx.nd hr1] at kx kn
  refine dS_seq ?_
  walk_at "d"
  refine dE_own rfl wput_o wk.cl wk.strands look_st ?_
  walk_at "d"
  refine ⟨hx.ok.len, hx.nd, fun s hs => hx.lay hs, hr1, ?_⟩
  walk_at "d"
  refine ⟨e, 1, r.a, rfl, ?_⟩
  walk_at "d"
  refine ifB (fun h2 => ?_) (fun h2 => ?_)
  · exact dS_raise rfl (fin_rf .noNumber wk (fun _ _ _ => xtOf.of) rfl (kx _ (by rw [if_pos (by simpa using h2)])))
  have h2' : inB 1 r.a e = true := by simpa using h2
  rw [if_neg (by rw [h2']; decide)] at kx kn
  obtain ⟨i, rfl⟩ : ∃ i, e = .int i := by cases e <;> first | exact ⟨_, rfl⟩ | cases h2'
  refine dS_next ?_
  refine dS_seq ?_
  refine dS_dropX rfl ?_
  refine dEX_own rfl wput_o rfl ?_
  refine dA_nil ?_
  refine ⟨p, a, x, true, rfl, wput_at, fun h4 => ?_, fun h4 => fin_rf (.hung x.wt) wk (fun _ _ _ => xtOf.of) rfl (kx _ (by rw [if_pos h4]))⟩
  rw [if_neg (by simpa using h4)] at kn
  refine dS_own wk.cl wk.strands rfl ?_
  walk_at "d"
  refine dE_lcTm (enc := Rope.d) (out := fun s => Rope.d (if (s.n == r.n) = true then ⟨s.n, s.a - i, s.b, s.c⟩ else s)) (xs := x.st) ?_
  refine dE_own rfl wput_o wk.cl wk.strands look_st ?_
  refine ⟨rfl, rfl, by have := hx.len; omega, fun s hs => ?_, .inl ?_⟩
  · walk_at "d"
    refine dR_eq (d := .str s.n) (e := .str r.n) .of .of (Shp.lay (hx.lay hs)) (Shp.lay (hx.lay hr1)) ?_
    walk_at "d"
    refine ifB (fun h => ?_) (fun h => ?_)
    · walk_at "d"
      refine ⟨?_, rfl⟩
      rw [if_pos (show (s.n == r.n) = true from h)]
    · walk_at "d"
      refine ⟨?_, rfl⟩
      rw [if_neg (by rw [show (s.n == r.n) = false from h]; decide)]
  walk_at "d"
  refine dC_tuple (.inl rfl) ?_
  refine ⟨_, wput_o, wfs_len, ?_⟩
  rw [show x.st.map (fun s => Rope.d (if (s.n == r.n) = true then ⟨s.n, s.a - i, s.b, s.c⟩ else s)) = (x.st.map fun s => if (s.n == r.n) = true then ⟨s.n, s.a - i, s.b, s.c⟩ else s).map Rope.d by rw [List.map_map]; rfl, w_st]
  exact fin_ok wk rfl (rtOf.of (kn r.n i rfl rfl rfl))
end
end K2
namespace K2
open PySem L2 Sd Ma
local macro_rules | `(tactic| walk_at "d1") => `(tactic| first
  | ((with_reducible refine' dE_var ?dv ?_); (case dv => rfl))
  | with_reducible refine' dE_int ?_
  | with_reducible refine' dE_str ?_
  | with_reducible refine' dE_bl ?_
  | with_reducible refine' dE_non ?_
  | ((with_reducible refine' dE_nt ?dv ?_); (case dv => assumption))
  | with_reducible refine' dE_ref ?_
  | with_reducible refine' dE_op ?_
  | with_reducible refine' dE_un ?_
  | with_reducible refine' dE_cmp ?_
  | with_reducible refine' dE_isN ?_
  | with_reducible refine' dE_notN ?_
  | with_reducible refine' dE_call ?_
  | with_reducible refine' dE_cb ?_
  | with_reducible refine' dE_kw ?_
  | with_reducible refine' dE_tup ?_
  | with_reducible refine' dE_if ?_
  | with_reducible refine' dE_and ?_
  | with_reducible refine' dE_or ?_
  | with_reducible refine' dE_not ?_
  | with_reducible refine' dE_sl ?_
  | with_reducible refine' dO_none ?_
  | with_reducible refine' dO_some ?_
  | with_reducible refine' dA_cons ?_
  | with_reducible refine' dA_nil ?_
  | with_reducible refine' dT_B ?_
  | with_reducible refine' dT_test ?_
  | with_reducible refine' dT_and ?_
  | with_reducible refine' dT_or ?_
  | with_reducible refine' dT_not ?_
  | with_reducible refine' dT_yes ?_
  | with_reducible refine' dR_I0i ?_
  | with_reducible refine' dU_neg ?_
  | ((with_reducible refine' dR_ixT ?dv ?_); (case dv => rfl))
  | with_reducible refine' dS_seq ?_
  | with_reducible refine' dS_next ?_
  | with_reducible refine' dS_ret ?_
  | with_reducible refine' dS_drop ?_
  | with_reducible refine' dS_if ?_
  | with_reducible refine' dS_asg ?_
  | with_reducible refine' dS_par ?_
  | with_reducible refine' dG_name ?_
  | ((with_reducible refine' dG_tup ?dv ?_); (case dv => rfl); (dsimp only [List.map]))
  | with_reducible refine' dGs_cons ?_
  | with_reducible refine' dGs_nil ?_
  | with_reducible refine' dC_abs ?_
  | with_reducible refine' dC_max2 ?_
  | with_reducible refine' dC_min2 ?_
  | with_reducible refine' rtOf.of ?_
  | with_reducible refine' ex_cmp ?_
  | with_reducible refine' ex_bool ?_
  | with_reducible refine' ex_int ?_
  | with_reducible refine' ex_list ?_
  | with_reducible refine' ex_tup ?_
  | with_reducible refine' ex_d ?_
  | with_reducible refine' ex_m ?_
  | with_reducible refine' ex_par ?_
  | with_reducible refine' ex_rg1 ?_
  | with_reducible refine' ex_rg2 ?_
  | ((with_reducible refine' ex_dat ?dv ?dw ?_); (case dv => rfl); (case dw => exact Nat.le_of_ble_eq_true rfl))
  | ((fail_if_success (with_reducible show ∃ _, _)); (fail_if_success (with_reducible show _ ∧ _)); refine ⟨_, _, rfl, ?_⟩)
  | ((fail_if_success (with_reducible show ∃ _, _)); (fail_if_success (with_reducible show _ ∧ _)); refine ⟨_, rfl, ?_⟩)
  | fail)
local macro_rules | `(tactic| walk_at "d") => `(tactic| repeat' walk_at "d1")
local macro_rules | `(tactic| walk_at "e1") => `(tactic| first
  | ((with_reducible refine' dE_var ?dv ?_); (case dv => rfl))
  | with_reducible refine' dE_int ?_
  | with_reducible refine' dE_str ?_
  | with_reducible refine' dE_bl ?_
  | with_reducible refine' dE_non ?_
  | ((with_reducible refine' dE_nt ?dv ?_); (case dv => assumption))
  | with_reducible refine' dE_ref ?_
  | with_reducible refine' dE_op ?_
  | with_reducible refine' dE_un ?_
  | with_reducible refine' dE_cmp ?_
  | with_reducible refine' dE_isN ?_
  | with_reducible refine' dE_notN ?_
  | with_reducible refine' dE_call ?_
  | with_reducible refine' dE_cb ?_
  | with_reducible refine' dE_kw ?_
  | with_reducible refine' dE_tup ?_
  | with_reducible refine' dE_if ?_
  | with_reducible refine' dE_and ?_
  | with_reducible refine' dE_or ?_
  | with_reducible refine' dE_not ?_
  | with_reducible refine' dE_sl ?_
  | with_reducible refine' dO_none ?_
  | with_reducible refine' dO_some ?_
  | with_reducible refine' dA_cons ?_
  | with_reducible refine' dA_nil ?_
  | with_reducible refine' dT_B ?_
  | with_reducible refine' dT_test ?_
  | with_reducible refine' dT_and ?_
  | with_reducible refine' dT_or ?_
  | with_reducible refine' dT_not ?_
  | with_reducible refine' dT_yes ?_
  | with_reducible refine' dR_I0i ?_
  | with_reducible refine' dU_neg ?_
  | ((with_reducible refine' dR_ixT ?dv ?_); (case dv => rfl))
  | with_reducible refine' dS_next ?_
  | with_reducible refine' dS_ret ?_
  | with_reducible refine' dS_drop ?_
  | with_reducible refine' dS_if ?_
  | with_reducible refine' dS_asg ?_
  | with_reducible refine' dS_par ?_
  | with_reducible refine' dG_name ?_
  | ((with_reducible refine' dG_tup ?dv ?_); (case dv => rfl); (dsimp only [List.map]))
  | with_reducible refine' dGs_cons ?_
  | with_reducible refine' dGs_nil ?_
  | with_reducible refine' dC_abs ?_
  | with_reducible refine' dC_max2 ?_
  | with_reducible refine' dC_min2 ?_
  | with_reducible refine' rtOf.of ?_
  | with_reducible refine' ex_cmp ?_
  | with_reducible refine' ex_bool ?_
  | with_reducible refine' ex_int ?_
  | with_reducible refine' ex_list ?_
  | with_reducible refine' ex_tup ?_
  | with_reducible refine' ex_d ?_
  | with_reducible refine' ex_m ?_
  | with_reducible refine' ex_par ?_
  | with_reducible refine' ex_rg1 ?_
  | with_reducible refine' ex_rg2 ?_
  | ((with_reducible refine' ex_dat ?dv ?dw ?_); (case dv => rfl); (case dw => exact Nat.le_of_ble_eq_true rfl))
  | ((fail_if_success (with_reducible show ∃ _, _)); (fail_if_success (with_reducible show _ ∧ _)); refine ⟨_, _, rfl, ?_⟩)
  | ((fail_if_success (with_reducible show ∃ _, _)); (fail_if_success (with_reducible show _ ∧ _)); refine ⟨_, rfl, ?_⟩)
  | fail)
local macro_rules | `(tactic| walk_at "e") => `(tactic| repeat' walk_at "e1")
section
variable {P : Program} {w : World} {K : PySem.W.Frag} {mg : Str → Option Value} {base : Heap} {f a_N C : Addr} {fd : FuncData} {E : EC}
abbrev wvs (x : WS) (q : Q) : List (List Str) := wavesOf (leftOf x.st x.gone) q
def hngW (x : WS) (q : Q) : WS := settleW (loseW x q (wvs x q).flatten) q
def hngR (x : WS) (d : PyData) : Option Rf := if fracB d = false then some .noLoad else if PyData.eqv d (fr (0, 1)) = false ∧ leftOf x.st x.gone = [] then some .noRopes else none
def S_hang (E : EC) (C : Addr) : SpX := fun rs M P PX => ∃ p a x b d, rs = [.m p, .d d] ∧ WAt C M p a x b ∧ Wo x ∧ x.story.length ≤ 1000 ∧ Gd d ∧ (∀ rf, hngR x d = some rf → rf.out E (wput C M p a x false) PX) ∧ ∀ q : Q, hngR x d = none → d = fr q → P (.d (.list ((wvs x q).map nm))) (wput C M p a (hngW x q) false)
abbrev s_Works_hang : Stmt := inClass (topS 39) 2
theorem sc_Works_hang : FnScope ["self", "load", "told"] ["self", "load"] (defScope s_Works_hang) := ⟨rfl, rfl, rfl, by decide +kernel, rfl, by decide +kernel, by decide +kernel⟩
theorem ok_w_hang (wk : Wk K C) (N : Nt K mg a_N) (Z : Ers K mg P E) (T : Txt mg) (F0 : Fun K "hang" "Works.hang" s_Works_hang f fd) (c_is_load : Has P w K mg base 3 "is_load" ["thing"] S_isload) (c_waves : Has P w K mg base 6 "waves" ["bundle", "broken", "load"] S_waves) (c_Works_len : HasL P w K mg base 2 C (S_len C)) (c_Works_lose : HasM P w K mg base 2 C "lose" ["self", "load", "told"] (S_lose C)) (c_Works_settle : HasM P w K mg base 4 C "settle" ["self", "load"] (S_settle C)) : FnOk P w K mg base (L2N.CX P w) 7 f fd ["self", "load"] (spOfX K (S_hang E C)) := by
  refine okX_of F0 sc_Works_hang (fun rs M P PX h => by obtain ⟨p, a, x, b, d, rfl, _⟩ := h; rfl) fun cdv A outer s H XE hr => ⟨_, (pss_cons (kps_fld K (pv 0) pe_bl)
      (pss_one (ps_fb rfl rfl rfl (L2N.takes_of rfl rfl rfl rfl) (fun W pn xe tk own => (pb_cons (ps_if (pt_not (pt_val (pe_callH' c_is_load (hr.mono (by first | decide | omega)) rfl (pa_cons (pv 1) pa_nil)))) (pss_one (L2N.ps_raise rfl tk (L2N.pmk_own PySem.F.excBase_ValueError Z.NoLoad.x Z.NoLoad.g Z.NoLoad.k (raises_own Z.NoLoad.b Z.NoLoad.t) (by exact rfl)))) pss_nil)
      (pb_cons (ps_if (PW.pt (pw_and (pt_cmpR (kop_neD K hr.units) (pv 1) (pe_glob (v := .ref a_N) rfl N.m rfl) (nomark _)) (pw_and1 (pt_cmp (pc_eqI (pe_callB (kcall_lenO K c_Works_len (hr.mono (by first | decide | omega))) (by rfl) T.len (by decide +kernel) (pa_cons (pv 0) pa_nil)) pe_int))))) (pss_one (L2N.ps_raise rfl tk (L2N.pmk_own PySem.F.excBase_ValueError Z.NoRopes.x Z.NoRopes.g Z.NoRopes.k (raises_own Z.NoRopes.b Z.NoRopes.t) (by exact rfl)))) pss_nil)
      (pb_cons (ps_set (i := 2) sc_Works_hang.nd rfl (Or.inl rfl) (pe_callH' c_waves (hr.mono (by first | decide | omega)) rfl (pa_cons (kpe_fld K (pv 0)) (pa_cons (kpe_fld K (pv 0)) (pa_cons (pv 1) pa_nil)))))
      (pb_cons (ps_expr (pe_mX (pv 0) wk.cl c_Works_lose (hr.mono (by first | decide | omega)) tk (pa_cons (pv 1) (pa_cons (pv 2) pa_nil))))
      (pb_cons (ps_expr (pe_mX (pv 0) wk.cl c_Works_settle (hr.mono (by first | decide | omega)) tk (pa_cons (pv 1) pa_nil)))
      (pb_ret (pv 2)))))))) (pss_one (kps_fld K (pv 0) pe_bl)) (fun a pn => (pss_one (kps_fld K (pv 0) pe_bl)))))), fun rs M P PX h => ?_⟩
  obtain ⟨p, a, x, b, d, rfl, h, hx, hst, hd, kx, kn⟩ := h
  obtain ⟨M, rfl⟩ := h.ex
  simp only [wput_wput] at kx kn
  unfold hngR at kx kn
  refine dS_seq (dS_own wk.cl wk.busy rfl (dE_bl ⟨_, wput_o, wfs_len, ?_⟩))
  rw [w_busy]
  refine dS_fb rfl ?_
  refine dB_cons ?_
  walk_at "d"
  refine ⟨hd, ?_⟩
  walk_at "d"
  refine ifB (fun h1 => ?_) (fun h1 => ?_)
  · exact dS_raise rfl (fin_rf .noLoad wk (fun _ _ _ => xtOf.of) rfl (kx _ (by rw [if_pos (by simpa using h1)])))
  have h1' : fracB d = true := by simpa using h1
  rw [if_neg (by rw [h1']; decide)] at kx kn
  obtain ⟨q, rfl, hq⟩ := frac_of h1'
  have hL := hd.lok hq
  rw [fr_eqv] at kx kn
  refine dS_next ?_
  refine dB_cons ?_
  refine dS_if (dT.mono (PB := fun b M1 => b = (!(decide (q = (0, 1))) && decide (leftOf x.st x.gone = [])) ∧ M1 = wput C M p a x true) ?_ fun b M1 hb => ?_)
  · walk_at "d"
    refine dR_ne (d := fr q) (e := fr (0, 1)) .of .of Shp.fr.shaped Shp.fr.shaped ?_
    rw [fr_eqv]
    walk_at "d"
    refine ifB (fun h2 => ?_) (fun h2 => ?_)
    · walk_at "d"
      refine dC_lenO wput_o ⟨p, a, x, true, rfl, wput_at, hx.len, _, rfl, by have := hx.len; have := List.length_filter_le (fun r : Rope => !x.gone.contains r.n) x.st; unfold leftOf; omega, ?_⟩
      walk_at "d"
      refine ⟨?_, rfl⟩
      rw [h2, Bool.true_and, Bool.eq_iff_iff, decide_eq_true_iff, decide_eq_true_iff]
      simp
    · refine ⟨?_, rfl⟩
      rw [h2]; rfl
  obtain ⟨rfl, rfl⟩ := hb
  refine ifB (fun h2 => ?_) (fun h2 => ?_)
  · refine dS_raise rfl (fin_rf .noRopes wk (fun _ _ _ => xtOf.of) rfl (kx _ ?_))
    rw [if_pos (by simpa using h2)]
  have kn' := kn q (by rw [if_neg]; simpa using h2) rfl
  have hw := waves_len (q := q) _ (leftOf x.st x.gone) (Nat.le_refl _)
  have hll : (leftOf x.st x.gone).length ≤ 6 := Nat.le_trans (List.length_filter_le _ _) hx.len
  refine dS_next ?_
  refine dB_cons ?_
  walk_at "d"
  refine dE_own rfl wput_o wk.cl wk.strands look_st ?_
  walk_at "d"
  refine dE_own rfl wput_o wk.cl wk.gone look_gone ?_
  walk_at "d"
  refine ⟨x.st, x.gone, q, rfl, hx.ok, hL, ?_⟩
  walk_at "d"
  refine dB_cons ?_
  refine dS_dropX rfl ?_
  refine dEX_own rfl wput_o rfl ?_
  walk_at "d"
  refine ⟨p, a, x, true, q, wvs x q, rfl, wput_at, by show (wavesOf (leftOf x.st x.gone) q).length ≤ 10; omega, by show (wavesOf (leftOf x.st x.gone) q).flatten.length ≤ 10; omega, by have := hx.glen; omega, hst, ?_⟩
  rw [wput_wput]
  refine dB_cons ?_
  refine dS_dropX rfl ?_
  refine dEX_own rfl wput_o rfl ?_
  walk_at "d"
  refine ⟨p, a, _, true, q, rfl, wput_at, ?_, ?_⟩
  · unfold loseW; split <;> exact hx.len
  rw [wput_wput]
  refine dB_ret ?_
  walk_at "d"
  exact fin_ok wk rfl (rtOf.of kn')
end
end K2
namespace K2
open PySem L2 Sd Ma L2H
local macro_rules | `(tactic| walk_at "d1") => `(tactic| first
  | ((with_reducible refine' dE_var ?dv ?_); (case dv => rfl))
  | with_reducible refine' dE_int ?_
  | with_reducible refine' dE_str ?_
  | with_reducible refine' dE_bl ?_
  | with_reducible refine' dE_non ?_
  | ((with_reducible refine' dE_nt ?dv ?_); (case dv => assumption))
  | with_reducible refine' dE_ref ?_
  | with_reducible refine' dE_op ?_
  | with_reducible refine' dE_un ?_
  | with_reducible refine' dE_cmp ?_
  | with_reducible refine' dE_isN ?_
  | with_reducible refine' dE_notN ?_
  | with_reducible refine' dE_call ?_
  | with_reducible refine' dE_cb ?_
  | with_reducible refine' dE_kw ?_
  | with_reducible refine' dE_tup ?_
  | with_reducible refine' dE_if ?_
  | with_reducible refine' dE_and ?_
  | with_reducible refine' dE_or ?_
  | with_reducible refine' dE_not ?_
  | with_reducible refine' dE_sl ?_
  | with_reducible refine' dO_none ?_
  | with_reducible refine' dO_some ?_
  | with_reducible refine' dA_cons ?_
  | with_reducible refine' dA_nil ?_
  | with_reducible refine' dT_B ?_
  | with_reducible refine' dT_test ?_
  | with_reducible refine' dT_and ?_
  | with_reducible refine' dT_or ?_
  | with_reducible refine' dT_not ?_
  | with_reducible refine' dT_yes ?_
  | with_reducible refine' dR_I0i ?_
  | with_reducible refine' dU_neg ?_
  | ((with_reducible refine' dR_ixT ?dv ?_); (case dv => rfl))
  | with_reducible refine' dS_seq ?_
  | with_reducible refine' dS_next ?_
  | with_reducible refine' dS_ret ?_
  | with_reducible refine' dS_drop ?_
  | with_reducible refine' dS_if ?_
  | with_reducible refine' dS_asg ?_
  | with_reducible refine' dS_par ?_
  | with_reducible refine' dG_name ?_
  | ((with_reducible refine' dG_tup ?dv ?_); (case dv => rfl); (dsimp only [List.map]))
  | with_reducible refine' dGs_cons ?_
  | with_reducible refine' dGs_nil ?_
  | with_reducible refine' dC_abs ?_
  | with_reducible refine' dC_max2 ?_
  | with_reducible refine' dC_min2 ?_
  | with_reducible refine' rtOf.of ?_
  | with_reducible refine' ex_cmp ?_
  | with_reducible refine' ex_bool ?_
  | with_reducible refine' ex_int ?_
  | with_reducible refine' ex_list ?_
  | with_reducible refine' ex_tup ?_
  | with_reducible refine' ex_d ?_
  | with_reducible refine' ex_m ?_
  | with_reducible refine' ex_par ?_
  | with_reducible refine' ex_rg1 ?_
  | with_reducible refine' ex_rg2 ?_
  | ((with_reducible refine' ex_dat ?dv ?dw ?_); (case dv => rfl); (case dw => exact Nat.le_of_ble_eq_true rfl))
  | ((fail_if_success (with_reducible show ∃ _, _)); (fail_if_success (with_reducible show _ ∧ _)); refine ⟨_, _, rfl, ?_⟩)
  | ((fail_if_success (with_reducible show ∃ _, _)); (fail_if_success (with_reducible show _ ∧ _)); refine ⟨_, rfl, ?_⟩)
  | fail)
local macro_rules | `(tactic| walk_at "d") => `(tactic| repeat' walk_at "d1")
local macro_rules | `(tactic| walk_at "e1") => `(tactic| first
  | ((with_reducible refine' dE_var ?dv ?_); (case dv => rfl))
  | with_reducible refine' dE_int ?_
  | with_reducible refine' dE_str ?_
  | with_reducible refine' dE_bl ?_
  | with_reducible refine' dE_non ?_
  | ((with_reducible refine' dE_nt ?dv ?_); (case dv => assumption))
  | with_reducible refine' dE_ref ?_
  | with_reducible refine' dE_op ?_
  | with_reducible refine' dE_un ?_
  | with_reducible refine' dE_cmp ?_
  | with_reducible refine' dE_isN ?_
  | with_reducible refine' dE_notN ?_
  | with_reducible refine' dE_call ?_
  | with_reducible refine' dE_cb ?_
  | with_reducible refine' dE_kw ?_
  | with_reducible refine' dE_tup ?_
  | with_reducible refine' dE_if ?_
  | with_reducible refine' dE_and ?_
  | with_reducible refine' dE_or ?_
  | with_reducible refine' dE_not ?_
  | with_reducible refine' dE_sl ?_
  | with_reducible refine' dO_none ?_
  | with_reducible refine' dO_some ?_
  | with_reducible refine' dA_cons ?_
  | with_reducible refine' dA_nil ?_
  | with_reducible refine' dT_B ?_
  | with_reducible refine' dT_test ?_
  | with_reducible refine' dT_and ?_
  | with_reducible refine' dT_or ?_
  | with_reducible refine' dT_not ?_
  | with_reducible refine' dT_yes ?_
  | with_reducible refine' dR_I0i ?_
  | with_reducible refine' dU_neg ?_
  | ((with_reducible refine' dR_ixT ?dv ?_); (case dv => rfl))
  | with_reducible refine' dS_next ?_
  | with_reducible refine' dS_ret ?_
  | with_reducible refine' dS_drop ?_
  | with_reducible refine' dS_if ?_
  | with_reducible refine' dS_asg ?_
  | with_reducible refine' dS_par ?_
  | with_reducible refine' dG_name ?_
  | ((with_reducible refine' dG_tup ?dv ?_); (case dv => rfl); (dsimp only [List.map]))
  | with_reducible refine' dGs_cons ?_
  | with_reducible refine' dGs_nil ?_
  | with_reducible refine' dC_abs ?_
  | with_reducible refine' dC_max2 ?_
  | with_reducible refine' dC_min2 ?_
  | with_reducible refine' rtOf.of ?_
  | with_reducible refine' ex_cmp ?_
  | with_reducible refine' ex_bool ?_
  | with_reducible refine' ex_int ?_
  | with_reducible refine' ex_list ?_
  | with_reducible refine' ex_tup ?_
  | with_reducible refine' ex_d ?_
  | with_reducible refine' ex_m ?_
  | with_reducible refine' ex_par ?_
  | with_reducible refine' ex_rg1 ?_
  | with_reducible refine' ex_rg2 ?_
  | ((with_reducible refine' ex_dat ?dv ?dw ?_); (case dv => rfl); (case dw => exact Nat.le_of_ble_eq_true rfl))
  | ((fail_if_success (with_reducible show ∃ _, _)); (fail_if_success (with_reducible show _ ∧ _)); refine ⟨_, _, rfl, ?_⟩)
  | ((fail_if_success (with_reducible show ∃ _, _)); (fail_if_success (with_reducible show _ ∧ _)); refine ⟨_, rfl, ?_⟩)
  | fail)
local macro_rules | `(tactic| walk_at "e") => `(tactic| repeat' walk_at "e1")
def words12 : List Str := ["asked ", "told ", "Full", "Hung", "NoLoad", "NoName", "NoNumber", "NoRope", "NoRopes", "Taken", "Whole", "+"]
theorem split12 : Txt.split "asked ,told ,Full,Hung,NoLoad,NoName,NoNumber,NoRope,NoRopes,Taken,Whole,+" "," = words12 := by decide +kernel
/-- those of the words that are told -/
def saidOf (bs : List Bool) : List Str := ((words12.zip bs).filter Prod.snd).map Prod.fst
def kindOf (bs : List Bool) : Str := Txt.join "" (saidOf bs)
section
variable {P : Program} {w : World} {K : PySem.W.Frag} {mg : Str → Option Value} {base : Heap} {f C : Addr} {fd : FuncData} {E : EC}
/-- the kinds of the error at a, of the class cls, with the dict d -/
def S_kindsA (K : PySem.W.Frag) (E : EC) (a : Addr) (cls : Value) (d : Option Addr) : SpD := fun rs M P => ∃ (D : Addr) (bs : List Bool) (b1 b2 : Bool), rs = [.m a] ∧ cls = .ref D ∧ bs.length = 12 ∧ DictM d M ∧ Ek K E D bs b1 b2 ∧ P (.d (.str (kindOf bs))) M
def S_kinds (K : PySem.W.Frag) (E : EC) (p : Addr × Obj) : SpD := S_kindsA K E p.1 p.2.cls p.2.dict
theorem said_len {bs : List Bool} : (saidOf bs).length ≤ 12 := by
  unfold saidOf
  rw [List.length_map]
  refine Nat.le_trans (List.length_filter_le _ _) ?_
  rw [List.length_zip]
  exact Nat.min_le_left _ _
theorem said_mem {bs : List Bool} {y : Str} (h : y ∈ saidOf bs) : y ∈ words12 := by
  unfold saidOf at h
  obtain ⟨z, hz, rfl⟩ := List.mem_map.mp h
  exact (List.of_mem_zip (List.mem_filter.mp hz).1).1
theorem atI_nth5 {α : Type} {ls : List α} {n : Nat} {q : α} {i : Int} (h : ls[n]? = some q) (hi : i = (n : Int)) : atI ls i = some q := by
  subst hi
  have := (List.getElem?_eq_some_iff.mp h).1
  unfold atI ixN
  rw [if_pos (by omega), if_pos (by omega)]
  exact h
theorem words_short : ∀ y ∈ words12, y.length ≤ 20 := by decide +kernel
theorem said_sum {bs : List Bool} : ((saidOf bs).map (·.length)).sum + (saidOf bs).length * Str.length ("" : Str) ≤ 16777216 := by
  have h : ∀ ys : List Str, (∀ y ∈ ys, y.length ≤ 20) → (ys.map (·.length)).sum ≤ 20 * ys.length := fun ys => by
    induction ys with
    | nil => intro _; exact Nat.le_refl _
    | cons y ys ih =>
      intro h
      have h1 := h y List.mem_cons_self
      have h2 := ih fun z hz => h z (List.mem_cons_of_mem _ hz)
      rw [List.map_cons, List.sum_cons, List.length_cons]
      omega
  have h1 := h (saidOf bs) fun y hy => words_short y (said_mem hy)
  have h2 := said_len (bs := bs)
  rw [show Str.length ("" : Str) = 0 from rfl, Nat.mul_zero]
  omega
theorem twelve {bs : List Bool} (h : bs.length = 12) : ∃ c0 c1 c2 c3 c4 c5 c6 c7 c8 c9 c10 c11, bs = [c0, c1, c2, c3, c4, c5, c6, c7, c8, c9, c10, c11] :=
  match bs, h with
  | [c0, c1, c2, c3, c4, c5, c6, c7, c8, c9, c10, c11], _ => ⟨_, _, _, _, _, _, _, _, _, _, _, _, rfl⟩
abbrev s_law_kinds : Stmt := topS 67
theorem sc_law_kinds : FnScope ["e", "some", "words", "k"] ["e"] (defScope s_law_kinds) := ⟨rfl, rfl, rfl, by decide +kernel, rfl, by decide +kernel, by decide +kernel⟩
theorem ok_law_kinds (T : Txt mg) (Z : Ers K mg P E) (F0 : Fun K "_law_kinds" "_law_kinds" s_law_kinds f fd) : FnE P w K mg base 1 f fd ["e"] fun p => spOf K (S_kinds K E p) := by
  refine okE_of (k := 0) F0 sc_law_kinds (fun p rs M P h => by obtain ⟨_, _, _, _, rfl, _⟩ := h; rfl) fun p cdv A outer s H E' rs M R hot hr h => ?_
  obtain ⟨D, bs, b1, b2, rfl, hcl, hl, hd, ek, k⟩ := h
  have ec := ek.ec
  have hfd : ∃ vs, p.2.data = .fields vs := ⟨_, hot.2.choose_spec.1⟩
  have hpn : p ∈ (cxH CX0 P w K mg base ["e", "some", "words", "k"] "_law_kinds" (defScope s_law_kinds) f cdv A outer s H E' p).pn := List.mem_singleton.mpr rfl
  refine ⟨_, (pss_cons (ps_set (i := 1) sc_law_kinds.nd rfl (Or.inr rfl) (pe_lst (pa_cons (pe_callB (call_isP ec hpn hcl hfd) (by rfl) T.isinstance (by decide +kernel) (pa_cons (pv 0) (pa_cons (pe_glob (v := .ref E.AskedError) rfl Z.g_AskedError rfl) pa_nil))) (pa_cons (pe_callB (call_isP ec hpn hcl hfd) (by rfl) T.isinstance (by decide +kernel) (pa_cons (pv 0) (pa_cons (pe_glob (v := .ref E.ToldError) rfl Z.g_ToldError rfl) pa_nil))) (pa_cons (pe_callB (call_isP ec hpn hcl hfd) (by rfl) T.isinstance (by decide +kernel) (pa_cons (pv 0) (pa_cons (pe_glob (v := .ref E.Full) rfl Z.g_Full rfl) pa_nil))) (pa_cons (pe_callB (call_isP ec hpn hcl hfd) (by rfl) T.isinstance (by decide +kernel) (pa_cons (pv 0) (pa_cons (pe_glob (v := .ref E.Hung) rfl Z.g_Hung rfl) pa_nil))) pa_nil))))))
      (pss_cons (ps_set (i := 1) sc_law_kinds.nd rfl (Or.inr rfl) (pe_op op_cat (pv 1) (pe_lst (pa_cons (pe_callB (call_isP ec hpn hcl hfd) (by rfl) T.isinstance (by decide +kernel) (pa_cons (pv 0) (pa_cons (pe_glob (v := .ref E.NoLoad) rfl Z.g_NoLoad rfl) pa_nil))) (pa_cons (pe_callB (call_isP ec hpn hcl hfd) (by rfl) T.isinstance (by decide +kernel) (pa_cons (pv 0) (pa_cons (pe_glob (v := .ref E.NoName) rfl Z.g_NoName rfl) pa_nil))) (pa_cons (pe_callB (call_isP ec hpn hcl hfd) (by rfl) T.isinstance (by decide +kernel) (pa_cons (pv 0) (pa_cons (pe_glob (v := .ref E.NoNumber) rfl Z.g_NoNumber rfl) pa_nil))) (pa_cons (pe_callB (call_isP ec hpn hcl hfd) (by rfl) T.isinstance (by decide +kernel) (pa_cons (pv 0) (pa_cons (pe_glob (v := .ref E.NoRope) rfl Z.g_NoRope rfl) pa_nil))) pa_nil)))))))
      (pss_cons (ps_set (i := 1) sc_law_kinds.nd rfl (Or.inr rfl) (pe_op op_cat (pv 1) (pe_lst (pa_cons (pe_callB (call_isP ec hpn hcl hfd) (by rfl) T.isinstance (by decide +kernel) (pa_cons (pv 0) (pa_cons (pe_glob (v := .ref E.NoRopes) rfl Z.g_NoRopes rfl) pa_nil))) (pa_cons (pe_callB (call_isP ec hpn hcl hfd) (by rfl) T.isinstance (by decide +kernel) (pa_cons (pv 0) (pa_cons (pe_glob (v := .ref E.Taken) rfl Z.g_Taken rfl) pa_nil))) (pa_cons (pe_callB (call_isP ec hpn hcl hfd) (by rfl) T.isinstance (by decide +kernel) (pa_cons (pv 0) (pa_cons (pe_glob (v := .ref E.Whole) rfl Z.g_Whole rfl) pa_nil))) (pa_cons (pe_callB (call_isP ec hpn hcl hfd) (by rfl) T.isinstance (by decide +kernel) (pa_cons (pv 0) (pa_cons (pe_bltn (v := .ty "ValueError") (by rfl) T.ValueError (by decide +kernel) rfl) pa_nil))) pa_nil)))))))
      (pss_cons (ps_set (i := 2) sc_law_kinds.nd rfl (Or.inr rfl) (pe_split pe_str pe_str))
      (pss_one (ps_ret (kpe_join K pe_str (pe_lcH (p := p) hot hpn (own := [("k", 3)]) sc_law_kinds.nd (pi_range1H (by rfl) T.range (pa_cons pe_int pa_nil)) (blkOk_by (N := ["e", "some", "words", "k"]) (sc := defScope s_law_kinds) (own := [("k", 3)]) (by decide +kernel)) (fun _ _ _ _ _ => (pg_name (i := 3) sc_law_kinds.nd rfl (Or.inl rfl))) (fun _ _ _ _ _ => (pts_one (pt_val (pe_ix (kix_list K) (pv 1) (pv 3) (fun _ _ => rfl))))) (fun _ _ _ _ _ => (pe_ix (kix_list K) (pv 2) (pv 3) (fun _ _ => rfl))))))))))), ?_⟩
  obtain ⟨c0, c1, c2, c3, c4, c5, c6, c7, c8, c9, c10, c11, rfl⟩ := twelve hl
  have kit := ek.kit
  simp only [List.map_cons, List.map_nil, List.cons.injEq, and_true] at kit
  obtain ⟨e0, e1, e2, e3, e4, e5, e6, e7, e8, e9, e10, e11⟩ := kit
  walk_at "d"
  refine dE_lst ?_
  walk_at "d"
  refine dC_isPm hd e0 ?_
  walk_at "d"
  refine dC_isPm hd e1 ?_
  walk_at "d"
  refine dC_isPm hd e2 ?_
  walk_at "d"
  refine dC_isPm hd e3 ?_
  walk_at "d"
  walk_at "d"
  refine dE_lst ?_
  walk_at "d"
  refine dC_isPm hd e4 ?_
  walk_at "d"
  refine dC_isPm hd e5 ?_
  walk_at "d"
  refine dC_isPm hd e6 ?_
  walk_at "d"
  refine dC_isPm hd e7 ?_
  walk_at "d"
  refine dR_cat (.inl rfl) (.inl rfl) (Nat.le_of_ble_eq_true rfl) ?_
  walk_at "d"
  refine dE_lst ?_
  walk_at "d"
  refine dC_isPm hd e8 ?_
  walk_at "d"
  refine dC_isPm hd e9 ?_
  walk_at "d"
  refine dC_isPm hd e10 ?_
  walk_at "d"
  refine dE_ty ?_
  walk_at "d"
  refine dC_isPt hd e11 ?_
  walk_at "d"
  refine dR_cat (.inl rfl) (.inl rfl) (Nat.le_of_ble_eq_true rfl) ?_
  walk_at "d"
  refine dE_split ?_
  walk_at "d"
  refine ⟨_, rfl, ?_⟩
  walk_at "d"
  refine ⟨_, rfl, by decide +kernel, by decide +kernel, ?_⟩
  rw [split12]
  walk_at "d"
  refine dE_join ?_
  walk_at "d"
  refine ⟨_, rfl, ?_⟩
  refine dE_lcR (gw_name 3) ?_
  walk_at "d"
  generalize hbs : [c0, c1, c2, c3, c4, c5, c6, c7, c8, c9, c10, c11] = bs at *
  refine ⟨by decide, fun i acc M' => M' = M ∧ acc = ((((words12.zip bs).take i).filter Prod.snd).map Prod.fst).map .str, ⟨rfl, rfl⟩, fun i acc M' hi hI => ?_, fun acc M' hI => .inl ?_⟩
  · obtain ⟨rfl, rfl⟩ := hI
    have hi12 : i < 12 := by omega
    have e1 : bs[i]? = some (bs[i]'(by omega)) := List.getElem?_eq_getElem _
    have e2 : words12[i]? = some (words12[i]'hi12) := List.getElem?_eq_getElem _
    generalize bs[i]'(by omega) = b at e1
    generalize words12[i]'hi12 = y at e2
    have ez : (words12.zip bs)[i]? = some (y, b) := by rw [List.getElem?_zip_eq_some]; exact ⟨e2, e1⟩
    have et : (words12.zip bs).take (i + 1) = (words12.zip bs).take i ++ [(y, b)] := by rw [List.take_succ, ez]; rfl
    walk_at "d"
    refine dR_ixL (ds := bs.map .bool) (d := .bool b) (.inl (by rw [← hbs]; rfl)) (atI_nth5 (by rw [List.getElem?_map, e1]; rfl) rfl) ?_
    walk_at "d"
    refine ifB (fun h => ?_) (fun h => ?_)
    · subst h
      walk_at "d"
      refine dR_ixL (ds := words12.map .str) (d := .str y) (.inl rfl) (atI_nth5 (by rw [List.getElem?_map, e2]; rfl) rfl) ?_
      exact ⟨_, rfl, rfl, by rw [et, List.filter_append, List.map_append, List.map_append]; rfl⟩
    · subst h
      exact ⟨rfl, by rw [et, List.filter_append]; simp⟩
  · obtain ⟨rfl, rfl⟩ := hI
    refine ⟨saidOf bs, .inl ?_, said_sum, rtOf.of k⟩
    unfold saidOf
    rw [show (Int.toNat 12) = 12 from rfl, List.take_of_length_le (by rw [List.length_zip, hl]; exact Nat.le_refl _)]
end
end K2
namespace K2
open PySem L2 Sd Ma L2H LamX
local macro_rules | `(tactic| walk_at "d1") => `(tactic| first
  | ((with_reducible refine' dE_var ?dv ?_); (case dv => rfl))
  | with_reducible refine' dE_int ?_
  | with_reducible refine' dE_str ?_
  | with_reducible refine' dE_bl ?_
  | with_reducible refine' dE_non ?_
  | ((with_reducible refine' dE_nt ?dv ?_); (case dv => assumption))
  | with_reducible refine' dE_ref ?_
  | with_reducible refine' dE_op ?_
  | with_reducible refine' dE_un ?_
  | with_reducible refine' dE_cmp ?_
  | with_reducible refine' dE_isN ?_
  | with_reducible refine' dE_notN ?_
  | with_reducible refine' dE_call ?_
  | with_reducible refine' dE_cb ?_
  | with_reducible refine' dE_kw ?_
  | with_reducible refine' dE_tup ?_
  | with_reducible refine' dE_if ?_
  | with_reducible refine' dE_and ?_
  | with_reducible refine' dE_or ?_
  | with_reducible refine' dE_not ?_
  | with_reducible refine' dE_sl ?_
  | with_reducible refine' dO_none ?_
  | with_reducible refine' dO_some ?_
  | with_reducible refine' dA_cons ?_
  | with_reducible refine' dA_nil ?_
  | with_reducible refine' dT_B ?_
  | with_reducible refine' dT_test ?_
  | with_reducible refine' dT_and ?_
  | with_reducible refine' dT_or ?_
  | with_reducible refine' dT_not ?_
  | with_reducible refine' dT_yes ?_
  | with_reducible refine' dR_I0i ?_
  | with_reducible refine' dU_neg ?_
  | ((with_reducible refine' dR_ixT ?dv ?_); (case dv => rfl))
  | with_reducible refine' dS_seq ?_
  | with_reducible refine' dS_next ?_
  | with_reducible refine' dS_ret ?_
  | with_reducible refine' dS_drop ?_
  | with_reducible refine' dS_if ?_
  | with_reducible refine' dS_asg ?_
  | with_reducible refine' dS_par ?_
  | with_reducible refine' dG_name ?_
  | ((with_reducible refine' dG_tup ?dv ?_); (case dv => rfl); (dsimp only [List.map]))
  | with_reducible refine' dGs_cons ?_
  | with_reducible refine' dGs_nil ?_
  | with_reducible refine' dC_abs ?_
  | with_reducible refine' dC_max2 ?_
  | with_reducible refine' dC_min2 ?_
  | with_reducible refine' rtOf.of ?_
  | with_reducible refine' ex_cmp ?_
  | with_reducible refine' ex_bool ?_
  | with_reducible refine' ex_int ?_
  | with_reducible refine' ex_list ?_
  | with_reducible refine' ex_tup ?_
  | with_reducible refine' ex_d ?_
  | with_reducible refine' ex_m ?_
  | with_reducible refine' ex_par ?_
  | with_reducible refine' ex_rg1 ?_
  | with_reducible refine' ex_rg2 ?_
  | ((with_reducible refine' ex_dat ?dv ?dw ?_); (case dv => rfl); (case dw => exact Nat.le_of_ble_eq_true rfl))
  | ((fail_if_success (with_reducible show ∃ _, _)); (fail_if_success (with_reducible show _ ∧ _)); refine ⟨_, _, rfl, ?_⟩)
  | ((fail_if_success (with_reducible show ∃ _, _)); (fail_if_success (with_reducible show _ ∧ _)); refine ⟨_, rfl, ?_⟩)
  | fail)
local macro_rules | `(tactic| walk_at "d") => `(tactic| repeat' walk_at "d1")
local macro_rules | `(tactic| walk_at "e1") => `(tactic| first
  | ((with_reducible refine' dE_var ?dv ?_); (case dv => rfl))
  | with_reducible refine' dE_int ?_
  | with_reducible refine' dE_str ?_
  | with_reducible refine' dE_bl ?_
  | with_reducible refine' dE_non ?_
  | ((with_reducible refine' dE_nt ?dv ?_); (case dv => assumption))
  | with_reducible refine' dE_ref ?_
  | with_reducible refine' dE_op ?_
  | with_reducible refine' dE_un ?_
  | with_reducible refine' dE_cmp ?_
  | with_reducible refine' dE_isN ?_
  | with_reducible refine' dE_notN ?_
  | with_reducible refine' dE_call ?_
  | with_reducible refine' dE_cb ?_
  | with_reducible refine' dE_kw ?_
  | with_reducible refine' dE_tup ?_
  | with_reducible refine' dE_if ?_
  | with_reducible refine' dE_and ?_
  | with_reducible refine' dE_or ?_
  | with_reducible refine' dE_not ?_
  | with_reducible refine' dE_sl ?_
  | with_reducible refine' dO_none ?_
  | with_reducible refine' dO_some ?_
  | with_reducible refine' dA_cons ?_
  | with_reducible refine' dA_nil ?_
  | with_reducible refine' dT_B ?_
  | with_reducible refine' dT_test ?_
  | with_reducible refine' dT_and ?_
  | with_reducible refine' dT_or ?_
  | with_reducible refine' dT_not ?_
  | with_reducible refine' dT_yes ?_
  | with_reducible refine' dR_I0i ?_
  | with_reducible refine' dU_neg ?_
  | ((with_reducible refine' dR_ixT ?dv ?_); (case dv => rfl))
  | with_reducible refine' dS_next ?_
  | with_reducible refine' dS_ret ?_
  | with_reducible refine' dS_drop ?_
  | with_reducible refine' dS_if ?_
  | with_reducible refine' dS_asg ?_
  | with_reducible refine' dS_par ?_
  | with_reducible refine' dG_name ?_
  | ((with_reducible refine' dG_tup ?dv ?_); (case dv => rfl); (dsimp only [List.map]))
  | with_reducible refine' dGs_cons ?_
  | with_reducible refine' dGs_nil ?_
  | with_reducible refine' dC_abs ?_
  | with_reducible refine' dC_max2 ?_
  | with_reducible refine' dC_min2 ?_
  | with_reducible refine' rtOf.of ?_
  | with_reducible refine' ex_cmp ?_
  | with_reducible refine' ex_bool ?_
  | with_reducible refine' ex_int ?_
  | with_reducible refine' ex_list ?_
  | with_reducible refine' ex_tup ?_
  | with_reducible refine' ex_d ?_
  | with_reducible refine' ex_m ?_
  | with_reducible refine' ex_par ?_
  | with_reducible refine' ex_rg1 ?_
  | with_reducible refine' ex_rg2 ?_
  | ((with_reducible refine' ex_dat ?dv ?dw ?_); (case dv => rfl); (case dw => exact Nat.le_of_ble_eq_true rfl))
  | ((fail_if_success (with_reducible show ∃ _, _)); (fail_if_success (with_reducible show _ ∧ _)); refine ⟨_, _, rfl, ?_⟩)
  | ((fail_if_success (with_reducible show ∃ _, _)); (fail_if_success (with_reducible show _ ∧ _)); refine ⟨_, rfl, ?_⟩)
  | fail)
local macro_rules | `(tactic| walk_at "e") => `(tactic| repeat' walk_at "e1")
def Rf.cls (E : EC) : Rf → Addr
  | .noRope => E.NoRope | .noLoad => E.NoLoad | .noName => E.NoName | .noNumber => E.NoNumber | .taken => E.Taken | .full => E.Full | .noRopes => E.NoRopes | .hung _ => E.Hung | .whole _ => E.Whole
def Rf.bs : Rf → List Bool
  | .noRope => [false, true, false, false, false, false, false, true, false, false, false, true]
  | .noLoad => [false, true, false, false, true, false, false, false, false, false, false, true]
  | .noName => [false, true, false, false, false, true, false, false, false, false, false, true]
  | .noNumber => [false, true, false, false, false, false, true, false, false, false, false, true]
  | .taken => [false, true, false, false, false, false, false, false, false, true, false, true]
  | .full => [true, false, true, false, false, false, false, false, false, false, false, true]
  | .noRopes => [true, false, false, false, false, false, false, false, true, false, false, true]
  | .hung _ => [true, false, false, true, false, false, false, false, false, false, false, true]
  | .whole _ => [true, false, false, false, false, false, false, false, false, false, true, true]
def Rf.isH : Rf → Bool
  | .hung _ => true
  | _ => false
def Rf.isW : Rf → Bool
  | .whole _ => true
  | _ => false
def Rf.field : Rf → PyData
  | .hung q => fr q
  | .whole n => .str n
  | _ => .none
/-- what is told of a refusal -/
def Rf.told (r : Rf) : PyData := .tuple [.none, .str (kindOf r.bs), r.field]
def Rf.dic : Rf → Option (List (Str × SV))
  | .hung q => some [("weight", .d (fr q))]
  | .whole n => some [("name", .d (.str n))]
  | _ => none
/-- the error of a refusal, as it comes -/
def RfAt (E : EC) (r : Rf) (cls : Value) (d : Option Addr) (M0 M' : Mem) : Prop := cls = .ref (r.cls E) ∧ match r.dic with
  | some fs => ∃ dd, d = some dd ∧ M0.o dd = none ∧ M' = oset M0 dd (.exd fs)
  | none => d = none ∧ M' = M0
theorem Rf.out_of {E : EC} {M : Mem} {PX : Value → Option Addr → Mem → Prop} (r : Rf) (h : ∀ cls d M', RfAt E r cls d M M' → PX cls d M') : r.out E M PX := by
  cases r with
  | hung q => exact fun d h1 h2 => h _ _ _ ⟨rfl, d, rfl, h1, rfl⟩
  | whole q => exact fun d h1 h2 => h _ _ _ ⟨rfl, d, rfl, h1, rfl⟩
  | _ => exact h _ _ _ ⟨rfl, rfl, rfl⟩
theorem Ers.ek {K : PySem.W.Frag} {mg : Str → Option Value} {P : Program} {E : EC} (Z : Ers K mg P E) (r : Rf) : Ek K E (r.cls E) r.bs r.isH r.isW := by
  cases r with
  | noRope => exact Z.k_NoRope
  | noLoad => exact Z.k_NoLoad
  | noName => exact Z.k_NoName
  | noNumber => exact Z.k_NoNumber
  | taken => exact Z.k_Taken
  | full => exact Z.k_Full
  | noRopes => exact Z.k_NoRopes
  | hung q => exact Z.k_Hung
  | whole n => exact Z.k_Whole
/-- what _law_told makes of a call -/
def TTold (K : PySem.W.Frag) (E : EC) : (XK → Hp → VK → Prop) → Hp → VK → Prop := fun tl H1 Q => ∃ (H : Hp) (M : Mem) (P : SV → Mem → Prop) (PX : Value → Option Addr → Mem → Prop) (PF : SV → Mem → Prop), WOk K H M H1 ∧
  (∀ (Q' : VK) (E' : XK), (∀ v r H' M' H2, P r M' → Step H H1 M H' H2 M' → WOk K H' M' H2 → SVOk K H' v r → Q' v H2) → (∀ cls d H' M' H2, PX cls d M' → Step H H1 M H' H2 M' → WOk K H' M' H2 → E' cls d H2) → tl E' H1 Q') ∧
  (∀ r M', P r M' → ∃ d, r = .d d ∧ PF (.d (.tuple [d, .str "", .none])) M') ∧ (∀ cls d M', PX cls d M' → ∃ (r : Rf) (M0 : Mem), RfAt E r cls d M0 M' ∧ PF (.d r.told) M0) ∧
  ∀ v r H' M' H2, PF r M' → Step H H1 M H' H2 M' → WOk K H' M' H2 → SVOk K H' v r → Q v H2
theorem env_unset {K : PySem.W.Frag} {H : Hp} {σ : L2.St} {δ : DSt} (h : EnvOk K H σ δ) (i : Nat) : EnvOk K H (σ.set i none) (δ.set i none) := by
  refine ⟨by rw [List.length_set, List.length_set]; exact h.len, fun j r q => ?_⟩
  by_cases e : i = j
  · subst e
    by_cases hl : i < δ.length
    · rw [List.getElem?_set_self hl] at q; cases q
    · rw [List.getElem?_eq_none (by simpa using hl)] at q; cases q
  · rw [List.getElem?_set_ne e] at q ⊢
    exact h.at' j r q
section
variable {E : EC}
abbrev s_law_told : Stmt := topS 68
theorem sc_law_told : FnScope ["call", "found", "kind", "field", "e"] ["call"] (defScope s_law_told) := ⟨rfl, rfl, rfl, by decide +kernel, rfl, by decide +kernel, by decide +kernel⟩
abbrev tKinds (K : PySem.W.Frag) (E : EC) (a : Addr) (cls : Value) (d : Option Addr) : TE := tCall (spOf K (S_kindsA K E a cls d)) [] E0 (tCons (tVar 4) tNil)
abbrev tsF (K : PySem.W.Frag) (E : EC) (C : Addr) (f : Str) (a : Addr) (cls : Value) (d : Option Addr) : TS := tPar 2 3 (tCons (tKinds K E a cls d) (tCons (tFldE C f a cls d (tVar 4)) tNil))
abbrev tsP (K : PySem.W.Frag) (E : EC) (a : Addr) (cls : Value) (d : Option Addr) : TS := tAsg (tKinds K E a cls d) (gName 2)
theorem hotS {X : Cx} {a : Addr} {o : Obj} {cls : Value} {d : Option Addr} {pn : List (Addr × Obj)} (hz : L2N.Zn cls d o) (hf : ∃ vs, o.data = .fields vs) : Hot1 (X.suite a ((a, o) :: pn)).A (a, o) := by
  obtain ⟨vs, hv⟩ := hf
  exact ⟨rfl, vs, hv, hz.2.2 vs hv⟩
theorem told_gives {X : Cx} {g : Addr} {cd : Value} {q : Str} (Z : Ers X.K X.mg X.prog E) (c_kinds : HasE X.prog X.w X.K X.mg X.base 1 "_law_kinds" ["e"] (S_kinds X.K E)) :
    GivesN X ["call", "found", "kind", "field", "e"] "_law_told" (defScope s_law_told) g cd (defBody s_law_told) "call" q (TTold X.K E) := by
  intro f c s H1 Q tl hr act hco h
  have kd : ∀ {a : Addr} {o : Obj} {pn : List (Addr × Obj)} {p1 p2 p3 : Pos}, (∃ vs, o.data = .fields vs) → PXN.CtxN o → PE ((cxG X ["call", "found", "kind", "field", "e"] "_law_told" (defScope s_law_told) g cd s H1).suite a ((a, o) :: pn)) (.Call (.Name "_law_kinds" p1) [.Name "e" p2] [] p3) (tKinds X.K E a o.cls o.dict) := fun {a o pn p1 p2 p3} hf hx =>
    pe_callE (X := (cxG X ["call", "found", "kind", "field", "e"] "_law_told" (defScope s_law_told) g cd s H1).suite a ((a, o) :: pn)) (p := (a, o)) c_kinds ⟨hr.dp, hr.un⟩ (hotS (cls := o.cls) (d := o.dict) ⟨rfl, rfl, hx⟩ hf) List.mem_cons_self rfl (pa_cons (pv 4) pa_nil)
  refine ⟨_, pss_cons (ps_set (i := 1) sc_law_told.nd rfl (Or.inl rfl) pe_non) (pss_cons (ps_set (i := 2) sc_law_told.nd rfl (Or.inl rfl) pe_str) (pss_cons (ps_set (i := 3) sc_law_told.nd rfl (Or.inl rfl) pe_non)
    (pss_cons (ps_asN (i := 4) (n := "e") (Wo := fun _ _ _ _ => False) (tb := fun W D σ H => σ[0]? = some (some (.ref f)) ∧ H c = some (CodeO c q) ∧ tl (fun cls d H' => W cls d σ H') H (fun v H' => D.nx (σ.set 1 (some v)) H'))
      (l := [(.ref E.Hung, tsF X.K E E.Hung "weight"), (.ref E.Whole, tsF X.K E E.Whole "name"), (.ref E.PullError, tsP X.K E)]) rfl rfl sc_law_told.nd rfl rfl (fun _ _ x => ?t0) (fun W pn xe tk own => ?t1)
      (.cons ⟨rfl, by decide, .inl Z.g_Hung⟩ ?t2 (.cons ⟨rfl, by decide, .inl Z.g_Whole⟩ ?t3 (.cons ⟨rfl, by decide, .inl Z.g_PullError⟩ ?t4 .nil)))) (pss_one (ps_ret (pe_tup (pa_cons (pv 1) (pa_cons (pv 2) (pa_cons (pv 3) pa_nil))))))))), ?t5⟩
  case t0 =>
    obtain ⟨_, _, _, _, _, _, _, _, _, _, _, _, _, _, _, _, k⟩ := x
    exact k.elim
  case t1 =>
    refine ⟨fun pins s' σ H' D I h' => ?_⟩
    exact (pss_one (ps_set (i := 1) sc_law_told.nd rfl (Or.inl rfl) (act W pn xe _ _ tk))).run pins s' σ H' D I h'
  case t2 =>
    rintro a o cls d pn ⟨rfl, rfl, hx⟩ hf
    exact pss_one (ps_parH ⟨(a, o), hotS (cls := o.cls) (d := o.dict) ⟨rfl, rfl, hx⟩ hf, List.mem_cons_self⟩ sc_law_told.nd rfl rfl (by decide) rfl rfl (pa_cons (kd hf hx) (pa_cons (pe_fldE (p := (a, o)) Z.Hung List.mem_cons_self hf (pv 4)) pa_nil)) (by rfl))
  case t3 =>
    rintro a o cls d pn ⟨rfl, rfl, hx⟩ hf
    exact pss_one (ps_parH ⟨(a, o), hotS (cls := o.cls) (d := o.dict) ⟨rfl, rfl, hx⟩ hf, List.mem_cons_self⟩ sc_law_told.nd rfl rfl (by decide) rfl rfl (pa_cons (kd hf hx) (pa_cons (pe_fldE (p := (a, o)) Z.Whole List.mem_cons_self hf (pv 4)) pa_nil)) (by rfl))
  case t4 =>
    rintro a o cls d pn ⟨rfl, rfl, hx⟩ hf
    exact pss_one (ps_set (i := 2) sc_law_told.nd rfl (Or.inl rfl) (kd hf hx))
  case t5 =>
    obtain ⟨H, M, P, PX, PF, wk, th, hp, hx, fin⟩ := h
    have e0 : EnvOk X.K H ((((L2.start ["call", "found", "kind", "field", "e"] [.ref f]).set 1 (some .non)).set 2 (some (.str ""))).set 3 (some .non)) [some (.m f), some (.d .none), some (.d (.str "")), some (.d .none), none] :=
      (((start_ok (N := ["call", "found", "kind", "field", "e"]) (rs := [.m f]) (.cons rfl .nil)).set 1 (r := .d .none) .non).set 2 (r := .d (.str "")) (.str _)).set 3 (r := .d .none) .non
    have ret : ∀ (d1 d2 d3 : PyData) (x4 : Option SV) (M' : Mem), dS X.K (tRet (tTup (tCons (tVar 1) (tCons (tVar 2) (tCons (tVar 3) tNil))))) { nx := fun _ _ => False, rt := fun r M3 => r = .d (.tuple [d1, d2, d3]) ∧ M3 = M' } [some (.m f), some (.d d1), some (.d d2), some (.d d3), x4] M' := fun d1 d2 d3 x4 M' => by
      walk_at "d"
      exact ⟨rfl, rfl⟩
    have back : ∀ {d1 d2 d3 : PyData} {x4 : Option SV} {M0 M' : Mem} {σ' : L2.St} {H' H2 : Hp}, PF (.d (.tuple [d1, d2, d3])) M0 → MSub M0 M' → Step H H1 M H' H2 M' → EnvOk X.K H' σ' [some (.m f), some (.d d1), some (.d d2), some (.d d3), x4] → WOk X.K H' M' H2 →
        tRet (tTup (tCons (tVar 1) (tCons (tVar 2) (tCons (tVar 3) tNil)))) { nx := fun _ H' => Q .non H', rt := Q } σ' H2 := fun {d1 d2 d3 x4 M0 M' σ' H' H2} pf ms s e w =>
      ret d1 d2 d3 x4 M' _ σ' H' H2 e w ⟨fun _ _ _ _ _ k => k.elim, fun r v H3 M3 H4 k s3 w3 vv => by
        obtain ⟨rfl, rfl⟩ := k
        obtain ⟨s1, w1⟩ := cut_ok ms (s.trans wk w s3) w3
        exact fin v _ H3 M0 H4 pf s1 w1 vv, fun _ _ _ _ _ k => k.elim, fun _ _ _ _ _ k => k.elim, fun _ _ _ _ _ _ _ k => k.elim⟩
    refine ⟨rfl, hco, th _ _ (fun v r H' M' H2 pr s w' vr => ?_) (fun cls d H' M' H2 px s w' => ?_)⟩
    · obtain ⟨d, rfl, pf⟩ := hp r M' pr
      exact back pf MSub.refl s ((e0.mono s.pure).set 1 vr) w'
    obtain ⟨r, M0, ⟨rfl, hm⟩, pf⟩ := hx cls d M' px
    have ek := Z.ek r
    have kds : ∀ {a : Addr} {δ : DSt} {PP : SV → Mem → Prop}, δ[4]? = some (some (.m a)) → r.bs.length = 12 → DictM d M' → PP (.d (.str (kindOf r.bs))) M' → dE X.K (tKinds X.K E a (.ref (r.cls E)) d) δ M' PP := fun {a δ PP} h4 hl hd k =>
      dE_call (dA_cons (dE_var h4 (dA_nil ⟨r.cls E, r.bs, r.isH, r.isW, rfl, rfl, hl, hd, ek, k⟩)))
    have par : ∀ {a : Addr} {C : Addr} {fl : Str} {dd : Addr} {fv : PyData}, H2 a = none → r.bs.length = 12 → d = some dd → M'.o dd = some (.exd [(fl, .d fv)]) → C = r.cls E → MSub M0 M' → PF (.d (.tuple [.none, .str (kindOf r.bs), fv])) M0 →
        tsF X.K E C fl a (.ref (r.cls E)) d { nx := fun τ G => tRet (tTup (tCons (tVar 1) (tCons (tVar 2) (tCons (tVar 3) tNil)))) { nx := fun _ H' => Q .non H', rt := Q } (τ.set 4 none) G, rt := Q } (((((L2.start ["call", "found", "kind", "field", "e"] [.ref f]).set 1 (some .non)).set 2 (some (.str ""))).set 3 (some .non)).set 4 (some (.ref a))) H2 := fun {a C fl dd fv} na hl hd ho hC ms pf => by
      have go : dS X.K (tsF X.K E C fl a (.ref (r.cls E)) d) { nx := fun δ' M2 => δ' = [some (.m f), some (.d .none), some (.d (.str (kindOf r.bs))), some (.d fv), some (.m a)] ∧ M2 = M', rt := fun _ _ => False } [some (.m f), some (.d .none), some (.d (.str "")), some (.d .none), some (.m a)] M' := by
        refine dS_par ?_
        refine dA_cons (kds rfl hl (.inr ⟨dd, _, hd, ho⟩) ?_)
        refine dA_cons (dE_fldE (dE_var rfl ⟨rfl, by rw [hC], dd, _, hd, ho, ?_⟩))
        refine dA_nil ?_
        exact ⟨_, _, rfl, rfl, rfl⟩
      refine go _ _ H' H2 ((e0.mono s.pure).set 4 (r := .m a) rfl) w' ⟨fun δ' M2 σ' H3 H4 k s3 e3 w3 => ?_, fun _ _ _ _ _ k => k.elim, fun _ _ _ _ _ k => k.elim, fun _ _ _ _ _ k => k.elim, fun _ _ _ _ _ _ _ k => k.elim⟩
      obtain ⟨rfl, rfl⟩ := k
      exact back pf ms (s.trans wk w' s3) (env_unset e3 4) w3
    refine ⟨r.isH, ek.h1, fun h1 => ⟨r.isW, ek.h2, fun h2 => ⟨true, ek.h3, (fun k => by cases k), fun _ a na => ?_⟩, fun h2 a na => ?_⟩, fun h1 a na => ?_⟩
    · have hn : r.dic = none ∧ r.field = .none ∧ r.bs.length = 12 := by
        cases r <;> first | exact ⟨rfl, rfl, rfl⟩ | exact absurd h1 Bool.noConfusion | exact absurd h2 Bool.noConfusion
      rw [hn.1] at hm
      obtain ⟨hd, rfl⟩ := hm
      have go : dS X.K (tsP X.K E a (.ref (r.cls E)) d) { nx := fun δ' M2 => δ' = [some (.m f), some (.d .none), some (.d (.str (kindOf r.bs))), some (.d .none), some (.m a)] ∧ M2 = M', rt := fun _ _ => False } [some (.m f), some (.d .none), some (.d (.str "")), some (.d .none), some (.m a)] M' :=
        dS_asg (kds rfl hn.2.2 (.inl hd) (dG_name ⟨rfl, rfl⟩))
      refine go _ _ H' H2 ((e0.mono s.pure).set 4 (r := .m a) rfl) w' ⟨fun δ' M2 σ' H3 H4 k s3 e3 w3 => ?_, fun _ _ _ _ _ k => k.elim, fun _ _ _ _ _ k => k.elim, fun _ _ _ _ _ k => k.elim, fun _ _ _ _ _ _ _ k => k.elim⟩
      obtain ⟨rfl, rfl⟩ := k
      unfold Rf.told at pf
      rw [hn.2.1] at pf
      exact back pf MSub.refl (s.trans wk w' s3) (env_unset e3 4) w3
    · cases r with
      | whole n =>
        obtain ⟨dd, hd, hno, rfl⟩ := hm
        exact par na rfl hd oset_same rfl (msub_oset MSub.refl hno) pf
      | _ => cases h2
    · cases r with
      | hung n =>
        obtain ⟨dd, hd, hno, rfl⟩ := hm
        exact par na rfl hd oset_same rfl (msub_oset MSub.refl hno) pf
      | _ => cases h1
theorem dE_told {K : PySem.W.Frag} {δ : DSt} {M : Mem} {P P1 : SV → Mem → Prop} {PX : Value → Option Addr → Mem → Prop} {B : Addr} {q : Str} {t : XK → TE} (hB : M.o B = some (.tab q)) (h : ∀ E' : XK, dEX K (fun cls d _ H => E' cls d H) (fun cls d _ M' => PX cls d M') (t E') δ M P1)
    (h1 : ∀ r M', P1 r M' → ∃ d, r = .d d ∧ P (.d (.tuple [d, .str "", .none])) M') (h2 : ∀ cls d M', PX cls d M' → ∃ (r : Rf) (M0 : Mem), RfAt E r cls d M0 M' ∧ P (.d r.told) M0) : dE K (tLamD B q (TTold K E) t) δ M P :=
  dE_lamD hB fun σ H H1 e w Q fin => ⟨H, M, P1, PX, P, w, fun Q' E' hq hx => h E' σ H H1 e w Q' hq fun cls d δ' M' σ' H' H2 px s _ w' => hx cls d H' M' H2 px s w', h1, h2, fin⟩
end
end K2
namespace K2
open PySem L2 Sd Ma
local macro_rules | `(tactic| walk_at "d1") => `(tactic| first
  | ((with_reducible refine' dE_var ?dv ?_); (case dv => rfl))
  | with_reducible refine' dE_int ?_
  | with_reducible refine' dE_str ?_
  | with_reducible refine' dE_bl ?_
  | with_reducible refine' dE_non ?_
  | ((with_reducible refine' dE_nt ?dv ?_); (case dv => assumption))
  | with_reducible refine' dE_ref ?_
  | with_reducible refine' dE_op ?_
  | with_reducible refine' dE_un ?_
  | with_reducible refine' dE_cmp ?_
  | with_reducible refine' dE_isN ?_
  | with_reducible refine' dE_notN ?_
  | with_reducible refine' dE_call ?_
  | with_reducible refine' dE_cb ?_
  | with_reducible refine' dE_kw ?_
  | with_reducible refine' dE_tup ?_
  | with_reducible refine' dE_if ?_
  | with_reducible refine' dE_and ?_
  | with_reducible refine' dE_or ?_
  | with_reducible refine' dE_not ?_
  | with_reducible refine' dE_sl ?_
  | with_reducible refine' dO_none ?_
  | with_reducible refine' dO_some ?_
  | with_reducible refine' dA_cons ?_
  | with_reducible refine' dA_nil ?_
  | with_reducible refine' dT_B ?_
  | with_reducible refine' dT_test ?_
  | with_reducible refine' dT_and ?_
  | with_reducible refine' dT_or ?_
  | with_reducible refine' dT_not ?_
  | with_reducible refine' dT_yes ?_
  | with_reducible refine' dR_I0i ?_
  | with_reducible refine' dU_neg ?_
  | ((with_reducible refine' dR_ixT ?dv ?_); (case dv => rfl))
  | with_reducible refine' dS_seq ?_
  | with_reducible refine' dS_next ?_
  | with_reducible refine' dS_ret ?_
  | with_reducible refine' dS_drop ?_
  | with_reducible refine' dS_if ?_
  | with_reducible refine' dS_asg ?_
  | with_reducible refine' dS_par ?_
  | with_reducible refine' dG_name ?_
  | ((with_reducible refine' dG_tup ?dv ?_); (case dv => rfl); (dsimp only [List.map]))
  | with_reducible refine' dGs_cons ?_
  | with_reducible refine' dGs_nil ?_
  | with_reducible refine' dC_abs ?_
  | with_reducible refine' dC_max2 ?_
  | with_reducible refine' dC_min2 ?_
  | with_reducible refine' rtOf.of ?_
  | with_reducible refine' ex_cmp ?_
  | with_reducible refine' ex_bool ?_
  | with_reducible refine' ex_int ?_
  | with_reducible refine' ex_list ?_
  | with_reducible refine' ex_tup ?_
  | with_reducible refine' ex_d ?_
  | with_reducible refine' ex_m ?_
  | with_reducible refine' ex_par ?_
  | with_reducible refine' ex_rg1 ?_
  | with_reducible refine' ex_rg2 ?_
  | ((with_reducible refine' ex_dat ?dv ?dw ?_); (case dv => rfl); (case dw => exact Nat.le_of_ble_eq_true rfl))
  | ((fail_if_success (with_reducible show ∃ _, _)); (fail_if_success (with_reducible show _ ∧ _)); refine ⟨_, _, rfl, ?_⟩)
  | ((fail_if_success (with_reducible show ∃ _, _)); (fail_if_success (with_reducible show _ ∧ _)); refine ⟨_, rfl, ?_⟩)
  | fail)
local macro_rules | `(tactic| walk_at "d") => `(tactic| repeat' walk_at "d1")
local macro_rules | `(tactic| walk_at "e1") => `(tactic| first
  | ((with_reducible refine' dE_var ?dv ?_); (case dv => rfl))
  | with_reducible refine' dE_int ?_
  | with_reducible refine' dE_str ?_
  | with_reducible refine' dE_bl ?_
  | with_reducible refine' dE_non ?_
  | ((with_reducible refine' dE_nt ?dv ?_); (case dv => assumption))
  | with_reducible refine' dE_ref ?_
  | with_reducible refine' dE_op ?_
  | with_reducible refine' dE_un ?_
  | with_reducible refine' dE_cmp ?_
  | with_reducible refine' dE_isN ?_
  | with_reducible refine' dE_notN ?_
  | with_reducible refine' dE_call ?_
  | with_reducible refine' dE_cb ?_
  | with_reducible refine' dE_kw ?_
  | with_reducible refine' dE_tup ?_
  | with_reducible refine' dE_if ?_
  | with_reducible refine' dE_and ?_
  | with_reducible refine' dE_or ?_
  | with_reducible refine' dE_not ?_
  | with_reducible refine' dE_sl ?_
  | with_reducible refine' dO_none ?_
  | with_reducible refine' dO_some ?_
  | with_reducible refine' dA_cons ?_
  | with_reducible refine' dA_nil ?_
  | with_reducible refine' dT_B ?_
  | with_reducible refine' dT_test ?_
  | with_reducible refine' dT_and ?_
  | with_reducible refine' dT_or ?_
  | with_reducible refine' dT_not ?_
  | with_reducible refine' dT_yes ?_
  | with_reducible refine' dR_I0i ?_
  | with_reducible refine' dU_neg ?_
  | ((with_reducible refine' dR_ixT ?dv ?_); (case dv => rfl))
  | with_reducible refine' dS_next ?_
  | with_reducible refine' dS_ret ?_
  | with_reducible refine' dS_drop ?_
  | with_reducible refine' dS_if ?_
  | with_reducible refine' dS_asg ?_
  | with_reducible refine' dS_par ?_
  | with_reducible refine' dG_name ?_
  | ((with_reducible refine' dG_tup ?dv ?_); (case dv => rfl); (dsimp only [List.map]))
  | with_reducible refine' dGs_cons ?_
  | with_reducible refine' dGs_nil ?_
  | with_reducible refine' dC_abs ?_
  | with_reducible refine' dC_max2 ?_
  | with_reducible refine' dC_min2 ?_
  | with_reducible refine' rtOf.of ?_
  | with_reducible refine' ex_cmp ?_
  | with_reducible refine' ex_bool ?_
  | with_reducible refine' ex_int ?_
  | with_reducible refine' ex_list ?_
  | with_reducible refine' ex_tup ?_
  | with_reducible refine' ex_d ?_
  | with_reducible refine' ex_m ?_
  | with_reducible refine' ex_par ?_
  | with_reducible refine' ex_rg1 ?_
  | with_reducible refine' ex_rg2 ?_
  | ((with_reducible refine' ex_dat ?dv ?dw ?_); (case dv => rfl); (case dw => exact Nat.le_of_ble_eq_true rfl))
  | ((fail_if_success (with_reducible show ∃ _, _)); (fail_if_success (with_reducible show _ ∧ _)); refine ⟨_, _, rfl, ?_⟩)
  | ((fail_if_success (with_reducible show ∃ _, _)); (fail_if_success (with_reducible show _ ∧ _)); refine ⟨_, rfl, ?_⟩)
  | fail)
local macro_rules | `(tactic| walk_at "e") => `(tactic| repeat' walk_at "e1")
section
variable {P : Program} {w : World} {K : PySem.W.Frag} {mg : Str → Option Value} {base : Heap} {f : Addr} {fd : FuncData}
abbrev s_law_good_rope : Stmt := topS 64
theorem sc_law_good_rope : FnScope ["thing"] ["thing"] (defScope s_law_good_rope) := ⟨rfl, rfl, rfl, by decide +kernel, rfl, by decide +kernel, by decide +kernel⟩
theorem ok_law_good_rope (T : Txt mg) (F : Fun K "_law_good_rope" "_law_good_rope" s_law_good_rope f fd) (c_law_is_name : Has P w K mg base 1 "_law_is_name" ["thing"] S_lname) (c_law_within : Has P w K mg base 1 "_law_within" ["thing", "least", "most"] S_inB) : FnOk P w K mg base CX0 2 f fd ["thing"] (spOf K S_isrope) := by
  refine ok_of F sc_law_good_rope (fun rs M P h => by obtain ⟨a, rfl, _⟩ := h; rfl) fun cdv A outer s H E hr => ⟨_, (pss_cons (ps_if (PW.pt (pw_or (pt_not (pt_val (pe_callB (kcall_isi K) (by rfl) T.isinstance (by decide +kernel) (pa_cons (pv 0) (pa_cons (pe_bltn (v := .ty "tuple") (by rfl) T.tuple (by decide +kernel) rfl) pa_nil))))) (pw_or (pt_cmp (pc_neI (pe_callB (kcall_len K) (by rfl) T.len (by decide +kernel) (pa_cons (pv 0) pa_nil)) pe_int)) (pw_or1 (pt_not (pt_val (pe_callH' c_law_is_name (hr.mono (by first | decide | omega)) rfl (pa_cons (pe_ix (kix_tup K) (pv 0) pe_int (fun _ _ => rfl)) pa_nil)))))))) (pss_one (ps_ret pe_bl)) pss_nil)
      (pss_cons (ps_if (PW.pt (pw_or (pt_not (pt_val (pe_callH' c_law_within (hr.mono (by first | decide | omega)) rfl (pa_cons (pe_ix (kix_tup K) (pv 0) pe_int (fun _ _ => rfl)) (pa_cons pe_int (pa_cons pe_int pa_nil)))))) (pw_or1 (pt_not (pt_val (pe_callH' c_law_within (hr.mono (by first | decide | omega)) rfl (pa_cons (pe_ix (kix_tup K) (pv 0) pe_int (fun _ _ => rfl)) (pa_cons pe_int (pa_cons pe_int pa_nil))))))))) (pss_one (ps_ret pe_bl)) pss_nil)
      (pss_one (ps_ret (pe_callH' c_law_within (hr.mono (by first | decide | omega)) rfl (pa_cons (pe_ix (kix_tup K) (pv 0) pe_int (fun _ _ => rfl)) (pa_cons pe_int (pa_cons pe_int pa_nil)))))))), fun rs M P h => ?_⟩
  obtain ⟨d, rfl, hd, p⟩ := h
  walk_at "d"
  refine dE_ty ?_
  walk_at "d"
  refine dC_isi (kit_tup d) ?_
  walk_at "d"
  cases d with
  | tuple ds =>
    refine ifF rfl ?_
    walk_at "d"
    refine dC_len (ds := ds) (.inr (.inl rfl)) ?_
    walk_at "d"
    by_cases hl : ds.length = 4
    · match ds, hl with
      | [n, a, b, c], _ =>
        have p' : P (.d (.bool (nameB n && (inB 0 1000 a && (inB 1 100 b && inB 1 1000000 c))))) M := p
        have hn : Gd n := hd.tup'.2 n List.mem_cons_self
        refine ifF (show (!decide (((4 : Nat) : Int) = 4)) = false by decide) ?_
        walk_at "d"
        refine ⟨hn.lname, ?_⟩
        walk_at "d"
        refine ifB (fun h1 => ?_) (fun h1 => ?_)
        · walk_at "d"
          rw [show nameB n = false by simpa using h1, Bool.false_and] at p'
          exact p'
        · rw [show nameB n = true by simpa using h1, Bool.true_and] at p'
          walk_at "d"
          refine ⟨a, 0, 1000, rfl, ?_⟩
          walk_at "d"
          refine ifB (fun h2 => ?_) (fun h2 => ?_)
          · refine ifT rfl ?_
            walk_at "d"
            rw [show inB 0 1000 a = false by simpa using h2, Bool.false_and] at p'
            exact p'
          · rw [show inB 0 1000 a = true by simpa using h2, Bool.true_and] at p'
            walk_at "d"
            refine ⟨b, 1, 100, rfl, ?_⟩
            walk_at "d"
            refine ifB (fun h3 => ?_) (fun h3 => ?_)
            · walk_at "d"
              rw [show inB 1 100 b = false by simpa using h3, Bool.false_and] at p'
              exact p'
            · rw [show inB 1 100 b = true by simpa using h3, Bool.true_and] at p'
              walk_at "d"
              exact ⟨c, 1, 1000000, rfl, rtOf.of p'⟩
    · refine ifT (by rw [decide_eq_false (by omega)]; rfl) ?_
      refine ifT rfl ?_
      walk_at "d"
      rw [rope_len hl] at p
      exact p
  | _ =>
    refine ifT rfl ?_
    refine ifT rfl ?_
    walk_at "d"
    exact p
abbrev s_law_is_part : Stmt := topS 63
theorem sc_law_is_part : FnScope ["thing"] ["thing"] (defScope s_law_is_part) := ⟨rfl, rfl, rfl, by decide +kernel, rfl, by decide +kernel, by decide +kernel⟩
theorem ok_law_is_part (T : Txt mg) (F : Fun K "_law_is_part" "_law_is_part" s_law_is_part f fd) (c_law_whole : Has P w K mg base 1 "_law_whole" ["thing"] S_isI) (c_law_lowest : Has P w K mg base 1 "_law_lowest" ["top", "bottom"] S_lowest) : FnOk P w K mg base CX0 2 f fd ["thing"] (spOf K S_isload) := by
  refine ok_of F sc_law_is_part (fun rs M P h => by obtain ⟨a, rfl, _⟩ := h; rfl) fun cdv A outer s H E hr => ⟨_, (pss_cons (ps_if (PW.pt (pw_or (pt_not (pt_val (pe_callB (kcall_isi K) (by rfl) T.isinstance (by decide +kernel) (pa_cons (pv 0) (pa_cons (pe_bltn (v := .ty "tuple") (by rfl) T.tuple (by decide +kernel) rfl) pa_nil))))) (pw_or1 (pt_cmp (pc_neI (pe_callB (kcall_len K) (by rfl) T.len (by decide +kernel) (pa_cons (pv 0) pa_nil)) pe_int))))) (pss_one (ps_ret pe_bl)) pss_nil)
      (pss_cons (ps_if (PW.pt (pw_or (pt_not (pt_val (pe_callH' c_law_whole (hr.mono (by first | decide | omega)) rfl (pa_cons (pe_ix (kix_tup K) (pv 0) pe_int (fun _ _ => rfl)) pa_nil)))) (pw_or1 (pt_not (pt_val (pe_callH' c_law_whole (hr.mono (by first | decide | omega)) rfl (pa_cons (pe_ix (kix_tup K) (pv 0) pe_int (fun _ _ => rfl)) pa_nil))))))) (pss_one (ps_ret pe_bl)) pss_nil)
      (pss_one (ps_ret (pe_and (pe_cmp (pc_ge (pe_ix (kix_tup K) (pv 0) pe_int (fun _ _ => rfl)) pe_int)) (pe_and (pe_cmp (pc_gt (pe_ix (kix_tup K) (pv 0) pe_int (fun _ _ => rfl)) pe_int)) (pe_one (pe_cmpR (kop_eqD K hr.units) (pe_callH' c_law_lowest (hr.mono (by first | decide | omega)) rfl (pa_cons (pe_ix (kix_tup K) (pv 0) pe_int (fun _ _ => rfl)) (pa_cons (pe_ix (kix_tup K) (pv 0) pe_int (fun _ _ => rfl)) pa_nil))) (pv 0) (nomark _))))))))), fun rs M P h => ?_⟩
  obtain ⟨d, rfl, hd, p⟩ := h
  walk_at "d"
  refine dE_ty ?_
  walk_at "d"
  refine dC_isi (kit_tup d) ?_
  walk_at "d"
  cases d with
  | tuple ds =>
    refine ifF rfl ?_
    walk_at "d"
    refine dC_len (ds := ds) (.inr (.inl rfl)) ?_
    walk_at "d"
    by_cases hl : ds.length = 2
    · match ds, hl with
      | [x, y], _ =>
        refine ifF (show (!decide (((2 : Nat) : Int) = 2)) = false by decide) ?_
        walk_at "d"
        refine ifB (fun h1 => ?_) (fun h1 => ?_)
        · refine ifT rfl ?_
          walk_at "d"
          rw [frac_two (.inl (by simpa using h1))] at p
          exact p
        · walk_at "d"
          refine ifB (fun h2 => ?_) (fun h2 => ?_)
          · walk_at "d"
            rw [frac_two (.inr (by simpa using h2))] at p
            exact p
          · have i1 : isI x = true := by simpa using h1
            have i2 : isI y = true := by simpa using h2
            have gy := hd.tup'.2 y (by simp)
            cases x with
            | int t =>
              cases y with
              | int b =>
                have p' : P (.d (.bool (decide (0 ≤ t) && (decide (1 ≤ b) && decide (Int.gcd t b = 1))))) M := p
                have hz : Sz 8000 b := by
                  obtain ⟨n, hn, g, _⟩ := gy
                  cases g with
                  | int _ h => exact h.up (by omega)
                walk_at "d"
                refine ifB (fun h3 => ?_) (fun h3 => ?_)
                · rw [show decide (0 ≤ t) = true from h3, Bool.true_and] at p'
                  walk_at "d"
                  refine ifB (fun h4 => ?_) (fun h4 => ?_)
                  · have hb : 0 < b := of_decide_eq_true h4
                    have ht : 0 ≤ t := of_decide_eq_true h3
                    rw [show decide (1 ≤ b) = true from decide_eq_true (by omega), Bool.true_and] at p'
                    walk_at "d"
                    refine ⟨ht, hb, hz, ?_⟩
                    walk_at "d"
                    refine dR_eq (d := fr (low t b)) (e := fr (t, b)) .of .of Shp.fr.shaped Shp.fr.shaped ?_
                    have e : PyData.eqv (fr (low t b)) (fr (t, b)) = decide (Int.gcd t b = 1) := by
                      rw [fr_eqv1, Bool.eq_iff_iff, decide_eq_true_iff, decide_eq_true_iff, ← low_self ht hb]
                    rw [e]
                    exact rtOf.of p'
                  · rw [show decide (1 ≤ b) = false from decide_eq_false (by have := of_decide_eq_false h4; omega), Bool.false_and] at p'
                    exact rtOf.of p'
                · rw [show decide (0 ≤ t) = false from h3, Bool.false_and] at p'
                  exact rtOf.of p'
              | _ => cases i2
            | _ => cases i1
    · refine ifT (by rw [decide_eq_false (by omega)]; rfl) ?_
      walk_at "d"
      rw [frac_len hl] at p
      exact p
  | _ =>
    refine ifT rfl ?_
    refine ifT rfl ?_
    walk_at "d"
    exact p
end
end K2
namespace K2
open PySem L2 Sd Ma
theorem Wo.split {x : WS} {n : Str} (h : Wo x) : Wo (splW x n) :=
  ⟨h.len, h.asc, h.ris, h.fine, ⟨fun y hy => h.brk.sub y (List.mem_filter.mp hy).1, h.brk.nd.filter _⟩, h.wt⟩
theorem names_tgt {n : Str} {i : Int} (ro : List Rope) : (ro.map fun r => if (r.n == n) = true then (⟨r.n, r.a - i, r.b, r.c⟩ : Rope) else r).map Rope.n = ro.map Rope.n := by
  rw [List.map_map]
  refine List.map_congr_left fun r _ => ?_
  show Rope.n (if (r.n == n) = true then (⟨r.n, r.a - i, r.b, r.c⟩ : Rope) else r) = r.n
  split <;> rfl
theorem Wo.tight {x : WS} {n : Str} {i : Int} (h : Wo x) (h1 : 1 ≤ i) (h2 : i ≤ slk x n) : Wo (tgtW x n i) := by
  have mem : ∀ r ∈ (tgtW x n i).st, ∃ s ∈ x.st, r.n = s.n ∧ r.Fine := fun r hr => by
    obtain ⟨s, hs, rfl⟩ := List.mem_map.mp (show r ∈ x.st.map _ from hr)
    have hf := h.fine s hs
    by_cases e : (s.n == n) = true
    · have en : s.n = n := beq_iff_eq.mp e
      have hk : slk x n = s.a := by rw [← en]; exact slk_is h.nd hs
      refine ⟨s, hs, ?_, ?_⟩
      · rw [if_pos e]
      · rw [if_pos e]
        exact ⟨by show 0 ≤ s.a - i; omega, by have := hf.a1; show s.a - i ≤ 1000; omega, hf.b0, hf.b1, hf.c0, hf.c1⟩
    · exact ⟨s, hs, by rw [if_neg e], by rw [if_neg e]; exact hf⟩
  refine ⟨?_, fun r hr => ?_, ?_, fun r hr => ?_, ⟨fun y hy => ?_, h.brk.nd⟩, h.wt⟩
  · show (x.st.map _).length ≤ 6
    rw [List.length_map]
    exact h.len
  · obtain ⟨s, hs, e, _⟩ := mem r hr
    rw [e]
    exact h.asc s hs
  · show ((x.st.map _).map Rope.n).Pairwise _
    rw [names_tgt]
    exact h.ris
  · exact (mem r hr).choose_spec.2.2
  · show y ∈ (x.st.map _).map Rope.n
    rw [names_tgt]
    exact h.brk.sub y hy
theorem isNm_no {ro : List Rope} {n : Str} (h : isNm ro (.str n) = false) : n ∉ ro.map Rope.n := fun hm => by
  obtain ⟨r, hr, e⟩ := List.mem_map.mp hm
  have := List.any_eq_false.mp h r hr
  rw [← e] at this
  exact this (show decide (r.n = r.n) = true by simp)
theorem Wo.put {x : WS} {r : Rope} (h : Wo x) (hf : r.Fine) (ha : r.n.length ≤ 10 ∧ ∀ c ∈ r.n.cps.toList, c < 128) (hn : isNm x.st (.str r.n) = false) (hl : ¬ 6 ≤ x.st.length) : Wo (putW x r) := by
  have nd : ((x.st ++ [r]).map Rope.n).Nodup := by
    rw [List.map_append, List.nodup_append]
    refine ⟨h.nd, by simp, fun a ha b hb e => ?_⟩
    obtain rfl : b = r.n := by simpa using hb
    exact isNm_no hn (e ▸ ha)
  have mem : ∀ s ∈ sortR (x.st ++ [r]), s ∈ x.st ∨ s = r := fun s hs => by
    have := ((sortR_perm _).mem_iff).mp hs
    simpa using this
  refine ⟨?_, fun s hs => ?_, sortR_ris nd, fun s hs => ?_, ⟨fun y hy => ?_, h.brk.nd⟩, h.wt⟩
  · show (sortR (x.st ++ [r])).length ≤ 6
    rw [(sortR_perm _).length_eq, List.length_append, List.length_singleton]
    omega
  · rcases mem s hs with h1 | rfl
    · exact h.asc s h1
    · exact ha
  · rcases mem s hs with h1 | rfl
    · exact h.fine s h1
    · exact hf
  · show y ∈ (sortR (x.st ++ [r])).map Rope.n
    obtain ⟨s, hs, e⟩ := List.mem_map.mp (h.brk.sub y hy)
    exact List.mem_map.mpr ⟨s, ((sortR_perm _).mem_iff).mpr (List.mem_append_left _ hs), e⟩
end K2
namespace K2
open PySem L2 Sd Ma
local macro_rules | `(tactic| walk_at "d1") => `(tactic| first
  | ((with_reducible refine' dE_var ?dv ?_); (case dv => rfl))
  | with_reducible refine' dE_int ?_
  | with_reducible refine' dE_str ?_
  | with_reducible refine' dE_bl ?_
  | with_reducible refine' dE_non ?_
  | ((with_reducible refine' dE_nt ?dv ?_); (case dv => assumption))
  | with_reducible refine' dE_ref ?_
  | with_reducible refine' dE_op ?_
  | with_reducible refine' dE_un ?_
  | with_reducible refine' dE_cmp ?_
  | with_reducible refine' dE_isN ?_
  | with_reducible refine' dE_notN ?_
  | with_reducible refine' dE_call ?_
  | with_reducible refine' dE_cb ?_
  | with_reducible refine' dE_kw ?_
  | with_reducible refine' dE_tup ?_
  | with_reducible refine' dE_if ?_
  | with_reducible refine' dE_and ?_
  | with_reducible refine' dE_or ?_
  | with_reducible refine' dE_not ?_
  | with_reducible refine' dE_sl ?_
  | with_reducible refine' dO_none ?_
  | with_reducible refine' dO_some ?_
  | with_reducible refine' dA_cons ?_
  | with_reducible refine' dA_nil ?_
  | with_reducible refine' dT_B ?_
  | with_reducible refine' dT_test ?_
  | with_reducible refine' dT_and ?_
  | with_reducible refine' dT_or ?_
  | with_reducible refine' dT_not ?_
  | with_reducible refine' dT_yes ?_
  | with_reducible refine' dR_I0i ?_
  | with_reducible refine' dU_neg ?_
  | ((with_reducible refine' dR_ixT ?dv ?_); (case dv => rfl))
  | with_reducible refine' dS_seq ?_
  | with_reducible refine' dS_next ?_
  | with_reducible refine' dS_ret ?_
  | with_reducible refine' dS_drop ?_
  | with_reducible refine' dS_if ?_
  | with_reducible refine' dS_asg ?_
  | with_reducible refine' dS_par ?_
  | with_reducible refine' dG_name ?_
  | ((with_reducible refine' dG_tup ?dv ?_); (case dv => rfl); (dsimp only [List.map]))
  | with_reducible refine' dGs_cons ?_
  | with_reducible refine' dGs_nil ?_
  | with_reducible refine' dC_abs ?_
  | with_reducible refine' dC_max2 ?_
  | with_reducible refine' dC_min2 ?_
  | with_reducible refine' rtOf.of ?_
  | with_reducible refine' ex_cmp ?_
  | with_reducible refine' ex_bool ?_
  | with_reducible refine' ex_int ?_
  | with_reducible refine' ex_list ?_
  | with_reducible refine' ex_tup ?_
  | with_reducible refine' ex_d ?_
  | with_reducible refine' ex_m ?_
  | with_reducible refine' ex_par ?_
  | with_reducible refine' ex_rg1 ?_
  | with_reducible refine' ex_rg2 ?_
  | ((with_reducible refine' ex_dat ?dv ?dw ?_); (case dv => rfl); (case dw => exact Nat.le_of_ble_eq_true rfl))
  | ((fail_if_success (with_reducible show ∃ _, _)); (fail_if_success (with_reducible show _ ∧ _)); refine ⟨_, _, rfl, ?_⟩)
  | ((fail_if_success (with_reducible show ∃ _, _)); (fail_if_success (with_reducible show _ ∧ _)); refine ⟨_, rfl, ?_⟩)
  | fail)
local macro_rules | `(tactic| walk_at "d") => `(tactic| repeat' walk_at "d1")
local macro_rules | `(tactic| walk_at "e1") => `(tactic| first
  | ((with_reducible refine' dE_var ?dv ?_); (case dv => rfl))
  | with_reducible refine' dE_int ?_
  | with_reducible refine' dE_str ?_
  | with_reducible refine' dE_bl ?_
  | with_reducible refine' dE_non ?_
  | ((with_reducible refine' dE_nt ?dv ?_); (case dv => assumption))
  | with_reducible refine' dE_ref ?_
  | with_reducible refine' dE_op ?_
  | with_reducible refine' dE_un ?_
  | with_reducible refine' dE_cmp ?_
  | with_reducible refine' dE_isN ?_
  | with_reducible refine' dE_notN ?_
  | with_reducible refine' dE_call ?_
  | with_reducible refine' dE_cb ?_
  | with_reducible refine' dE_kw ?_
  | with_reducible refine' dE_tup ?_
  | with_reducible refine' dE_if ?_
  | with_reducible refine' dE_and ?_
  | with_reducible refine' dE_or ?_
  | with_reducible refine' dE_not ?_
  | with_reducible refine' dE_sl ?_
  | with_reducible refine' dO_none ?_
  | with_reducible refine' dO_some ?_
  | with_reducible refine' dA_cons ?_
  | with_reducible refine' dA_nil ?_
  | with_reducible refine' dT_B ?_
  | with_reducible refine' dT_test ?_
  | with_reducible refine' dT_and ?_
  | with_reducible refine' dT_or ?_
  | with_reducible refine' dT_not ?_
  | with_reducible refine' dT_yes ?_
  | with_reducible refine' dR_I0i ?_
  | with_reducible refine' dU_neg ?_
  | ((with_reducible refine' dR_ixT ?dv ?_); (case dv => rfl))
  | with_reducible refine' dS_next ?_
  | with_reducible refine' dS_ret ?_
  | with_reducible refine' dS_drop ?_
  | with_reducible refine' dS_if ?_
  | with_reducible refine' dS_asg ?_
  | with_reducible refine' dS_par ?_
  | with_reducible refine' dG_name ?_
  | ((with_reducible refine' dG_tup ?dv ?_); (case dv => rfl); (dsimp only [List.map]))
  | with_reducible refine' dGs_cons ?_
  | with_reducible refine' dGs_nil ?_
  | with_reducible refine' dC_abs ?_
  | with_reducible refine' dC_max2 ?_
  | with_reducible refine' dC_min2 ?_
  | with_reducible refine' rtOf.of ?_
  | with_reducible refine' ex_cmp ?_
  | with_reducible refine' ex_bool ?_
  | with_reducible refine' ex_int ?_
  | with_reducible refine' ex_list ?_
  | with_reducible refine' ex_tup ?_
  | with_reducible refine' ex_d ?_
  | with_reducible refine' ex_m ?_
  | with_reducible refine' ex_par ?_
  | with_reducible refine' ex_rg1 ?_
  | with_reducible refine' ex_rg2 ?_
  | ((with_reducible refine' ex_dat ?dv ?dw ?_); (case dv => rfl); (case dw => exact Nat.le_of_ble_eq_true rfl))
  | ((fail_if_success (with_reducible show ∃ _, _)); (fail_if_success (with_reducible show _ ∧ _)); refine ⟨_, _, rfl, ?_⟩)
  | ((fail_if_success (with_reducible show ∃ _, _)); (fail_if_success (with_reducible show _ ∧ _)); refine ⟨_, rfl, ?_⟩)
  | fail)
local macro_rules | `(tactic| walk_at "e") => `(tactic| repeat' walk_at "e1")
def Srt (x : WS) : Prop := sortN x.gone = x.gone ∧ ∀ r ∈ x.story, ∀ n ∈ r.2, PyData.canLay0 (.str n) = true
theorem srt_filter {ns : List Str} {p : Str → Bool} (h : sortN ns = ns) : sortN (ns.filter p) = ns.filter p := by
  have h1 : ns.Pairwise fun a b => leN a b = true := by rw [← h]; exact sortN_sorted ns
  exact List.Perm.eq_of_pairwise (fun x y _ _ h1 h2 => leN_anti h1 h2) (sortN_sorted _) (h1.sublist List.filter_sublist) (List.mergeSort_perm _ _)
theorem left_len {ro : List Rope} {ns : List Str} (nd : (ro.map Rope.n).Nodup) (h : Brk ro ns) : (leftOf ro ns).length + ns.length = ro.length := by
  have e1 : (ro.filter fun r => ns.contains r.n).length = ns.length := by
    have hp : ((ro.filter fun r => ns.contains r.n).map Rope.n).Perm ns := by
      refine (List.perm_ext_iff_of_nodup (((List.filter_sublist).map Rope.n).nodup nd) h.nd).mpr fun y => ?_
      constructor
      · intro hy
        obtain ⟨r, hr, rfl⟩ := List.mem_map.mp hy
        exact List.contains_iff_mem.mp (List.mem_filter.mp hr).2
      · intro hy
        obtain ⟨r, hr, rfl⟩ := List.mem_map.mp (h.sub y hy)
        exact List.mem_map.mpr ⟨r, List.mem_filter.mpr ⟨hr, List.contains_iff_mem.mpr hy⟩, rfl⟩
    have := hp.length_eq
    rwa [List.length_map] at this
  have e2 : ∀ l : List Rope, (l.filter fun r => !ns.contains r.n).length + (l.filter fun r => ns.contains r.n).length = l.length := fun l => by
    induction l with
    | nil => rfl
    | cons r l ih =>
      cases hc : ns.contains r.n <;> simp only [List.filter_cons, hc, List.length_cons, Bool.not_true, Bool.not_false, if_true, if_false, Bool.false_eq_true] <;> omega
  have e3 := e2 ro
  rw [e1] at e3
  exact e3
theorem left_none {ro : List Rope} {ns : List Str} (nd : (ro.map Rope.n).Nodup) (h : Brk ro ns) : leftOf ro ns = [] ↔ ns.length = ro.length := by
  have := left_len nd h
  constructor
  · intro e
    rw [e, List.length_nil] at this
    omega
  · intro e
    exact List.length_eq_zero_iff.mp (by omega)
/-- what is freshly broken -/
theorem fresh_eq {ro : List Rope} {ns : List Str} {q : Q} (nd : (ro.map Rope.n).Nodup) (h : Brk ro ns) : (brOf ro ns q).filter (fun y => !ns.contains y) = sortN (wavesOf (leftOf ro ns) q).flatten := by
  have hb := Brk.br (q := q) nd h
  have hs : (brOf ro ns q).Pairwise fun a b => leN a b = true := sortN_sorted _
  refine List.Perm.eq_of_pairwise (fun x y _ _ h1 h2 => leN_anti h1 h2) (hs.sublist List.filter_sublist) (sortN_sorted _) ?_
  refine (List.Perm.trans ?_ (List.mergeSort_perm _ leN).symm)
  refine (List.perm_ext_iff_of_nodup (hb.nd.filter _) (waves_nodup _ _ (Nat.le_refl _) (((left_sub _ _).map Rope.n).nodup nd))).mpr fun y => ?_
  constructor
  · intro hy
    obtain ⟨h1, h2⟩ := List.mem_filter.mp hy
    rcases List.mem_append.mp (mem_sortN.mp h1) with h3 | h3
    · rw [List.contains_iff_mem.mpr h3] at h2
      cases h2
    · exact h3
  · intro hy
    refine List.mem_filter.mpr ⟨mem_sortN.mpr (List.mem_append_right _ hy), ?_⟩
    obtain ⟨r, hr, en⟩ := List.mem_map.mp (mem_waves _ _ (Nat.le_refl _) y hy)
    rw [← en]
    exact (List.mem_filter.mp hr).2
theorem sortN_none {ns : List Str} : sortN ns = [] ↔ ns = [] := by
  have := (List.mergeSort_perm ns leN).length_eq
  constructor
  · intro e
    have e' : ns.mergeSort leN = [] := e
    rw [e', List.length_nil] at this
    exact List.length_eq_zero_iff.mp this.symm
  · rintro rfl
    exact List.length_eq_zero_iff.mp this
/-- what hangs, is broken and was told behind a load -/
theorem hng_is {x : WS} {q : Q} (hx : Wo x) (hs : Srt x) : hngW x q =
    { st := x.st, gone := brOf x.st x.gone q,
      wt := if ((brOf x.st x.gone q).length = x.st.length ∧ q ≠ (0, 1)) then (0, 1) else q,
      story := if sortN (wvs x q).flatten = [] then x.story else x.story ++ [(q, sortN (wvs x q).flatten)],
      falls := x.falls + if ((brOf x.st x.gone q).length = x.st.length ∧ q ≠ (0, 1)) then 1 else 0 } := by
  have hb := Brk.br (q := q) hx.nd hx.brk
  have hl := left_none hx.nd hb
  have key : ∀ (s : List (Q × List Str)), settleW { x with gone := brOf x.st x.gone q, story := s } q = { st := x.st, gone := brOf x.st x.gone q, wt := if ((brOf x.st x.gone q).length = x.st.length ∧ q ≠ (0, 1)) then (0, 1) else q, story := s, falls := x.falls + if ((brOf x.st x.gone q).length = x.st.length ∧ q ≠ (0, 1)) then 1 else 0 } := fun s => by
    unfold settleW
    by_cases c : (brOf x.st x.gone q).length = x.st.length ∧ q ≠ (0, 1)
    · rw [if_pos c, if_pos c]
      exact if_pos ⟨c.2, hl.mpr c.1⟩
    · rw [if_neg c, if_neg c, Int.add_zero]
      exact if_neg fun k => c ⟨hl.mp k.2, k.1⟩
  unfold hngW loseW
  by_cases e : (wvs x q).flatten = []
  · rw [if_pos e, if_pos (sortN_none.mpr e), ← key x.story]
    have eg : brOf x.st x.gone q = x.gone := by
      show sortN (x.gone ++ (wvs x q).flatten) = x.gone
      rw [e, List.append_nil]
      exact hs.1
    rw [eg]
  · rw [if_neg e, if_neg (fun k => e (sortN_none.mp k)), ← key]
    rfl
inductive Dd
  | put (d : PyData)
  | hang (d : PyData)
  | spl (d : PyData)
  | tgt (d e : PyData)
def Dd.d : Dd → PyData
  | .put d => .tuple [.str "put", d]
  | .hang d => .tuple [.str "hang", d]
  | .spl d => .tuple [.str "splice", d]
  | .tgt d e => .tuple [.str "tighten", d, e]
def Dd.Ok : Dd → Prop
  | .put d => Gd d
  | .hang d => Gd d
  | .spl d => Gd d
  | .tgt d e => Gd d ∧ Gd e
def refOf (x : WS) : Dd → Option Rf
  | .put d => putR x d
  | .hang d => hngR x d
  | .spl d => splR x d
  | .tgt d e => tgtR x d e
def ropeD : PyData → Rope
  | .tuple [.str n, .int a, .int b, .int c] => ⟨n, a, b, c⟩
  | _ => ⟨"", 0, 0, 0⟩
def frD : PyData → Q
  | .tuple [.int a, .int b] => (a, b)
  | _ => (0, 1)
def strD : PyData → Str
  | .str n => n
  | _ => ""
def intD : PyData → Int
  | .int i => i
  | _ => 0
def doneW (x : WS) : Dd → WS
  | .put d => putW x (ropeD d)
  | .hang d => hngW x (frD d)
  | .spl d => splW x (strD d)
  | .tgt d e => tgtW x (strD d) (intD e)
def retOf (x : WS) : Dd → PyData
  | .hang d => .list ((wvs x (frD d)).map nm)
  | _ => .none
def sayOf : Rf → Str
  | .noRope => "told NoRope+" | .noLoad => "told NoLoad+" | .noName => "told NoName+" | .noNumber => "told NoNumber+" | .taken => "told Taken+"
  | .full => "asked Full+" | .noRopes => "asked NoRopes+" | .hung _ => "asked Hung+" | .whole _ => "asked Whole+"
theorem say_kind (r : Rf) : kindOf r.bs = sayOf r := by
  cases r with
  | hung q => exact show kindOf [true, false, false, true, false, false, false, false, false, false, false, true] = "asked Hung+" from by decide +kernel
  | whole q => exact show kindOf [true, false, false, false, false, false, false, false, false, false, true, true] = "asked Whole+" from by decide +kernel
  | _ => decide +kernel
def refD : Option Rf → PyData
  | none => .none
  | some r => .tuple [.str (sayOf r), r.field]
theorem told_is (r : Rf) : r.told = .tuple [.none, .str (sayOf r), r.field] := by
  unfold Rf.told
  rw [say_kind]
theorem put_none {x : WS} {d : PyData} (h : putR x d = none) : ∃ r : Rope, d = r.d ∧ r.Fine ∧ (r.n.length ≤ 10 ∧ ∀ c ∈ r.n.cps.toList, c < 128) ∧ isNm x.st (.str r.n) = false ∧ ¬ 6 ≤ x.st.length ∧ x.wt = (0, 1) := by
  unfold putR at h
  split at h
  · cases h
  rename_i h1
  split at h
  · cases h
  rename_i h2
  split at h
  · cases h
  rename_i h3
  split at h
  · cases h
  rename_i h4
  obtain ⟨r, rfl, hf, _, hl, ha⟩ := rope_of (by simpa using h1)
  exact ⟨r, rfl, hf, ⟨hl, ha⟩, Bool.eq_false_iff.mpr h2, h3, by simpa using h4⟩
theorem hng_none {x : WS} {d : PyData} (h : hngR x d = none) : ∃ q : Q, d = fr q ∧ Red q := by
  unfold hngR at h
  split at h
  · cases h
  rename_i h1
  obtain ⟨q, rfl, hq⟩ := frac_of (by simpa using h1)
  exact ⟨q, rfl, hq⟩
theorem spl_none {x : WS} {d : PyData} (h : splR x d = none) : ∃ r ∈ x.st, d = .str r.n ∧ x.gone.contains r.n = true ∧ x.wt = (0, 1) := by
  unfold splR at h
  split at h
  · cases h
  rename_i h1
  obtain ⟨r, hr, rfl⟩ := nm_str (ro := x.st) (d := d) (by simpa using h1)
  simp only at h
  split at h
  · cases h
  rename_i h2
  split at h
  · cases h
  rename_i h3
  exact ⟨r, hr, rfl, by simpa using h2, by simpa using h3⟩
theorem tgt_none {x : WS} {d e : PyData} (h : tgtR x d e = none) : ∃ r ∈ x.st, d = .str r.n ∧ ∃ i : Int, e = .int i ∧ 1 ≤ i ∧ i ≤ slk x r.n ∧ x.wt = (0, 1) := by
  unfold tgtR at h
  split at h
  · cases h
  rename_i h1
  obtain ⟨r, hr, rfl⟩ := nm_str (ro := x.st) (d := d) (by simpa using h1)
  simp only at h
  split at h
  · cases h
  rename_i h2
  split at h
  · cases h
  rename_i h3
  have h2' : inB 1 (slk x r.n) e = true := by simpa using h2
  cases e with
  | int i =>
    have h' : (decide (1 ≤ i) && decide (i ≤ slk x r.n)) = true := h2'
    rw [Bool.and_eq_true, decide_eq_true_iff, decide_eq_true_iff] at h'
    exact ⟨r, hr, rfl, i, rfl, h'.1, h'.2, by simpa using h3⟩
  | _ => cases h2'
/-- what a deed leaves -/
theorem done_ok {x : WS} {dd : Dd} (hx : Wo x) (hs : Srt x) (ok : dd.Ok) (h : refOf x dd = none) : Wo (doneW x dd) ∧ Srt (doneW x dd) ∧ (doneW x dd).story.length ≤ x.story.length + 1 := by
  cases dd with
  | put d =>
    obtain ⟨r, rfl, hf, ha, hn, hl, _⟩ := put_none h
    exact ⟨hx.put hf ha hn hl, hs, Nat.le_succ _⟩
  | hang d =>
    obtain ⟨q, rfl, hq⟩ := hng_none h
    have hL := Gd.lok (q := q) ok hq
    show Wo (hngW x q) ∧ Srt (hngW x q) ∧ (hngW x q).story.length ≤ _
    rw [hng_is hx hs]
    refine ⟨⟨hx.len, hx.asc, hx.ris, hx.fine, Brk.br hx.nd hx.brk, ?_⟩, ⟨br_sorted, fun r hr n hn => ?_⟩, ?_⟩
    · show LOk (if _ then _ else _)
      split
      · exact mk01.ok
      · exact hL
    · have hr' : r ∈ (if sortN (wvs x q).flatten = [] then x.story else x.story ++ [(q, sortN (wvs x q).flatten)]) := hr
      split at hr'
      · exact hs.2 r hr' n hn
      · rcases List.mem_append.mp hr' with h1 | h1
        · exact hs.2 r h1 n hn
        · rw [List.mem_singleton.mp h1] at hn
          obtain ⟨s, hs1, rfl⟩ := List.mem_map.mp (mem_waves _ _ (Nat.le_refl _) n (mem_sortN.mp hn))
          exact hx.lay (List.mem_filter.mp hs1).1
    · show List.length (if _ then _ else _) ≤ _
      split
      · exact Nat.le_succ _
      · rw [List.length_append]; exact Nat.le_refl _
  | spl d =>
    obtain ⟨r, hr, rfl, _⟩ := spl_none h
    exact ⟨hx.split, ⟨srt_filter hs.1, hs.2⟩, Nat.le_succ _⟩
  | tgt d e =>
    obtain ⟨r, hr, rfl, i, rfl, h1, h2, _⟩ := tgt_none h
    exact ⟨hx.tight h1 h2, hs, Nat.le_succ _⟩
abbrev wps (x : WS) (g : Addr) : List (Str × SV) := [("ropes", .d (ld x.st)), ("gone", .d (nl x.gone)), ("load", .d (fr x.wt)), ("log", .m g), ("falls", .d (.int x.falls))]
def DAt (M : Mem) (wd g : Addr) (x : WS) : Prop := M.o wd = some (.dic (wps x g)) ∧ M g = some (x.story.map rowD)
def dput (M : Mem) (wd g : Addr) (x : WS) : Mem := oset (mset M g (x.story.map rowD)) wd (.dic (wps x g))
section
variable {wd g : Addr} {M : Mem} {x y : WS}
theorem lk_ropes : (wps x g).lookup ("ropes" : Str) = some (.d (ld x.st)) := rfl
theorem lk_gone : (wps x g).lookup ("gone" : Str) = some (.d (nl x.gone)) := rfl
theorem lk_load : (wps x g).lookup ("load" : Str) = some (.d (fr x.wt)) := rfl
theorem lk_log : (wps x g).lookup ("log" : Str) = some (.m g) := rfl
theorem lk_falls : (wps x g).lookup ("falls" : Str) = some (.d (.int x.falls)) := rfl
theorem wps_len : (wps x g).length < 1000 := Nat.le_of_ble_eq_true rfl
theorem dput_o : (dput M wd g x).o wd = some (.dic (wps x g)) := oset_same
theorem dput_l : (dput M wd g x) g = some (x.story.map rowD) := mset_same
theorem dput_at : DAt (dput M wd g x) wd g x := ⟨dput_o, dput_l⟩
theorem dput_id (h : DAt M wd g x) : dput M wd g x = M := by
  unfold dput
  rw [mset_id h.2, oset_id h.1]
theorem DAt.ex (h : DAt M wd g x) : ∃ M0, M = dput M0 wd g x := ⟨M, (dput_id h).symm⟩
theorem dput_dput : dput (dput M wd g x) wd g y = dput M wd g y := by
  unfold dput
  rw [mset_oset, mset_mset, oset_oset]
theorem oset_d (h : y.story = x.story) : oset (dput M wd g x) wd (.dic (wps y g)) = dput M wd g y := by
  unfold dput
  rw [oset_oset, h]
theorem mset_d {s : List (Q × List Str)} : mset (dput M wd g x) g (s.map rowD) = dput M wd g { x with story := s } := by
  unfold dput
  rw [mset_oset, mset_mset]
theorem pd_ropes {ro : List Rope} : putD "ropes" (.d (ld ro)) (wps x g) = wps { x with st := ro } g := rfl
theorem pd_gone {ns : List Str} : putD "gone" (.d (nl ns)) (wps x g) = wps { x with gone := ns } g := rfl
theorem pd_load {q : Q} : putD "load" (.d (fr q)) (wps x g) = wps { x with wt := q } g := rfl
theorem pd_falls {i : Int} : putD "falls" (.d (.int i)) (wps x g) = wps { x with falls := i } g := rfl
theorem d_ropes {ro : List Rope} : oset (dput M wd g x) wd (.dic (putD "ropes" (.d (ld ro)) (wps x g))) = dput M wd g { x with st := ro } := (congrArg (fun z => oset _ wd (.dic z)) pd_ropes).trans (oset_d rfl)
theorem d_gone {ns : List Str} : oset (dput M wd g x) wd (.dic (putD "gone" (.d (nl ns)) (wps x g))) = dput M wd g { x with gone := ns } := (congrArg (fun z => oset _ wd (.dic z)) pd_gone).trans (oset_d rfl)
theorem d_load {q : Q} : oset (dput M wd g x) wd (.dic (putD "load" (.d (fr q)) (wps x g))) = dput M wd g { x with wt := q } := (congrArg (fun z => oset _ wd (.dic z)) pd_load).trans (oset_d rfl)
theorem d_falls {i : Int} : oset (dput M wd g x) wd (.dic (putD "falls" (.d (.int i)) (wps x g))) = dput M wd g { x with falls := i } := (congrArg (fun z => oset _ wd (.dic z)) pd_falls).trans (oset_d rfl)
variable {K : PySem.W.Frag} {δ : DSt} {P : SV → Mem → Prop} {D : DEnds} {tv : TE} {i : Nat} {k : Str} {ps : List (Str × SV)}
theorem dE_wg {r : SV} (h0 : δ[i]? = some (some (.m wd))) (ho : M.o wd = some (.dic ps)) (hk : ps.lookup k = some r) (p : P r M) : dE K (tDGet (tVar i) (tC (.str k))) δ M P := dE_wget (dE_var h0 (dE_str ⟨wd, ps, k, r, rfl, rfl, ho, hk, p⟩))
theorem dS_wp (h0 : δ[i]? = some (some (.m wd))) (h : dE K tv δ M fun r M1 => ∃ (ps : List (Str × SV)) (r0 : SV), M1.o wd = some (.dic ps) ∧ ps.lookup k = some r0 ∧ ps.length < 1000 ∧ D.nx δ (oset M1 wd (.dic (putD k r ps)))) : dS K (sDPut (tVar i) (tC (.str k)) tv) D δ M :=
  dS_wput (h.mono fun r M1 ⟨ps, r0, h1, h2, h3, p⟩ => dE_var h0 (dE_str ⟨wd, ps, k, r0, rfl, rfl, h1, h2, h3, p⟩))
end
section
variable {P : Program} {w : World} {K : PySem.W.Frag} {mg : Str → Option Value} {base : Heap} {f : Addr} {fd : FuncData}
def S_new : SpD := fun rs M P => rs = [] ∧ ∀ wd g, M.o wd = none → M wd = none → M g = none → P (.m wd) (dput M wd g w0)
abbrev s_law_new : Stmt := topS 62
theorem sc_law_new : FnScope [] [] (defScope s_law_new) := ⟨rfl, rfl, rfl, by decide +kernel, rfl, by decide +kernel, by decide +kernel⟩
theorem ok_law_new (F : Fun K "_law_new" "_law_new" s_law_new f fd) : FnOk P w K mg base CX0 1 f fd [] (spOf K S_new) := by
  refine ok_of F sc_law_new (fun rs M P h => by rw [h.1]; rfl) fun cdv A outer s H E hr => ⟨_, (pss_one (ps_ret (pe_disp (pps_cons pe_str (pe_lst pa_nil) (pps_cons pe_str (pe_lst pa_nil) (pps_cons pe_str (pe_tup (pa_cons pe_int (pa_cons pe_int pa_nil))) (pps_cons pe_str (pe_lst pa_nil) (pps_cons pe_str pe_int pps_nil))))) (by rfl) (by rfl) (by simp) (by decide)))), fun rs M P h => ?_⟩
  obtain ⟨rfl, p⟩ := h
  refine dS_ret (dE_wnew fun a ha hl => ?_)
  refine dPr_cons (dE_str ⟨rfl, dE_lst (dA_nil ⟨[], rfl, by decide, ?_⟩)⟩)
  refine dPr_cons (dE_str ⟨rfl, dE_lst (dA_nil ⟨[], rfl, by decide, ?_⟩)⟩)
  refine dPr_cons (dE_str ⟨rfl, ?_⟩)
  walk_at "d"
  refine dPr_cons (dE_str ⟨rfl, dE_lstM (dA_nil ⟨[], rfl, by decide, fun g hg => ?_⟩)⟩)
  refine dPr_cons (dE_str ⟨rfl, dE_int ?_⟩)
  refine dPr_nil ⟨oset_same, (show (["ropes", "gone", "load", "log", "falls"] : List Str).Nodup by decide +kernel), Nat.le_of_ble_eq_true rfl, rtOf.of ?_⟩
  have := p a g ha hl hg
  rw [show dput M a g w0 = oset (mset (oset M a (.dic [])) g []) a (.dic (wps w0 g)) from by unfold dput; rw [mset_oset, oset_oset]; rfl] at this
  exact this
end
end K2
namespace K2
open PySem L2 Sd Ma
local macro_rules | `(tactic| walk_at "d1") => `(tactic| first
  | ((with_reducible refine' dE_var ?dv ?_); (case dv => rfl))
  | with_reducible refine' dE_int ?_
  | with_reducible refine' dE_str ?_
  | with_reducible refine' dE_bl ?_
  | with_reducible refine' dE_non ?_
  | ((with_reducible refine' dE_nt ?dv ?_); (case dv => assumption))
  | with_reducible refine' dE_ref ?_
  | with_reducible refine' dE_op ?_
  | with_reducible refine' dE_un ?_
  | with_reducible refine' dE_cmp ?_
  | with_reducible refine' dE_isN ?_
  | with_reducible refine' dE_notN ?_
  | with_reducible refine' dE_call ?_
  | with_reducible refine' dE_cb ?_
  | with_reducible refine' dE_kw ?_
  | with_reducible refine' dE_tup ?_
  | with_reducible refine' dE_if ?_
  | with_reducible refine' dE_and ?_
  | with_reducible refine' dE_or ?_
  | with_reducible refine' dE_not ?_
  | with_reducible refine' dE_sl ?_
  | with_reducible refine' dO_none ?_
  | with_reducible refine' dO_some ?_
  | with_reducible refine' dA_cons ?_
  | with_reducible refine' dA_nil ?_
  | with_reducible refine' dT_B ?_
  | with_reducible refine' dT_test ?_
  | with_reducible refine' dT_and ?_
  | with_reducible refine' dT_or ?_
  | with_reducible refine' dT_not ?_
  | with_reducible refine' dT_yes ?_
  | with_reducible refine' dR_I0i ?_
  | with_reducible refine' dU_neg ?_
  | ((with_reducible refine' dR_ixT ?dv ?_); (case dv => rfl))
  | with_reducible refine' dS_seq ?_
  | with_reducible refine' dS_next ?_
  | with_reducible refine' dS_ret ?_
  | with_reducible refine' dS_drop ?_
  | with_reducible refine' dS_if ?_
  | with_reducible refine' dS_asg ?_
  | with_reducible refine' dS_par ?_
  | with_reducible refine' dG_name ?_
  | ((with_reducible refine' dG_tup ?dv ?_); (case dv => rfl); (dsimp only [List.map]))
  | with_reducible refine' dGs_cons ?_
  | with_reducible refine' dGs_nil ?_
  | with_reducible refine' dC_abs ?_
  | with_reducible refine' dC_max2 ?_
  | with_reducible refine' dC_min2 ?_
  | with_reducible refine' rtOf.of ?_
  | with_reducible refine' ex_cmp ?_
  | with_reducible refine' ex_bool ?_
  | with_reducible refine' ex_int ?_
  | with_reducible refine' ex_list ?_
  | with_reducible refine' ex_tup ?_
  | with_reducible refine' ex_d ?_
  | with_reducible refine' ex_m ?_
  | with_reducible refine' ex_par ?_
  | with_reducible refine' ex_rg1 ?_
  | with_reducible refine' ex_rg2 ?_
  | ((with_reducible refine' ex_dat ?dv ?dw ?_); (case dv => rfl); (case dw => exact Nat.le_of_ble_eq_true rfl))
  | ((fail_if_success (with_reducible show ∃ _, _)); (fail_if_success (with_reducible show _ ∧ _)); refine ⟨_, _, rfl, ?_⟩)
  | ((fail_if_success (with_reducible show ∃ _, _)); (fail_if_success (with_reducible show _ ∧ _)); refine ⟨_, rfl, ?_⟩)
  | fail)
local macro_rules | `(tactic| walk_at "d") => `(tactic| repeat' walk_at "d1")
local macro_rules | `(tactic| walk_at "e1") => `(tactic| first
  | ((with_reducible refine' dE_var ?dv ?_); (case dv => rfl))
  | with_reducible refine' dE_int ?_
  | with_reducible refine' dE_str ?_
  | with_reducible refine' dE_bl ?_
  | with_reducible refine' dE_non ?_
  | ((with_reducible refine' dE_nt ?dv ?_); (case dv => assumption))
  | with_reducible refine' dE_ref ?_
  | with_reducible refine' dE_op ?_
  | with_reducible refine' dE_un ?_
  | with_reducible refine' dE_cmp ?_
  | with_reducible refine' dE_isN ?_
  | with_reducible refine' dE_notN ?_
  | with_reducible refine' dE_call ?_
  | with_reducible refine' dE_cb ?_
  | with_reducible refine' dE_kw ?_
  | with_reducible refine' dE_tup ?_
  | with_reducible refine' dE_if ?_
  | with_reducible refine' dE_and ?_
  | with_reducible refine' dE_or ?_
  | with_reducible refine' dE_not ?_
  | with_reducible refine' dE_sl ?_
  | with_reducible refine' dO_none ?_
  | with_reducible refine' dO_some ?_
  | with_reducible refine' dA_cons ?_
  | with_reducible refine' dA_nil ?_
  | with_reducible refine' dT_B ?_
  | with_reducible refine' dT_test ?_
  | with_reducible refine' dT_and ?_
  | with_reducible refine' dT_or ?_
  | with_reducible refine' dT_not ?_
  | with_reducible refine' dT_yes ?_
  | with_reducible refine' dR_I0i ?_
  | with_reducible refine' dU_neg ?_
  | ((with_reducible refine' dR_ixT ?dv ?_); (case dv => rfl))
  | with_reducible refine' dS_next ?_
  | with_reducible refine' dS_ret ?_
  | with_reducible refine' dS_drop ?_
  | with_reducible refine' dS_if ?_
  | with_reducible refine' dS_asg ?_
  | with_reducible refine' dS_par ?_
  | with_reducible refine' dG_name ?_
  | ((with_reducible refine' dG_tup ?dv ?_); (case dv => rfl); (dsimp only [List.map]))
  | with_reducible refine' dGs_cons ?_
  | with_reducible refine' dGs_nil ?_
  | with_reducible refine' dC_abs ?_
  | with_reducible refine' dC_max2 ?_
  | with_reducible refine' dC_min2 ?_
  | with_reducible refine' rtOf.of ?_
  | with_reducible refine' ex_cmp ?_
  | with_reducible refine' ex_bool ?_
  | with_reducible refine' ex_int ?_
  | with_reducible refine' ex_list ?_
  | with_reducible refine' ex_tup ?_
  | with_reducible refine' ex_d ?_
  | with_reducible refine' ex_m ?_
  | with_reducible refine' ex_par ?_
  | with_reducible refine' ex_rg1 ?_
  | with_reducible refine' ex_rg2 ?_
  | ((with_reducible refine' ex_dat ?dv ?dw ?_); (case dv => rfl); (case dw => exact Nat.le_of_ble_eq_true rfl))
  | ((fail_if_success (with_reducible show ∃ _, _)); (fail_if_success (with_reducible show _ ∧ _)); refine ⟨_, _, rfl, ?_⟩)
  | ((fail_if_success (with_reducible show ∃ _, _)); (fail_if_success (with_reducible show _ ∧ _)); refine ⟨_, rfl, ?_⟩)
  | fail)
local macro_rules | `(tactic| walk_at "e") => `(tactic| repeat' walk_at "e1")
theorem word_lay : PyData.canLay0 (.str "put") = true ∧ PyData.canLay0 (.str "hang") = true ∧ PyData.canLay0 (.str "splice") = true ∧ PyData.canLay0 (.str "tighten") = true := by decide +kernel
theorem nm_has {ro : List Rope} {n : Str} : (ro.map Rope.n).contains n = isNm ro (.str n) := by
  rw [Bool.eq_iff_iff, nm_is, List.contains_iff_mem]
  constructor
  · intro h
    obtain ⟨r, hr, e⟩ := List.mem_map.mp h
    exact ⟨r, hr, e⟩
  · rintro ⟨r, hr, e⟩
    exact List.mem_map.mpr ⟨r, hr, e⟩
theorem name_at {ro : List Rope} {r : Rope} (nd : (ro.map Rope.n).Nodup) (hr : r ∈ ro) : ∃ j : Nat, ro[j]? = some r ∧ ∀ (m : Nat) (s : Rope), m < j → ro[m]? = some s → s.n ≠ r.n := by
  obtain ⟨j, hj, e⟩ := List.mem_iff_getElem.mp hr
  refine ⟨j, by rw [← e]; exact List.getElem?_eq_getElem hj, fun m s hm hs en => ?_⟩
  have hs' : s = r := names_inj nd (List.mem_of_getElem? hs) hr en
  subst hs'
  have hml : m < ro.length := (List.getElem?_eq_some_iff.mp hs).1
  have h1 : (ro.map Rope.n)[m]'(by rw [List.length_map]; exact hml) = (ro.map Rope.n)[j]'(by rw [List.length_map]; exact hj) := by
    rw [List.getElem_map, List.getElem_map, e]
    exact congrArg Rope.n (List.getElem?_eq_some_iff.mp hs).2
  exact (List.pairwise_iff_getElem.mp nd) m j _ _ hm h1
section
variable {K : PySem.W.Frag} {M : Mem} {P : SV → Mem → Prop}
/-- == of texts -/
theorem dR_eqS {a b : Str} (ha : PyData.canLay0 (.str a) = true) (hb : PyData.canLay0 (.str b) = true) (p : P (.d (.bool (a == b))) M) : dR K (rEqD K) (.d (.str a)) (.d (.str b)) M P :=
  dR_eq (d := .str a) (e := .str b) .of .of (Shp.lay ha) (Shp.lay hb) p
theorem dR_neQ {a b : Q} (p : P (.d (.bool (!decide (a = b)))) M) : dR K (rNeD K) (.d (fr a)) (.d (fr b)) M P :=
  dR_ne (d := fr a) (e := fr b) .of .of Shp.fr.shaped Shp.fr.shaped (by rw [fr_eqv]; exact p)
end
section
variable {P : Program} {w : World} {K : PySem.W.Frag} {mg : Str → Option Value} {base : Heap} {f : Addr} {fd : FuncData}
def S_refu : SpD := fun rs M P => ∃ (wd g : Addr) (x : WS) (dd : Dd), rs = [.m wd, .d dd.d] ∧ M.o wd = some (.dic (wps x g)) ∧ Wo x ∧ dd.Ok ∧ P (.d (refD (refOf x dd))) M
abbrev s_law_refusal_of : Stmt := topS 65
theorem sc_law_refusal_of : FnScope ["w", "deed", "word", "names", "bare", "own", "rope"] ["w", "deed"] (defScope s_law_refusal_of) := ⟨rfl, rfl, rfl, by decide +kernel, rfl, by decide +kernel, by decide +kernel⟩
theorem ok_law_refusal_of (T : Txt mg) (F : Fun K "_law_refusal_of" "_law_refusal_of" s_law_refusal_of f fd) (c_law_good_rope : Has P w K mg base 2 "_law_good_rope" ["thing"] S_isrope) (c_law_is_part : Has P w K mg base 2 "_law_is_part" ["thing"] S_isload) (c_law_within : Has P w K mg base 1 "_law_within" ["thing", "least", "most"] S_inB) : FnOk P w K mg base CX0 3 f fd ["w", "deed"] (spOf K S_refu) := by
  refine ok_of F sc_law_refusal_of (fun rs M P h => by obtain ⟨a, b, c, d, rfl, _⟩ := h; rfl) fun cdv A outer s H E hr => ⟨_, (pss_cons (ps_set (i := 2) sc_law_refusal_of.nd rfl (Or.inl rfl) (pe_ix (kix_tup K) (pv 1) pe_int (fun _ _ => rfl)))
      (pss_cons (ps_setLc (i := 3) (own := [("rope", 6)]) (by rfl) sc_law_refusal_of.nd rfl rfl (sw_true rfl rfl rfl (by decide +kernel)) (kpi_list K (pe_dget (Nat.lt_of_le_of_lt (Nat.add_le_add_left (by decide) _) hr.units) (pv 0) pe_str (fun _ _ => rfl))) (blkOk_by (N := ["w", "deed", "word", "names", "bare", "own", "rope"]) (sc := defScope s_law_refusal_of) (own := [("rope", 6)]) (by decide +kernel)) (fun _ _ _ _ _ => (pg_name (i := 6) sc_law_refusal_of.nd rfl (Or.inl rfl))) (fun _ _ _ _ _ => pts_nil) (fun _ _ _ _ _ => (pe_ix (kix_tup K) (pv 6) pe_int (fun _ _ => rfl))))
      (pss_cons (ps_if (pt_cmpR (kop_eqD K hr.units) (pv 2) pe_str (nomark _)) (pss_cons (ps_if (pt_not (pt_val (pe_callH' c_law_good_rope (hr.mono (by first | decide | omega)) rfl (pa_cons (pe_ix (kix_tup K) (pv 1) pe_int (fun _ _ => rfl)) pa_nil)))) (pss_one (ps_ret (pe_tup (pa_cons pe_str (pa_cons pe_non pa_nil))))) pss_nil)
      (pss_cons (ps_if (pt_cmpR (kop_in K) (pe_ix (kix_tup K) (pe_ix (kix_tup K) (pv 1) pe_int (fun _ _ => rfl)) pe_int (fun _ _ => rfl)) (pv 3) (by rfl)) (pss_one (ps_ret (pe_tup (pa_cons pe_str (pa_cons pe_non pa_nil))))) pss_nil)
      (pss_one (ps_if (pt_cmp (pc_eqI (pe_callB (kcall_len K) (by rfl) T.len (by decide +kernel) (pa_cons (pv 3) pa_nil)) pe_int)) (pss_one (ps_ret (pe_tup (pa_cons pe_str (pa_cons pe_non pa_nil))))) pss_nil)))) (pss_one (ps_if (pt_cmpR (kop_eqD K hr.units) (pv 2) pe_str (nomark _)) (pss_cons (ps_if (pt_not (pt_val (pe_callH' c_law_is_part (hr.mono (by first | decide | omega)) rfl (pa_cons (pe_ix (kix_tup K) (pv 1) pe_int (fun _ _ => rfl)) pa_nil)))) (pss_one (ps_ret (pe_tup (pa_cons pe_str (pa_cons pe_non pa_nil))))) pss_nil)
      (pss_cons (ps_set (i := 4) sc_law_refusal_of.nd rfl (Or.inl rfl) (pe_and (pe_cmp (pc_eqI (pe_callB (kcall_len K) (by rfl) T.len (by decide +kernel) (pa_cons (pe_dget (Nat.lt_of_le_of_lt (Nat.add_le_add_left (by decide) _) hr.units) (pv 0) pe_str (fun _ _ => rfl)) pa_nil)) (pe_callB (kcall_len K) (by rfl) T.len (by decide +kernel) (pa_cons (pv 3) pa_nil)))) (pe_one (pe_cmpR (kop_neD K hr.units) (pe_ix (kix_tup K) (pv 1) pe_int (fun _ _ => rfl)) (pe_tup (pa_cons pe_int (pa_cons pe_int pa_nil))) (nomark _)))))
      (pss_one (ps_ret (pe_ifExp (pt_val (pv 4)) (pe_tup (pa_cons pe_str (pa_cons pe_non pa_nil))) pe_non))))) (pss_cons (ps_if (PW.pt (pw_or (pt_not (pt_val (pe_callB (kcall_isi K) (by rfl) T.isinstance (by decide +kernel) (pa_cons (pe_ix (kix_tup K) (pv 1) pe_int (fun _ _ => rfl)) (pa_cons (pe_bltn (v := .ty "str") (by rfl) T.str (by decide +kernel) rfl) pa_nil))))) (pw_or1 (pt_cmpR (kop_notIn K) (pe_ix (kix_tup K) (pv 1) pe_int (fun _ _ => rfl)) (pv 3) (by rfl))))) (pss_one (ps_ret (pe_tup (pa_cons pe_str (pa_cons pe_non pa_nil))))) pss_nil)
      (pss_cons (ps_if (PW.pt (pw_and (pt_cmpR (kop_eqD K hr.units) (pv 2) pe_str (nomark _)) (pw_and1 (pt_cmpR (kop_notIn K) (pe_ix (kix_tup K) (pv 1) pe_int (fun _ _ => rfl)) (pe_dget (Nat.lt_of_le_of_lt (Nat.add_le_add_left (by decide) _) hr.units) (pv 0) pe_str (fun _ _ => rfl)) (by rfl))))) (pss_one (ps_ret (pe_tup (pa_cons pe_str (pa_cons (pe_ix (kix_tup K) (pv 1) pe_int (fun _ _ => rfl)) pa_nil))))) pss_nil)
      (pss_cons (ps_set (i := 5) sc_law_refusal_of.nd rfl (Or.inl rfl) (pe_ix (kix_list K) (pe_dget (Nat.lt_of_le_of_lt (Nat.add_le_add_left (by decide) _) hr.units) (pv 0) pe_str (fun _ _ => rfl)) (kpe_bm K (pe_bm PySem.F.plainAttrs_list PySem.F.slot_list_index PySem.F.type_list_index (kmt_indexD K hr) (pv 3) (pa_cons (pe_ix (kix_tup K) (pv 1) pe_int (fun _ _ => rfl)) pa_nil))) (fun _ _ => rfl)))
      (pss_one (ps_if (PW.pt (pw_and (pt_cmpR (kop_eqD K hr.units) (pv 2) pe_str (nomark _)) (pw_and1 (pt_not (pt_val (pe_callH' c_law_within (hr.mono (by first | decide | omega)) rfl (pa_cons (pe_ix (kix_tup K) (pv 1) pe_int (fun _ _ => rfl)) (pa_cons pe_int (pa_cons (pe_ix (kix_tup K) (pv 5) pe_int (fun _ _ => rfl)) pa_nil))))))))) (pss_one (ps_ret (pe_tup (pa_cons pe_str (pa_cons pe_non pa_nil))))) pss_nil))))))))
      (pss_one (ps_ret (pe_ifExp (pt_cmpR (kop_neD K hr.units) (pe_dget (Nat.lt_of_le_of_lt (Nat.add_le_add_left (by decide) _) hr.units) (pv 0) pe_str (fun _ _ => rfl)) (pe_tup (pa_cons pe_int (pa_cons pe_int pa_nil))) (nomark _)) (pe_tup (pa_cons pe_str (pa_cons (pe_dget (Nat.lt_of_le_of_lt (Nat.add_le_add_left (by decide) _) hr.units) (pv 0) pe_str (fun _ _ => rfl)) pa_nil))) pe_non)))))), fun rs M P h => ?_⟩
  obtain ⟨wd, g, x, dd, rfl, ho, hx, ok, p⟩ := h
  obtain ⟨w1, w2, w3, w4⟩ := word_lay
  have hl6 := hx.len
  cases dd with
  | put d =>
    unfold Dd.d
    walk_at "d"
    refine dE_lcLm (enc := Rope.d) (out := fun r => .str r.n) (xs := x.st) ?_
    refine dE_wg rfl ho lk_ropes ?_
    refine ⟨rfl, rfl, by omega, fun r hr => ?_, .inl ?_⟩
    · walk_at "d"
      exact ⟨rfl, rfl⟩
    rw [show x.st.map (fun r => PyData.str r.n) = (x.st.map Rope.n).map .str by rw [List.map_map]; rfl]
    walk_at "d"
    refine dR_eqS w1 w1 ?_
    walk_at "d"
    refine ifT rfl ?_
    walk_at "d"
    refine ⟨ok, ?_⟩
    walk_at "d"
    have e0 : refOf x (.put d) = putR x d := rfl
    rw [e0] at p
    unfold putR at p
    refine ifB (fun h1 => ?_) (fun h1 => ?_)
    · walk_at "d"
      rw [if_pos (by simpa using h1)] at p
      exact p
    have h1' : ropeB d = true := by simpa using h1
    rw [if_neg (by rw [h1']; decide)] at p
    obtain ⟨r, rfl, hf, _, hlen, hasc⟩ := rope_of h1'
    rw [show nmOf r.d = r.n from rfl] at p
    walk_at "d"
    refine dR_is (ns := x.st.map Rope.n) (.inl rfl) ?_
    walk_at "d"
    rw [nm_has]
    refine ifB (fun h2 => ?_) (fun h2 => ?_)
    · walk_at "d"
      rw [if_pos h2] at p
      exact p
    rw [if_neg (by rw [h2]; decide)] at p
    walk_at "d"
    refine dC_len (ds := (x.st.map Rope.n).map .str) (.inl rfl) ?_
    walk_at "d"
    simp only [List.length_map]
    refine ifB (fun h3 => ?_) (fun h3 => ?_)
    · walk_at "d"
      rw [if_pos (by have := of_decide_eq_true h3; omega)] at p
      exact p
    rw [if_neg (by have := of_decide_eq_false h3; omega)] at p
    walk_at "d"
    refine dE_wg rfl ho lk_load ?_
    walk_at "d"
    refine dR_neQ (b := (0, 1)) ?_
    walk_at "d"
    refine ifB (fun h4 => ?_) (fun h4 => ?_)
    · walk_at "d"
      refine dE_wg rfl ho lk_load ?_
      walk_at "d"
      rw [if_pos (by simpa using h4)] at p
      exact p
    · walk_at "d"
      rw [if_neg (by simpa using h4)] at p
      exact p
  | hang d =>
    unfold Dd.d
    walk_at "d"
    refine dE_lcLm (enc := Rope.d) (out := fun r => .str r.n) (xs := x.st) ?_
    refine dE_wg rfl ho lk_ropes ?_
    refine ⟨rfl, rfl, by omega, fun r hr => ?_, .inl ?_⟩
    · walk_at "d"
      exact ⟨rfl, rfl⟩
    rw [show x.st.map (fun r => PyData.str r.n) = (x.st.map Rope.n).map .str by rw [List.map_map]; rfl]
    walk_at "d"
    refine dR_eqS w2 w1 ?_
    walk_at "d"
    refine ifF (by decide +kernel) ?_
    walk_at "d"
    refine dR_eqS w2 w2 ?_
    walk_at "d"
    refine ifT rfl ?_
    walk_at "d"
    refine ⟨ok, ?_⟩
    walk_at "d"
    have e0 : refOf x (.hang d) = hngR x d := rfl
    rw [e0] at p
    unfold hngR at p
    refine ifB (fun h1 => ?_) (fun h1 => ?_)
    · walk_at "d"
      rw [if_pos (by simpa using h1)] at p
      exact p
    have h1' : fracB d = true := by simpa using h1
    rw [if_neg (by rw [h1']; decide)] at p
    obtain ⟨q, rfl, hq⟩ := frac_of h1'
    rw [fr_eqv] at p
    have hln := left_none hx.nd hx.brk
    walk_at "d"
    refine dE_wg rfl ho lk_gone ?_
    walk_at "d"
    refine dC_len (ds := x.gone.map .str) (.inl rfl) ?_
    walk_at "d"
    refine dC_len (ds := (x.st.map Rope.n).map .str) (.inl rfl) ?_
    walk_at "d"
    simp only [List.length_map]
    refine ifB (fun h2 => ?_) (fun h2 => ?_)
    · have h2' : x.gone.length = x.st.length := by have := of_decide_eq_true h2; omega
      walk_at "d"
      refine dR_neQ (b := (0, 1)) ?_
      walk_at "d"
      refine ifB (fun h3 => ?_) (fun h3 => ?_)
      · walk_at "d"
        rw [if_pos ⟨by simpa using h3, hln.mpr h2'⟩] at p
        exact p
      · walk_at "d"
        rw [if_neg (fun k => by rw [k.1] at h3; cases h3)] at p
        exact p
    · have h2' : ¬ x.gone.length = x.st.length := by have := of_decide_eq_false h2; omega
      walk_at "d"
      refine ifF rfl ?_
      walk_at "d"
      rw [if_neg (fun k => h2' (hln.mp k.2))] at p
      exact p
  | spl d =>
    unfold Dd.d
    walk_at "d"
    refine dE_lcLm (enc := Rope.d) (out := fun r => .str r.n) (xs := x.st) ?_
    refine dE_wg rfl ho lk_ropes ?_
    refine ⟨rfl, rfl, by omega, fun r hr => ?_, .inl ?_⟩
    · walk_at "d"
      exact ⟨rfl, rfl⟩
    rw [show x.st.map (fun r => PyData.str r.n) = (x.st.map Rope.n).map .str by rw [List.map_map]; rfl]
    walk_at "d"
    refine dR_eqS w3 w1 ?_
    walk_at "d"
    refine ifF (by decide +kernel) ?_
    walk_at "d"
    refine dR_eqS w3 w2 ?_
    walk_at "d"
    refine ifF (by decide +kernel) ?_
    walk_at "d"
    refine dE_ty ?_
    walk_at "d"
    refine dC_isi (kit_str d) ?_
    walk_at "d"
    have e0 : refOf x (.spl d) = splR x d := rfl
    rw [e0] at p
    unfold splR at p
    by_cases h1 : isNm x.st d = true
    · rw [if_neg (by rw [h1]; decide)] at p
      obtain ⟨r, hr1, rfl⟩ := nm_str h1
      simp only at p
      refine ifF rfl ?_
      walk_at "d"
      refine dR_no (ns := x.st.map Rope.n) (.inl rfl) ?_
      walk_at "d"
      rw [nm_has]
      refine ifF (by rw [h1]; rfl) ?_
      walk_at "d"
      refine dR_eqS w3 w3 ?_
      walk_at "d"
      refine ifT rfl ?_
      walk_at "d"
      refine dE_wg rfl ho lk_gone ?_
      refine dR_no (ns := x.gone) (.inl rfl) ?_
      walk_at "d"
      refine ifB (fun h2 => ?_) (fun h2 => ?_)
      · walk_at "d"
        rw [if_pos (by simpa using h2)] at p
        exact p
      rw [if_neg (by simpa using h2)] at p
      walk_at "d"
      refine dE_wg rfl ho lk_ropes ?_
      walk_at "d"
      obtain ⟨j, hj, hjm⟩ := name_at hx.nd hr1
      refine dE_idx ?_
      walk_at "d"
      refine ⟨.str r.n, j, .str r.n, rfl, ?_, Shp.lay (hx.lay hr1), ?_, ?_, ?_, ?_⟩
      · exact (Shp.list (n := 0) fun d hd => by
          obtain ⟨y, hy, rfl⟩ := List.mem_map.mp hd
          obtain ⟨s, hs, rfl⟩ := List.mem_map.mp hy
          exact .str (hx.lay hs)).shaped
      · rw [List.getElem?_map, List.getElem?_map, hj]; rfl
      · exact beq_iff_eq.mpr rfl
      · intro m z hm hz
        rw [List.getElem?_map, List.getElem?_map] at hz
        cases q : x.st[m]? with
        | none => rw [q] at hz; cases hz
        | some s =>
          rw [q] at hz
          cases hz
          exact beq_eq_false_iff_ne.mpr (hjm m s hm q)
      refine dR_ixL (ds := x.st.map Rope.d) (d := r.d) (.inl rfl) (atI_nth5 (by rw [List.getElem?_map, hj]; rfl) rfl) ?_
      walk_at "d"
      refine dR_eqS w3 w4 ?_
      walk_at "d"
      refine ifF (by decide +kernel) ?_
      refine ifF rfl ?_
      walk_at "d"
      refine dE_wg rfl ho lk_load ?_
      walk_at "d"
      refine dR_neQ (b := (0, 1)) ?_
      walk_at "d"
      refine ifB (fun h4 => ?_) (fun h4 => ?_)
      · walk_at "d"
        refine dE_wg rfl ho lk_load ?_
        walk_at "d"
        rw [if_pos (by simpa using h4)] at p
        exact p
      · walk_at "d"
        rw [if_neg (by simpa using h4)] at p
        exact p
    · have h1' : isNm x.st d = false := by simpa using h1
      rw [if_pos h1'] at p
      cases d with
      | str n =>
        refine ifF rfl ?_
        walk_at "d"
        refine dR_no (ns := x.st.map Rope.n) (.inl rfl) ?_
        walk_at "d"
        rw [nm_has]
        refine ifT (by rw [h1']; rfl) ?_
        walk_at "d"
        exact p
      | _ =>
        refine ifT rfl ?_
        refine ifT rfl ?_
        walk_at "d"
        exact p
  | tgt d e =>
    unfold Dd.d
    walk_at "d"
    refine dE_lcLm (enc := Rope.d) (out := fun r => .str r.n) (xs := x.st) ?_
    refine dE_wg rfl ho lk_ropes ?_
    refine ⟨rfl, rfl, by omega, fun r hr => ?_, .inl ?_⟩
    · walk_at "d"
      exact ⟨rfl, rfl⟩
    rw [show x.st.map (fun r => PyData.str r.n) = (x.st.map Rope.n).map .str by rw [List.map_map]; rfl]
    walk_at "d"
    refine dR_eqS w4 w1 ?_
    walk_at "d"
    refine ifF (by decide +kernel) ?_
    walk_at "d"
    refine dR_eqS w4 w2 ?_
    walk_at "d"
    refine ifF (by decide +kernel) ?_
    walk_at "d"
    refine dE_ty ?_
    walk_at "d"
    refine dC_isi (kit_str d) ?_
    walk_at "d"
    have e0 : refOf x (.tgt d e) = tgtR x d e := rfl
    rw [e0] at p
    unfold tgtR at p
    by_cases h1 : isNm x.st d = true
    · rw [if_neg (by rw [h1]; decide)] at p
      obtain ⟨r, hr1, rfl⟩ := nm_str h1
      simp only at p
      rw [slk_is hx.nd hr1] at p
      refine ifF rfl ?_
      walk_at "d"
      refine dR_no (ns := x.st.map Rope.n) (.inl rfl) ?_
      walk_at "d"
      rw [nm_has]
      refine ifF (by rw [h1]; rfl) ?_
      walk_at "d"
      refine dR_eqS w4 w3 ?_
      walk_at "d"
      refine ifF (by decide +kernel) ?_
      refine ifF rfl ?_
      walk_at "d"
      refine dE_wg rfl ho lk_ropes ?_
      walk_at "d"
      obtain ⟨j, hj, hjm⟩ := name_at hx.nd hr1
      refine dE_idx ?_
      walk_at "d"
      refine ⟨.str r.n, j, .str r.n, rfl, ?_, Shp.lay (hx.lay hr1), ?_, ?_, ?_, ?_⟩
      · exact (Shp.list (n := 0) fun d hd => by
          obtain ⟨y, hy, rfl⟩ := List.mem_map.mp hd
          obtain ⟨s, hs, rfl⟩ := List.mem_map.mp hy
          exact .str (hx.lay hs)).shaped
      · rw [List.getElem?_map, List.getElem?_map, hj]; rfl
      · exact beq_iff_eq.mpr rfl
      · intro m z hm hz
        rw [List.getElem?_map, List.getElem?_map] at hz
        cases q : x.st[m]? with
        | none => rw [q] at hz; cases hz
        | some s =>
          rw [q] at hz
          cases hz
          exact beq_eq_false_iff_ne.mpr (hjm m s hm q)
      refine dR_ixL (ds := x.st.map Rope.d) (d := r.d) (.inl rfl) (atI_nth5 (by rw [List.getElem?_map, hj]; rfl) rfl) ?_
      walk_at "d"
      refine dR_eqS w4 w4 ?_
      walk_at "d"
      refine ifT rfl ?_
      walk_at "d"
      refine ⟨e, 1, r.a, rfl, ?_⟩
      walk_at "d"
      refine ifB (fun h2 => ?_) (fun h2 => ?_)
      · walk_at "d"
        rw [if_pos (by simpa using h2)] at p
        exact p
      rw [if_neg (by simpa using h2)] at p
      walk_at "d"
      refine dE_wg rfl ho lk_load ?_
      walk_at "d"
      refine dR_neQ (b := (0, 1)) ?_
      walk_at "d"
      refine ifB (fun h4 => ?_) (fun h4 => ?_)
      · walk_at "d"
        refine dE_wg rfl ho lk_load ?_
        walk_at "d"
        rw [if_pos (by simpa using h4)] at p
        exact p
      · walk_at "d"
        rw [if_neg (by simpa using h4)] at p
        exact p
    · have h1' : isNm x.st d = false := by simpa using h1
      rw [if_pos h1'] at p
      cases d with
      | str n =>
        refine ifF rfl ?_
        walk_at "d"
        refine dR_no (ns := x.st.map Rope.n) (.inl rfl) ?_
        walk_at "d"
        rw [nm_has]
        refine ifT (by rw [h1']; rfl) ?_
        walk_at "d"
        exact p
      | _ =>
        refine ifT rfl ?_
        refine ifT rfl ?_
        walk_at "d"
        exact p
end
end K2
namespace K2
open PySem L2 Sd Ma
local macro_rules | `(tactic| walk_at "d1") => `(tactic| first
  | ((with_reducible refine' dE_var ?dv ?_); (case dv => rfl))
  | with_reducible refine' dE_int ?_
  | with_reducible refine' dE_str ?_
  | with_reducible refine' dE_bl ?_
  | with_reducible refine' dE_non ?_
  | ((with_reducible refine' dE_nt ?dv ?_); (case dv => assumption))
  | with_reducible refine' dE_ref ?_
  | with_reducible refine' dE_op ?_
  | with_reducible refine' dE_un ?_
  | with_reducible refine' dE_cmp ?_
  | with_reducible refine' dE_isN ?_
  | with_reducible refine' dE_notN ?_
  | with_reducible refine' dE_call ?_
  | with_reducible refine' dE_cb ?_
  | with_reducible refine' dE_kw ?_
  | with_reducible refine' dE_tup ?_
  | with_reducible refine' dE_if ?_
  | with_reducible refine' dE_and ?_
  | with_reducible refine' dE_or ?_
  | with_reducible refine' dE_not ?_
  | with_reducible refine' dE_sl ?_
  | with_reducible refine' dO_none ?_
  | with_reducible refine' dO_some ?_
  | with_reducible refine' dA_cons ?_
  | with_reducible refine' dA_nil ?_
  | with_reducible refine' dT_B ?_
  | with_reducible refine' dT_test ?_
  | with_reducible refine' dT_and ?_
  | with_reducible refine' dT_or ?_
  | with_reducible refine' dT_not ?_
  | with_reducible refine' dT_yes ?_
  | with_reducible refine' dR_I0i ?_
  | with_reducible refine' dU_neg ?_
  | ((with_reducible refine' dR_ixT ?dv ?_); (case dv => rfl))
  | with_reducible refine' dS_seq ?_
  | with_reducible refine' dS_next ?_
  | with_reducible refine' dS_ret ?_
  | with_reducible refine' dS_drop ?_
  | with_reducible refine' dS_if ?_
  | with_reducible refine' dS_asg ?_
  | with_reducible refine' dS_par ?_
  | with_reducible refine' dG_name ?_
  | ((with_reducible refine' dG_tup ?dv ?_); (case dv => rfl); (dsimp only [List.map]))
  | with_reducible refine' dGs_cons ?_
  | with_reducible refine' dGs_nil ?_
  | with_reducible refine' dC_abs ?_
  | with_reducible refine' dC_max2 ?_
  | with_reducible refine' dC_min2 ?_
  | with_reducible refine' rtOf.of ?_
  | with_reducible refine' ex_cmp ?_
  | with_reducible refine' ex_bool ?_
  | with_reducible refine' ex_int ?_
  | with_reducible refine' ex_list ?_
  | with_reducible refine' ex_tup ?_
  | with_reducible refine' ex_d ?_
  | with_reducible refine' ex_m ?_
  | with_reducible refine' ex_par ?_
  | with_reducible refine' ex_rg1 ?_
  | with_reducible refine' ex_rg2 ?_
  | ((with_reducible refine' ex_dat ?dv ?dw ?_); (case dv => rfl); (case dw => exact Nat.le_of_ble_eq_true rfl))
  | ((fail_if_success (with_reducible show ∃ _, _)); (fail_if_success (with_reducible show _ ∧ _)); refine ⟨_, _, rfl, ?_⟩)
  | ((fail_if_success (with_reducible show ∃ _, _)); (fail_if_success (with_reducible show _ ∧ _)); refine ⟨_, rfl, ?_⟩)
  | fail)
local macro_rules | `(tactic| walk_at "d") => `(tactic| repeat' walk_at "d1")
local macro_rules | `(tactic| walk_at "e1") => `(tactic| first
  | ((with_reducible refine' dE_var ?dv ?_); (case dv => rfl))
  | with_reducible refine' dE_int ?_
  | with_reducible refine' dE_str ?_
  | with_reducible refine' dE_bl ?_
  | with_reducible refine' dE_non ?_
  | ((with_reducible refine' dE_nt ?dv ?_); (case dv => assumption))
  | with_reducible refine' dE_ref ?_
  | with_reducible refine' dE_op ?_
  | with_reducible refine' dE_un ?_
  | with_reducible refine' dE_cmp ?_
  | with_reducible refine' dE_isN ?_
  | with_reducible refine' dE_notN ?_
  | with_reducible refine' dE_call ?_
  | with_reducible refine' dE_cb ?_
  | with_reducible refine' dE_kw ?_
  | with_reducible refine' dE_tup ?_
  | with_reducible refine' dE_if ?_
  | with_reducible refine' dE_and ?_
  | with_reducible refine' dE_or ?_
  | with_reducible refine' dE_not ?_
  | with_reducible refine' dE_sl ?_
  | with_reducible refine' dO_none ?_
  | with_reducible refine' dO_some ?_
  | with_reducible refine' dA_cons ?_
  | with_reducible refine' dA_nil ?_
  | with_reducible refine' dT_B ?_
  | with_reducible refine' dT_test ?_
  | with_reducible refine' dT_and ?_
  | with_reducible refine' dT_or ?_
  | with_reducible refine' dT_not ?_
  | with_reducible refine' dT_yes ?_
  | with_reducible refine' dR_I0i ?_
  | with_reducible refine' dU_neg ?_
  | ((with_reducible refine' dR_ixT ?dv ?_); (case dv => rfl))
  | with_reducible refine' dS_next ?_
  | with_reducible refine' dS_ret ?_
  | with_reducible refine' dS_drop ?_
  | with_reducible refine' dS_if ?_
  | with_reducible refine' dS_asg ?_
  | with_reducible refine' dS_par ?_
  | with_reducible refine' dG_name ?_
  | ((with_reducible refine' dG_tup ?dv ?_); (case dv => rfl); (dsimp only [List.map]))
  | with_reducible refine' dGs_cons ?_
  | with_reducible refine' dGs_nil ?_
  | with_reducible refine' dC_abs ?_
  | with_reducible refine' dC_max2 ?_
  | with_reducible refine' dC_min2 ?_
  | with_reducible refine' rtOf.of ?_
  | with_reducible refine' ex_cmp ?_
  | with_reducible refine' ex_bool ?_
  | with_reducible refine' ex_int ?_
  | with_reducible refine' ex_list ?_
  | with_reducible refine' ex_tup ?_
  | with_reducible refine' ex_d ?_
  | with_reducible refine' ex_m ?_
  | with_reducible refine' ex_par ?_
  | with_reducible refine' ex_rg1 ?_
  | with_reducible refine' ex_rg2 ?_
  | ((with_reducible refine' ex_dat ?dv ?dw ?_); (case dv => rfl); (case dw => exact Nat.le_of_ble_eq_true rfl))
  | ((fail_if_success (with_reducible show ∃ _, _)); (fail_if_success (with_reducible show _ ∧ _)); refine ⟨_, _, rfl, ?_⟩)
  | ((fail_if_success (with_reducible show ∃ _, _)); (fail_if_success (with_reducible show _ ∧ _)); refine ⟨_, rfl, ?_⟩)
  | fail)
local macro_rules | `(tactic| walk_at "e") => `(tactic| repeat' walk_at "e1")
theorem strs_neq_nil (ns : List Str) : PyData.eqv (nl ns) (.list []) = ns.isEmpty := by
  cases ns <;> rfl
theorem Wo.bw {x : WS} (h : Wo x) : Bw x.st := ⟨h.ok, fun r hr => h.lay hr⟩
theorem Wo.glay {x : WS} (h : Wo x) : ∀ n ∈ x.gone, PyData.canLay0 (.str n) = true := fun n hn => by
  obtain ⟨r, hr, rfl⟩ := List.mem_map.mp (h.brk.sub n hn)
  exact h.lay hr
section
variable {P : Program} {w : World} {K : PySem.W.Frag} {mg : Str → Option Value} {base : Heap} {f : Addr} {fd : FuncData}
def S_done : SpD := fun rs M P => ∃ (wd g : Addr) (x : WS) (dd : Dd), rs = [.m wd, .d dd.d] ∧ DAt M wd g x ∧ Wo x ∧ Srt x ∧ x.story.length ≤ 1000 ∧ dd.Ok ∧ refOf x dd = none ∧ P (.d (retOf x dd)) (dput M wd g (doneW x dd))
abbrev s_law_done : Stmt := topS 66
theorem sc_law_done : FnScope ["w", "deed", "word", "later", "rope", "found", "broken", "fresh", "fallen", "name"] ["w", "deed"] (defScope s_law_done) := ⟨rfl, rfl, rfl, by decide +kernel, rfl, by decide +kernel, by decide +kernel⟩
theorem ok_law_done (T : Txt mg) (F : Fun K "_law_done" "_law_done" s_law_done f fd) (c_law_waves : Has P w K mg base 3 "_law_waves" ["bundle", "broken", "load"] S_lwaves) : FnOk P w K mg base CX0 4 f fd ["w", "deed"] (spOf K S_done) := by
  refine ok_of F sc_law_done (fun rs M P h => by obtain ⟨a, b, c, d, rfl, _⟩ := h; rfl) fun cdv A outer s H E hr => ⟨_, (pss_cons (ps_set (i := 2) sc_law_done.nd rfl (Or.inl rfl) (pe_ix (kix_tup K) (pv 1) pe_int (fun _ _ => rfl)))
      (pss_cons (ps_if (pt_cmpR (kop_eqD K hr.units) (pv 2) pe_str (nomark _)) (pss_one (ps_dput (Nat.lt_of_le_of_lt (Nat.add_le_add_left (by decide) _) hr.units) (pv 0) pe_str (pe_callB (kcr_sortedD K hr) (by rfl) T.sorted (by decide +kernel) (pa_cons (pe_op op_cat (pe_dget (Nat.lt_of_le_of_lt (Nat.add_le_add_left (by decide) _) hr.units) (pv 0) pe_str (fun _ _ => rfl)) (pe_lst (pa_cons (pe_ix (kix_tup K) (pv 1) pe_int (fun _ _ => rfl)) pa_nil))) pa_nil)) (by rfl))) (pss_one (ps_if (pt_cmpR (kop_eqD K hr.units) (pv 2) pe_str (nomark _)) (pss_one (ps_dput (Nat.lt_of_le_of_lt (Nat.add_le_add_left (by decide) _) hr.units) (pv 0) pe_str (pe_lc (own := [("name", 9)]) (by rfl) sc_law_done.nd (kpi_list K (pe_dget (Nat.lt_of_le_of_lt (Nat.add_le_add_left (by decide) _) hr.units) (pv 0) pe_str (fun _ _ => rfl))) (blkOk_by (N := ["w", "deed", "word", "later", "rope", "found", "broken", "fresh", "fallen", "name"]) (sc := defScope s_law_done) (own := [("name", 9)]) (by decide +kernel)) (fun _ _ _ _ _ => (pg_name (i := 9) sc_law_done.nd rfl (Or.inl rfl))) (fun _ _ _ _ _ => (pts_one (pt_cmpR (kop_neD K hr.units) (pv 9) (pe_ix (kix_tup K) (pv 1) pe_int (fun _ _ => rfl)) (nomark _)))) (fun _ _ _ _ _ => (pv 9))) (by rfl))) (pss_one (ps_if (pt_cmpR (kop_eqD K hr.units) (pv 2) pe_str (nomark _)) (pss_cons (ps_set (i := 3) sc_law_done.nd rfl (Or.inl rfl) (pe_lst pa_nil))
      (pss_cons (ps_for PassesOwn.never rfl (kpi_list K (pe_dget (Nat.lt_of_le_of_lt (Nat.add_le_add_left (by decide) _) hr.units) (pv 0) pe_str (fun _ _ => rfl))) (pg_name (i := 4) sc_law_done.nd rfl (Or.inl rfl)) (pss_one (ps_expr (kpe_bm K (pe_bm PySem.F.plainAttrs_list PySem.F.slot_list_append PySem.F.type_list_append mt_append (pv 3) (pa_cons (pe_ifExp (pt_cmpR (kop_eqD K hr.units) (pe_ix (kix_tup K) (pv 4) pe_int (fun _ _ => rfl)) (pe_ix (kix_tup K) (pv 1) pe_int (fun _ _ => rfl)) (nomark _)) (pe_op (kop_catT K) (pe_tup (pa_cons (pe_ix (kix_tup K) (pv 4) pe_int (fun _ _ => rfl)) (pa_cons (pe_op op_sub (pe_ix (kix_tup K) (pv 4) pe_int (fun _ _ => rfl)) (pe_ix (kix_tup K) (pv 1) pe_int (fun _ _ => rfl))) pa_nil))) (pe_slice (ksl_tup K) (pv 4) (po_some pe_int) po_none)) (pv 4)) pa_nil))))))
      (pss_one (ps_dput (Nat.lt_of_le_of_lt (Nat.add_le_add_left (by decide) _) hr.units) (pv 0) pe_str (pv 3) (by rfl))))) (pss_cons (ps_asg (pe_callH' c_law_waves (hr.mono (by first | decide | omega)) rfl (pa_cons (pe_dget (Nat.lt_of_le_of_lt (Nat.add_le_add_left (by decide) _) hr.units) (pv 0) pe_str (fun _ _ => rfl)) (pa_cons (pe_dget (Nat.lt_of_le_of_lt (Nat.add_le_add_left (by decide) _) hr.units) (pv 0) pe_str (fun _ _ => rfl)) (pa_cons (pe_ix (kix_tup K) (pv 1) pe_int (fun _ _ => rfl)) pa_nil)))) (kpg_tup K (n := 2) rfl (pgs_cons (pg_name (i := 5) sc_law_done.nd rfl (Or.inl rfl)) (pgs_cons (pg_name (i := 6) sc_law_done.nd rfl (Or.inl rfl)) pgs_nil))))
      (pss_cons (ps_setLc (i := 7) (own := [("name", 9)]) (by rfl) sc_law_done.nd rfl rfl (sw_true rfl rfl rfl (by decide +kernel)) (kpi_tup K (pv 6)) (blkOk_by (N := ["w", "deed", "word", "later", "rope", "found", "broken", "fresh", "fallen", "name"]) (sc := defScope s_law_done) (own := [("name", 9)]) (by decide +kernel)) (fun _ _ _ _ _ => (pg_name (i := 9) sc_law_done.nd rfl (Or.inl rfl))) (fun _ _ _ _ _ => (pts_one (pt_cmpR (kop_notIn K) (pv 9) (pe_dget (Nat.lt_of_le_of_lt (Nat.add_le_add_left (by decide) _) hr.units) (pv 0) pe_str (fun _ _ => rfl)) (by rfl)))) (fun _ _ _ _ _ => (pv 9)))
      (pss_cons (ps_if (pt_cmpR (kop_neD K hr.units) (pv 7) (pe_lst pa_nil) (nomark _)) (pss_one (ps_expr (kpe_bm K (pe_bm PySem.F.plainAttrs_list PySem.F.slot_list_append PySem.F.type_list_append mt_append (pe_dget (Nat.lt_of_le_of_lt (Nat.add_le_add_left (by decide) _) hr.units) (pv 0) pe_str (fun _ _ => rfl)) (pa_cons (pe_tup (pa_cons (pe_ix (kix_tup K) (pv 1) pe_int (fun _ _ => rfl)) (pa_cons (pe_callTy (kcall_tuple K) (by rfl) T.tuple (by decide +kernel) (pa_cons (pv 7) pa_nil)) pa_nil))) pa_nil))))) pss_nil)
      (pss_cons (ps_dput (Nat.lt_of_le_of_lt (Nat.add_le_add_left (by decide) _) hr.units) (pv 0) pe_str (pe_callTy (kcall_list K) (by rfl) T.list (by decide +kernel) (pa_cons (pv 6) pa_nil)) (by rfl))
      (pss_cons (ps_set (i := 8) sc_law_done.nd rfl (Or.inl rfl) (pe_and (pe_cmp (pc_eqI (pe_callB (kcall_len K) (by rfl) T.len (by decide +kernel) (pa_cons (pv 6) pa_nil)) (pe_callB (kcall_len K) (by rfl) T.len (by decide +kernel) (pa_cons (pe_dget (Nat.lt_of_le_of_lt (Nat.add_le_add_left (by decide) _) hr.units) (pv 0) pe_str (fun _ _ => rfl)) pa_nil)))) (pe_one (pe_cmpR (kop_neD K hr.units) (pe_ix (kix_tup K) (pv 1) pe_int (fun _ _ => rfl)) (pe_tup (pa_cons pe_int (pa_cons pe_int pa_nil))) (nomark _)))))
      (pss_cons (ps_dput (Nat.lt_of_le_of_lt (Nat.add_le_add_left (by decide) _) hr.units) (pv 0) pe_str (pe_ifExp (pt_val (pv 8)) (pe_tup (pa_cons pe_int (pa_cons pe_int pa_nil))) (pe_ix (kix_tup K) (pv 1) pe_int (fun _ _ => rfl))) (by rfl))
      (pss_cons (ps_dput (Nat.lt_of_le_of_lt (Nat.add_le_add_left (by decide) _) hr.units) (pv 0) pe_str (pe_op op_add (pe_dget (Nat.lt_of_le_of_lt (Nat.add_le_add_left (by decide) _) hr.units) (pv 0) pe_str (fun _ _ => rfl)) (pe_callTy call_int1 (by rfl) T.int (by decide +kernel) (pa_cons (pv 8) pa_nil))) (by rfl))
      (pss_one (ps_ret (pv 5)))))))))))))))
      (pss_one (ps_ret pe_non)))), fun rs M P h => ?_⟩
  obtain ⟨wd, g, x, dd, rfl, hd, hx, hs, hst, ok, hn, p⟩ := h
  obtain ⟨M, rfl⟩ := hd.ex
  rw [dput_dput] at p
  obtain ⟨w1, w2, w3, w4⟩ := word_lay
  have hl6 := hx.len
  cases dd with
  | put d =>
    obtain ⟨r, rfl, _⟩ := put_none hn
    unfold Dd.d
    walk_at "d"
    refine dR_eqS w1 w1 ?_
    walk_at "d"
    refine ifT rfl ?_
    refine dS_wp rfl ?_
    walk_at "d"
    refine dE_wg rfl dput_o lk_ropes ?_
    refine dE_lst ?_
    walk_at "d"
    refine dR_cat (.inl rfl) (.inl rfl) (by simp only [List.length_map, List.length_cons, List.length_nil]; omega) ?_
    walk_at "d"
    rw [show x.st.map Rope.d ++ [r.d] = (x.st ++ [r]).map Rope.d by rw [List.map_append]; rfl]
    refine dC_sortedD (.inl rfl) (fun d hd d' hd' => ?_) (.inl fun d hd => ?_) (fun d hd => ?_) ?_
    · obtain ⟨r1, _, rfl⟩ := List.mem_map.mp hd
      obtain ⟨r2, _, rfl⟩ := List.mem_map.mp hd'
      simp [PySem.W.alike, PySem.W.alikeAll]
    · obtain ⟨r1, _, rfl⟩ := List.mem_map.mp hd
      exact ⟨_, _, rfl⟩
    · obtain ⟨r1, _, rfl⟩ := List.mem_map.mp hd
      exact Nat.le_of_ble_eq_true rfl
    rw [sortR_dat]
    refine ⟨_, _, dput_o, lk_ropes, wps_len, ?_⟩
    rw [d_ropes]
    walk_at "d"
    exact p
  | spl d =>
    obtain ⟨r, hr1, rfl, _⟩ := spl_none hn
    unfold Dd.d
    walk_at "d"
    refine dR_eqS w3 w1 ?_
    walk_at "d"
    refine ifF (by decide +kernel) ?_
    walk_at "d"
    refine dR_eqS w3 w3 ?_
    walk_at "d"
    refine ifT rfl ?_
    refine dS_wp rfl ?_
    refine dE_lcLf (enc := PyData.str) (out := PyData.str) (pt := fun m => !(m == r.n)) (xs := x.gone) ?_
    refine dE_wg rfl dput_o lk_gone ?_
    refine ⟨rfl, rfl, by have := hx.glen; omega, fun m hm => ?_, fun m hm h => ?_, .inl ?_⟩
    · walk_at "d"
      refine dR_ne (d := .str m) (e := .str r.n) .of .of (Shp.lay (hx.glay m hm)) (Shp.lay (hx.lay hr1)) ?_
      walk_at "d"
      exact ⟨rfl, rfl⟩
    · walk_at "d"
      exact ⟨rfl, rfl⟩
    refine ⟨_, _, dput_o, lk_gone, wps_len, ?_⟩
    rw [d_gone]
    walk_at "d"
    exact p
  | tgt d e =>
    obtain ⟨r, hr1, rfl, i, rfl, _⟩ := tgt_none hn
    unfold Dd.d
    walk_at "d"
    refine dR_eqS w4 w1 ?_
    walk_at "d"
    refine ifF (by decide +kernel) ?_
    walk_at "d"
    refine dR_eqS w4 w3 ?_
    walk_at "d"
    refine ifF (by decide +kernel) ?_
    walk_at "d"
    refine dR_eqS w4 w4 ?_
    walk_at "d"
    refine ifT rfl ?_
    walk_at "d"
    refine dE_lstM ?_
    walk_at "d"
    intro a ha
    have hag : a ≠ g := by rintro rfl; rw [dput_l] at ha; cases ha
    walk_at "d"
    refine dS_forL ?_
    refine dE_wg rfl dput_o lk_ropes ?_
    refine ⟨_, rfl, fun j δ M' => ∃ (x4 x5 x6 x7 x8 x9 : Option SV), δ = [some (.m wd), some (.d (.tuple [.str "tighten", .str r.n, .int i])), some (.d (.str "tighten")), some (.m a), x4, x5, x6, x7, x8, x9] ∧ M' = mset (dput M wd g x) a (((x.st.take j).map fun s => if (s.n == r.n) = true then (⟨s.n, s.a - i, s.b, s.c⟩ : Rope) else s).map Rope.d), ⟨_, _, _, _, _, _, rfl, rfl⟩, fun j z δ M' hz hI => ?_, fun δ M' hI => ?_⟩
    · obtain ⟨x4, x5, x6, x7, x8, x9, rfl, rfl⟩ := hI
      obtain ⟨s, hs1, rfl⟩ := getElem?_map_some hz
      have hsm := List.mem_of_getElem? hs1
      have hjl : j < x.st.length := (List.getElem?_eq_some_iff.mp hs1).1
      have ht : x.st.take (j + 1) = x.st.take j ++ [s] := by rw [List.take_succ, hs1]; rfl
      walk_at "d"
      refine dE_app ?_
      walk_at "d"
      refine ⟨⟨_, mset_same⟩, ?_⟩
      walk_at "d"
      refine dR_eqS (hx.lay hsm) (hx.lay hr1) ?_
      walk_at "d"
      refine ifB (fun h => ?_) (fun h => ?_)
      · walk_at "d"
        refine dU_slT (ds := [.str s.n, .int s.a, .int s.b, .int s.c]) (by simp only [List.length_cons, List.length_nil]; decide) ?_
        rw [show cutD [.str s.n, .int s.a, .int s.b, .int s.c] (some 2) none = [.int s.b, .int s.c] from rfl]
        walk_at "d"
        refine dR_catT (by simp) (by simp) (by simp) ?_
        refine ⟨_, _, rfl, mset_same, by rw [List.length_map, List.length_map, List.length_take]; omega, ?_⟩
        rw [mset_mset]
        walk_at "d"
        refine ⟨_, _, _, _, _, _, rfl, ?_⟩
        rw [ht, List.map_append, List.map_append, List.map_singleton, List.map_singleton, if_pos h]
        rfl
      · walk_at "d"
        refine ⟨_, _, rfl, mset_same, by rw [List.length_map, List.length_map, List.length_take]; omega, ?_⟩
        rw [mset_mset]
        walk_at "d"
        refine ⟨_, _, _, _, _, _, rfl, ?_⟩
        rw [ht, List.map_append, List.map_append, List.map_singleton, List.map_singleton, if_neg (by rw [h]; decide)]
    · obtain ⟨x4, x5, x6, x7, x8, x9, rfl, rfl⟩ := hI
      rw [List.length_map, List.take_length]
      refine dS_wp rfl ?_
      refine dE_varF rfl mset_same ?_
      rw [mdel_mset ha]
      refine ⟨_, _, dput_o, lk_ropes, wps_len, ?_⟩
      rw [d_ropes]
      walk_at "d"
      exact p
  | hang d =>
    obtain ⟨q, rfl, hq⟩ := hng_none hn
    have hL := Gd.lok (q := q) ok hq
    have p' : P (.d (.list ((wvs x q).map nm))) (dput M wd g (hngW x q)) := p
    rw [hng_is hx hs] at p'
    have hb := Brk.br (q := q) hx.nd hx.brk
    have hbl : (brOf x.st x.gone q).length ≤ 6 := by
      have := nodup_len _ _ hb.nd hb.sub
      rw [List.length_map] at this
      omega
    have hfr := fresh_eq (q := q) hx.nd hx.brk
    have hwf : (sortN (wvs x q).flatten).length ≤ 6 := by
      rw [show sortN (wvs x q).flatten = (brOf x.st x.gone q).filter (fun y => !x.gone.contains y) from hfr.symm]
      exact Nat.le_trans (List.length_filter_le _ _) hbl
    unfold Dd.d
    walk_at "d"
    refine dR_eqS w2 w1 ?_
    walk_at "d"
    refine ifF (by decide +kernel) ?_
    walk_at "d"
    refine dR_eqS w2 w3 ?_
    walk_at "d"
    refine ifF (by decide +kernel) ?_
    walk_at "d"
    refine dR_eqS w2 w4 ?_
    walk_at "d"
    refine ifF (by decide +kernel) ?_
    walk_at "d"
    refine dE_wg rfl dput_o lk_ropes ?_
    walk_at "d"
    refine dE_wg rfl dput_o lk_gone ?_
    walk_at "d"
    refine ⟨x.st, x.gone, q, rfl, hx.bw, by have := hx.glen; omega, hx.glay, hL, ?_⟩
    walk_at "d"
    refine dE_lcTf (enc := PyData.str) (out := PyData.str) (pt := fun y => !x.gone.contains y) (xs := brOf x.st x.gone q) ?_
    walk_at "d"
    refine ⟨rfl, rfl, by omega, fun m hm => ?_, fun m hm h => ?_, .inl ?_⟩
    · walk_at "d"
      refine dE_wg rfl dput_o lk_gone ?_
      refine dR_no (ns := x.gone) (.inl rfl) ?_
      walk_at "d"
      exact ⟨rfl, rfl⟩
    · walk_at "d"
      exact ⟨rfl, rfl⟩
    rw [hfr]
    have rest : ∀ y : WS, y.st = x.st → y.wt = x.wt → y.gone = x.gone → y.falls = x.falls → y.story = (if sortN (wvs x q).flatten = [] then x.story else x.story ++ [(q, sortN (wvs x q).flatten)]) → dput M wd g { st := y.st, gone := brOf x.st x.gone q, wt := if ((brOf x.st x.gone q).length = x.st.length ∧ q ≠ (0, 1)) then (0, 1) else q, story := y.story, falls := y.falls + if ((brOf x.st x.gone q).length = x.st.length ∧ q ≠ (0, 1)) then 1 else 0 } = dput M wd g { st := x.st, gone := brOf x.st x.gone q, wt := if ((brOf x.st x.gone q).length = x.st.length ∧ q ≠ (0, 1)) then (0, 1) else q, story := if sortN (wvs x q).flatten = [] then x.story else x.story ++ [(q, sortN (wvs x q).flatten)], falls := x.falls + if ((brOf x.st x.gone q).length = x.st.length ∧ q ≠ (0, 1)) then 1 else 0 } := fun y e1 e2 e3 e4 e5 => by rw [e1, e4, e5]
    generalize hz : sortN (wvs x q).flatten = zs at *
    walk_at "e"
    refine dS_cut (fun δ' M' => ∃ (x2 x3 x4 x8 x9 : Option SV) (y : WS), δ' = [some (.m wd), some (.d (.tuple [.str "hang", fr q])), x2, x3, x4, some (.d (.list ((wvs x q).map nm))), some (.d (nm (brOf x.st x.gone q))), some (.d (nl zs)), x8, x9] ∧ M' = dput M wd g y ∧ y.st = x.st ∧ y.wt = x.wt ∧ y.gone = x.gone ∧ y.falls = x.falls ∧ y.story = (if zs = [] then x.story else x.story ++ [(q, zs)])) ?_ ?_
    · walk_at "d"
      refine dE_lst ?_
      walk_at "d"
      refine dR_ne (d := nl zs) (e := .list []) .of .of (Shp.list (n := 0) fun d hd => ?_).shaped rfl ?_
      · obtain ⟨y, hy, rfl⟩ := List.mem_map.mp hd
        refine .str ?_
        rw [← hz] at hy
        obtain ⟨s, hs1, rfl⟩ := List.mem_map.mp (mem_waves _ _ (Nat.le_refl _) y (mem_sortN.mp hy))
        exact hx.lay (List.mem_filter.mp hs1).1
      rw [strs_neq_nil]
      walk_at "d"
      refine ifB (fun h => ?_) (fun h => ?_)
      · have h0 : zs ≠ [] := by rintro rfl; cases h
        walk_at "d"
        refine dE_app ?_
        refine dE_wg rfl dput_o lk_log ?_
        refine ⟨g, rfl, ⟨_, dput_l⟩, ?_⟩
        walk_at "d"
        refine dC_tuple (.inl rfl) ?_
        walk_at "d"
        refine ⟨rowD (q, zs), _, rfl, dput_l, by rw [List.length_map]; omega, ?_⟩
        rw [show x.story.map rowD ++ [rowD (q, zs)] = (x.story ++ [(q, zs)]).map rowD by rw [List.map_append]; rfl, mset_d]
        exact ⟨_, _, _, _, _, _, rfl, rfl, rfl, rfl, rfl, rfl, by rw [if_neg h0]⟩
      · have h0 : zs = [] := by
          cases zs with
          | nil => rfl
          | cons z zs => cases h
        exact dS_next ⟨_, _, _, _, _, x, rfl, rfl, rfl, rfl, rfl, rfl, by rw [if_pos h0]⟩
    · rintro δ' M' ⟨x2, x3, x4, x8, x9, y, rfl, rfl, e1, e2, e3, e4, e5⟩
      have fin := rest y e1 e2 e3 e4 e5
      rw [← fin] at p'
      refine dS_seq ?_
      refine dS_wp rfl ?_
      walk_at "d"
      refine dC_list (.inr (.inl rfl)) ?_
      refine ⟨_, _, dput_o, lk_gone, wps_len, ?_⟩
      rw [d_gone]
      generalize hB : brOf x.st x.gone q = bs at *
      have tail : ∀ (c : Bool), (c = true ↔ (bs.length = x.st.length ∧ q ≠ (0, 1))) → ∀ (M2 : Mem), M2 = dput M wd g { y with gone := bs, wt := if (bs.length = x.st.length ∧ q ≠ (0, 1)) then (0, 1) else q, falls := y.falls + (if c = true then 1 else 0) } → P (.d (.list ((wvs x q).map nm))) M2 := fun c hc M2 e => by
        rw [e]
        by_cases k : c = true
        · rw [if_pos k]
          have k2 := hc.mp k
          rw [if_pos k2, if_pos k2] at p'
          rw [if_pos k2]
          exact p'
        · rw [if_neg k]
          have k2 := fun z => k (hc.mpr z)
          rw [if_neg k2, if_neg k2] at p'
          rw [if_neg k2]
          exact p'
      walk_at "e"
      refine dS_cut (fun δ' M' => ∃ (c : Bool) (x2 x3 x4 x7 x9 : Option SV), δ' = [some (.m wd), some (.d (.tuple [.str "hang", fr q])), x2, x3, x4, some (.d (.list ((wvs x q).map nm))), some (.d (nm bs)), x7, some (.d (.bool c)), x9] ∧ M' = dput M wd g { y with gone := bs } ∧ (c = true ↔ (bs.length = x.st.length ∧ q ≠ (0, 1)))) ?_ ?_
      · walk_at "d"
        refine dC_len (ds := bs.map .str) (.inr (.inl rfl)) ?_
        walk_at "d"
        refine dE_wg rfl dput_o lk_ropes ?_
        walk_at "d"
        refine dC_len (ds := y.st.map Rope.d) (.inl rfl) ?_
        walk_at "d"
        simp only [List.length_map, e1]
        refine ifB (fun h => ?_) (fun h => ?_)
        · have h' : bs.length = x.st.length := by have := of_decide_eq_true h; omega
          walk_at "d"
          refine dR_neQ (b := (0, 1)) ?_
          walk_at "d"
          exact ⟨_, _, _, _, _, _, rfl, rfl, by simp [h']⟩
        · have h' : ¬ bs.length = x.st.length := by have := of_decide_eq_false h; omega
          walk_at "d"
          exact ⟨_, _, _, _, _, _, rfl, rfl, by simp [h']⟩
      · rintro δ' M' ⟨c, x2, x3, x4, x7, x9, rfl, rfl, hc⟩
        refine dS_seq ?_
        refine dS_wp rfl ?_
        walk_at "d"
        refine ifB (fun k => ?_) (fun k => ?_)
        · walk_at "d"
          refine ⟨_, _, dput_o, lk_load, wps_len, ?_⟩
          rw [show (SV.d (.tuple [.int 0, .int 1])) = .d (fr (0, 1)) from rfl, d_load]
          refine dS_seq ?_
          refine dS_wp rfl ?_
          walk_at "d"
          refine dE_wg rfl dput_o lk_falls ?_
          walk_at "d"
          refine dC_intB ?_
          walk_at "d"
          refine ⟨_, _, dput_o, lk_falls, wps_len, ?_⟩
          rw [d_falls]
          walk_at "d"
          exact tail c hc _ (by rw [if_pos (hc.mp k)])
        · walk_at "d"
          refine ⟨_, _, dput_o, lk_load, wps_len, ?_⟩
          rw [d_load]
          refine dS_seq ?_
          refine dS_wp rfl ?_
          walk_at "d"
          refine dE_wg rfl dput_o lk_falls ?_
          walk_at "d"
          refine dC_intB ?_
          walk_at "d"
          refine ⟨_, _, dput_o, lk_falls, wps_len, ?_⟩
          rw [d_falls]
          walk_at "d"
          have k2 : ¬ (bs.length = x.st.length ∧ q ≠ (0, 1)) := fun z => by rw [hc.mpr z] at k; cases k
          exact tail c hc _ (by rw [if_neg k2])
end
end K2
namespace K2
open PySem L2 Sd Ma
local macro_rules | `(tactic| walk_at "d1") => `(tactic| first
  | ((with_reducible refine' dE_var ?dv ?_); (case dv => rfl))
  | with_reducible refine' dE_int ?_
  | with_reducible refine' dE_str ?_
  | with_reducible refine' dE_bl ?_
  | with_reducible refine' dE_non ?_
  | ((with_reducible refine' dE_nt ?dv ?_); (case dv => assumption))
  | with_reducible refine' dE_ref ?_
  | with_reducible refine' dE_op ?_
  | with_reducible refine' dE_un ?_
  | with_reducible refine' dE_cmp ?_
  | with_reducible refine' dE_isN ?_
  | with_reducible refine' dE_notN ?_
  | with_reducible refine' dE_call ?_
  | with_reducible refine' dE_cb ?_
  | with_reducible refine' dE_kw ?_
  | with_reducible refine' dE_tup ?_
  | with_reducible refine' dE_if ?_
  | with_reducible refine' dE_and ?_
  | with_reducible refine' dE_or ?_
  | with_reducible refine' dE_not ?_
  | with_reducible refine' dE_sl ?_
  | with_reducible refine' dO_none ?_
  | with_reducible refine' dO_some ?_
  | with_reducible refine' dA_cons ?_
  | with_reducible refine' dA_nil ?_
  | with_reducible refine' dT_B ?_
  | with_reducible refine' dT_test ?_
  | with_reducible refine' dT_and ?_
  | with_reducible refine' dT_or ?_
  | with_reducible refine' dT_not ?_
  | with_reducible refine' dT_yes ?_
  | with_reducible refine' dR_I0i ?_
  | with_reducible refine' dU_neg ?_
  | ((with_reducible refine' dR_ixT ?dv ?_); (case dv => rfl))
  | with_reducible refine' dS_seq ?_
  | with_reducible refine' dS_next ?_
  | with_reducible refine' dS_ret ?_
  | with_reducible refine' dS_drop ?_
  | with_reducible refine' dS_if ?_
  | with_reducible refine' dS_asg ?_
  | with_reducible refine' dS_par ?_
  | with_reducible refine' dG_name ?_
  | ((with_reducible refine' dG_tup ?dv ?_); (case dv => rfl); (dsimp only [List.map]))
  | with_reducible refine' dGs_cons ?_
  | with_reducible refine' dGs_nil ?_
  | with_reducible refine' dC_abs ?_
  | with_reducible refine' dC_max2 ?_
  | with_reducible refine' dC_min2 ?_
  | with_reducible refine' rtOf.of ?_
  | with_reducible refine' ex_cmp ?_
  | with_reducible refine' ex_bool ?_
  | with_reducible refine' ex_int ?_
  | with_reducible refine' ex_list ?_
  | with_reducible refine' ex_tup ?_
  | with_reducible refine' ex_d ?_
  | with_reducible refine' ex_m ?_
  | with_reducible refine' ex_par ?_
  | with_reducible refine' ex_rg1 ?_
  | with_reducible refine' ex_rg2 ?_
  | ((with_reducible refine' ex_dat ?dv ?dw ?_); (case dv => rfl); (case dw => exact Nat.le_of_ble_eq_true rfl))
  | ((fail_if_success (with_reducible show ∃ _, _)); (fail_if_success (with_reducible show _ ∧ _)); refine ⟨_, _, rfl, ?_⟩)
  | ((fail_if_success (with_reducible show ∃ _, _)); (fail_if_success (with_reducible show _ ∧ _)); refine ⟨_, rfl, ?_⟩)
  | fail)
local macro_rules | `(tactic| walk_at "d") => `(tactic| repeat' walk_at "d1")
local macro_rules | `(tactic| walk_at "e1") => `(tactic| first
  | ((with_reducible refine' dE_var ?dv ?_); (case dv => rfl))
  | with_reducible refine' dE_int ?_
  | with_reducible refine' dE_str ?_
  | with_reducible refine' dE_bl ?_
  | with_reducible refine' dE_non ?_
  | ((with_reducible refine' dE_nt ?dv ?_); (case dv => assumption))
  | with_reducible refine' dE_ref ?_
  | with_reducible refine' dE_op ?_
  | with_reducible refine' dE_un ?_
  | with_reducible refine' dE_cmp ?_
  | with_reducible refine' dE_isN ?_
  | with_reducible refine' dE_notN ?_
  | with_reducible refine' dE_call ?_
  | with_reducible refine' dE_cb ?_
  | with_reducible refine' dE_kw ?_
  | with_reducible refine' dE_tup ?_
  | with_reducible refine' dE_if ?_
  | with_reducible refine' dE_and ?_
  | with_reducible refine' dE_or ?_
  | with_reducible refine' dE_not ?_
  | with_reducible refine' dE_sl ?_
  | with_reducible refine' dO_none ?_
  | with_reducible refine' dO_some ?_
  | with_reducible refine' dA_cons ?_
  | with_reducible refine' dA_nil ?_
  | with_reducible refine' dT_B ?_
  | with_reducible refine' dT_test ?_
  | with_reducible refine' dT_and ?_
  | with_reducible refine' dT_or ?_
  | with_reducible refine' dT_not ?_
  | with_reducible refine' dT_yes ?_
  | with_reducible refine' dR_I0i ?_
  | with_reducible refine' dU_neg ?_
  | ((with_reducible refine' dR_ixT ?dv ?_); (case dv => rfl))
  | with_reducible refine' dS_next ?_
  | with_reducible refine' dS_ret ?_
  | with_reducible refine' dS_drop ?_
  | with_reducible refine' dS_if ?_
  | with_reducible refine' dS_asg ?_
  | with_reducible refine' dS_par ?_
  | with_reducible refine' dG_name ?_
  | ((with_reducible refine' dG_tup ?dv ?_); (case dv => rfl); (dsimp only [List.map]))
  | with_reducible refine' dGs_cons ?_
  | with_reducible refine' dGs_nil ?_
  | with_reducible refine' dC_abs ?_
  | with_reducible refine' dC_max2 ?_
  | with_reducible refine' dC_min2 ?_
  | with_reducible refine' rtOf.of ?_
  | with_reducible refine' ex_cmp ?_
  | with_reducible refine' ex_bool ?_
  | with_reducible refine' ex_int ?_
  | with_reducible refine' ex_list ?_
  | with_reducible refine' ex_tup ?_
  | with_reducible refine' ex_d ?_
  | with_reducible refine' ex_m ?_
  | with_reducible refine' ex_par ?_
  | with_reducible refine' ex_rg1 ?_
  | with_reducible refine' ex_rg2 ?_
  | ((with_reducible refine' ex_dat ?dv ?dw ?_); (case dv => rfl); (case dw => exact Nat.le_of_ble_eq_true rfl))
  | ((fail_if_success (with_reducible show ∃ _, _)); (fail_if_success (with_reducible show _ ∧ _)); refine ⟨_, _, rfl, ?_⟩)
  | ((fail_if_success (with_reducible show ∃ _, _)); (fail_if_success (with_reducible show _ ∧ _)); refine ⟨_, rfl, ?_⟩)
  | fail)
local macro_rules | `(tactic| walk_at "e") => `(tactic| repeat' walk_at "e1")
theorem gd_fr' {q : Q} (h : Red q) (h1 : q.1 ≤ 10000000000) (h2 : q.2 ≤ 10000000000) : Gd (fr q) := ⟨0, by decide, .tuple _ (Nat.le_of_ble_eq_true rfl) (fun d hd => by
  simp only [List.mem_cons, List.not_mem_nil, or_false] at hd
  rcases hd with rfl | rfl
  · exact .int _ ((sz_lt (n := 60) h.p0 (by omega)).up (by decide))
  · exact .int _ ((sz_lt (n := 60) (Int.le_of_lt h.q0) (by omega)).up (by decide))), Nat.le_of_ble_eq_true rfl⟩
theorem gd_ropeF {r : Rope} (h : r.Fine) (hn : r.n.length ≤ 10 ∧ ∀ c ∈ r.n.cps.toList, c < 128) : Gd r.d := ⟨0, by decide, .tuple _ (Nat.le_of_ble_eq_true rfl) (fun d hd => by
  simp only [List.mem_cons, List.not_mem_nil, or_false] at hd
  have h1 := h.a0
  have h2 := h.a1
  have h3 := h.b0
  have h4 := h.b1
  have h5 := h.c0
  have h6 := h.c1
  rcases hd with rfl | rfl | rfl | rfl
  · exact .str _ (by omega) hn.2
  · exact .int _ ((sz_lt (n := 30) (by omega) (by omega)).up (by decide))
  · exact .int _ ((sz_lt (n := 30) (by omega) (by omega)).up (by decide))
  · exact .int _ ((sz_lt (n := 30) (by omega) (by omega)).up (by decide))), Nat.le_of_ble_eq_true rfl⟩
theorem gd_str {n : Str} (h : n.length ≤ 10 ∧ ∀ c ∈ n.cps.toList, c < 128) : Gd (.str n) := ⟨0, by decide, .str _ (by omega) h.2, Nat.zero_le _⟩
theorem gd_int {i : Int} (h0 : 0 ≤ i) (h1 : i < 1000) : Gd (.int i) := ⟨0, by decide, .int _ ((sz_lt (n := 30) h0 (by omega)).up (by decide)), Nat.zero_le _⟩
theorem gd_odd {d : PyData} (h : Gn 0 d) (h2 : d.depth ≤ 2) : Gd d := ⟨0, by decide, h, by omega⟩
def names7 : List Str := ["ann", "bo", "cy", "dee", "eli", "fay", "gus"]
theorem names7_asc : ∀ x ∈ names7, x.length ≤ 10 ∧ ∀ c ∈ x.cps.toList, c < 128 := by decide +kernel
theorem Wo.left {x : WS} (h : Wo x) (ne : leftOf x.st x.gone ≠ []) : Bun (leftOf x.st x.gone) :=
  ⟨ne, Nat.le_trans (List.length_filter_le _ _) h.len, fun r hr => h.asc r (List.mem_filter.mp hr).1, h.ris.sublist ((left_sub _ _).map Rope.n), fun r hr => h.fine r (List.mem_filter.mp hr).1⟩
theorem Wo.gasc {x : WS} (h : Wo x) : ∀ n ∈ x.gone, n.length ≤ 10 ∧ ∀ c ∈ n.cps.toList, c < 128 := fun n hn => by
  obtain ⟨r, hr, rfl⟩ := List.mem_map.mp (h.brk.sub n hn)
  exact h.asc r hr
theorem BS.o {M M' : Mem} {b c : Addr} (h : BS M b M') : M'.o c = M.o c := by
  obtain ⟨ds, _, rfl⟩ := h
  rfl
section
variable {P : Program} {w : World} {K : PySem.W.Frag} {mg : Str → Option Value} {base : Heap} {f : Addr} {fd : FuncData}
def S_deed : SpD := fun rs M P => ∃ (b wd g : Addr) (x : WS), rs = [.m b, .m wd] ∧ BI M b ∧ M.o wd = some (.dic (wps x g)) ∧ Wo x ∧ ∀ (dd : Dd) M', dd.Ok → BS M b M' → P (.d dd.d) M'
abbrev s_law_deed : Stmt := topS 70
theorem sc_law_deed : FnScope ["bag", "w", "kind_so", "names", "some", "marks", "rope"] ["bag", "w"] (defScope s_law_deed) := ⟨rfl, rfl, rfl, by decide +kernel, rfl, by decide +kernel, by decide +kernel⟩
theorem ok_law_deed (T : Txt mg) (F : Fun K "_law_deed" "_law_deed" s_law_deed f fd) (c_law_take : Has P w K mg base 1 "_law_take" ["bag", "many"] S_take) (c_law_of : Has P w K mg base 2 "_law_of" ["bag", "some"] S_of) (c_law_rope : Has P w K mg base 2 "_law_rope" ["bag", "name"] S_rope) (c_law_load : Has P w K mg base 2 "_law_load" ["bag"] S_load) (c_law_left : Has P w K mg base 1 "_law_left" ["bundle", "broken"] S_lleft) (c_law_marks : Has P w K mg base 3 "_law_marks" ["bundle"] S_marks) : FnOk P w K mg base CX0 4 f fd ["bag", "w"] (spOf K S_deed) := by
  refine ok_of F sc_law_deed (fun rs M P h => by obtain ⟨a, b, c, d, rfl, _⟩ := h; rfl) fun cdv A outer s H E hr => ⟨_, (pss_cons (ps_set (i := 2) sc_law_deed.nd rfl (Or.inl rfl) (pe_callH' c_law_take (hr.mono (by first | decide | omega)) rfl (pa_cons (pv 0) (pa_cons pe_int pa_nil))))
      (pss_cons (ps_setLc (i := 3) (own := [("rope", 6)]) (by rfl) sc_law_deed.nd rfl rfl (sw_true rfl rfl rfl (by decide +kernel)) (kpi_list K (pe_dget (Nat.lt_of_le_of_lt (Nat.add_le_add_left (by decide) _) hr.units) (pv 1) pe_str (fun _ _ => rfl))) (blkOk_by (N := ["bag", "w", "kind_so", "names", "some", "marks", "rope"]) (sc := defScope s_law_deed) (own := [("rope", 6)]) (by decide +kernel)) (fun _ _ _ _ _ => (pg_name (i := 6) sc_law_deed.nd rfl (Or.inl rfl))) (fun _ _ _ _ _ => pts_nil) (fun _ _ _ _ _ => (pe_ix (kix_tup K) (pv 6) pe_int (fun _ _ => rfl))))
      (pss_cons (ps_if (PW.pt (pw_or (pt_cmp (pc_lt (pv 2) pe_int)) (pw_or1 (pt_cmpR (kop_eqD K hr.units) (pv 3) (pe_lst pa_nil) (nomark _))))) (pss_one (ps_ret (pe_tup (pa_cons pe_str (pa_cons (pe_callH' c_law_rope (hr.mono (by first | decide | omega)) rfl (pa_cons (pv 0) (pa_cons (pe_callH' c_law_of (hr.mono (by first | decide | omega)) rfl (pa_cons (pv 0) (pa_cons (pe_lst (pa_cons pe_str (pa_cons pe_str (pa_cons pe_str (pa_cons pe_str (pa_cons pe_str (pa_cons pe_str (pa_cons pe_str pa_nil)))))))) pa_nil))) pa_nil))) pa_nil))))) pss_nil)
      (pss_cons (ps_if (pt_cmp (pc_lt (pv 2) pe_int)) (pss_cons (ps_set (i := 4) sc_law_deed.nd rfl (Or.inl rfl) (pe_callH' c_law_left (hr.mono (by first | decide | omega)) rfl (pa_cons (pe_dget (Nat.lt_of_le_of_lt (Nat.add_le_add_left (by decide) _) hr.units) (pv 1) pe_str (fun _ _ => rfl)) (pa_cons (pe_dget (Nat.lt_of_le_of_lt (Nat.add_le_add_left (by decide) _) hr.units) (pv 1) pe_str (fun _ _ => rfl)) pa_nil))))
      (pss_cons (ps_set (i := 5) sc_law_deed.nd rfl (Or.inl rfl) (pe_ifExp (pt_cmpR (kop_neD K hr.units) (pv 4) (pe_lst pa_nil) (nomark _)) (pe_callH' c_law_marks (hr.mono (by first | decide | omega)) rfl (pa_cons (pv 4) pa_nil)) (pe_lst (pa_cons (pe_tup (pa_cons pe_int (pa_cons pe_int pa_nil))) pa_nil))))
      (pss_one (ps_ret (pe_tup (pa_cons pe_str (pa_cons (pe_callH' c_law_of (hr.mono (by first | decide | omega)) rfl (pa_cons (pv 0) (pa_cons (pe_lst (pa_cons (pe_callH' c_law_load (hr.mono (by first | decide | omega)) rfl (pa_cons (pv 0) pa_nil)) (pa_cons (pe_callH' c_law_of (hr.mono (by first | decide | omega)) rfl (pa_cons (pv 0) (pa_cons (pv 5) pa_nil))) (pa_cons (pe_tup (pa_cons pe_int (pa_cons pe_int pa_nil))) (pa_cons (pe_tup (pa_cons pe_int (pa_cons pe_int pa_nil))) pa_nil))))) pa_nil))) pa_nil))))))) pss_nil)
      (pss_cons (ps_if (pt_cmp (pc_lt (pv 2) pe_int)) (pss_one (ps_ret (pe_tup (pa_cons pe_str (pa_cons (pe_callH' c_law_of (hr.mono (by first | decide | omega)) rfl (pa_cons (pv 0) (pa_cons (pe_ifExp (pt_cmpR (kop_neD K hr.units) (pe_dget (Nat.lt_of_le_of_lt (Nat.add_le_add_left (by decide) _) hr.units) (pv 1) pe_str (fun _ _ => rfl)) (pe_lst pa_nil) (nomark _)) (pe_dget (Nat.lt_of_le_of_lt (Nat.add_le_add_left (by decide) _) hr.units) (pv 1) pe_str (fun _ _ => rfl)) (pv 3)) pa_nil))) pa_nil))))) pss_nil)
      (pss_one (ps_ret (pe_tup (pa_cons pe_str (pa_cons (pe_callH' c_law_of (hr.mono (by first | decide | omega)) rfl (pa_cons (pv 0) (pa_cons (pv 3) pa_nil))) (pa_cons (pe_op op_add pe_int (pe_callH' c_law_take (hr.mono (by first | decide | omega)) rfl (pa_cons (pv 0) (pa_cons pe_int pa_nil)))) pa_nil))))))))))), fun rs M P h => ?_⟩
  obtain ⟨b, wd, g, x, rfl, hb, ho, hx, p⟩ := h
  have hl6 := hx.len
  walk_at "d"
  refine ⟨by decide, by decide, hb, fun i M1 i0 i1 B1 => ?_⟩
  have ho1 : M1.o wd = some (.dic (wps x g)) := B1.o.trans ho
  walk_at "d"
  refine dE_lcLm (enc := Rope.d) (out := fun r => .str r.n) (xs := x.st) ?_
  refine dE_wg rfl ho1 lk_ropes ?_
  refine ⟨rfl, rfl, by omega, fun r hr => ?_, .inl ?_⟩
  · walk_at "d"
    exact ⟨rfl, rfl⟩
  rw [show x.st.map (fun r => PyData.str r.n) = (x.st.map Rope.n).map .str by rw [List.map_map]; rfl]
  have nshp : SeqAt.shaped (nl (x.st.map Rope.n)) = true := (Shp.list (n := 0) fun d hd => by
    obtain ⟨y, hy, rfl⟩ := List.mem_map.mp hd
    obtain ⟨s, hs, rfl⟩ := List.mem_map.mp hy
    exact .str (hx.lay hs)).shaped
  have gshp : SeqAt.shaped (nl x.gone) = true := (Shp.list (n := 0) fun d hd => by
    obtain ⟨y, hy, rfl⟩ := List.mem_map.mp hd
    exact .str (hx.glay y hy)).shaped
  have nasc : ∀ n ∈ x.st.map Rope.n, n.length ≤ 10 ∧ ∀ c ∈ n.cps.toList, c < 128 := fun n hn => by
    obtain ⟨r, hr, rfl⟩ := List.mem_map.mp hn
    exact hx.asc r hr
  walk_at "e"
  refine dS_cut (fun δ' M' => ∃ (x4 x5 x6 : Option SV), δ' = [some (.m b), some (.m wd), some (.d (.int i)), some (.d (nl (x.st.map Rope.n))), x4, x5, x6] ∧ M' = M1 ∧ x.st ≠ []) ?_ ?_
  · have putGo : ∀ x4 x5 x6 : Option SV, ∀ D : DEnds, D.rt = rtOf P → dS K (tRet (tTup (tCons (tC (.str "put")) (tCons (tCall (spOf K S_rope) [] E0 (tCons (tVar 0) (tCons (tCall (spOf K S_of) [] E0 (tCons (tVar 0) (tCons (tLst (tCons (tC (.str "ann")) (tCons (tC (.str "bo")) (tCons (tC (.str "cy")) (tCons (tC (.str "dee")) (tCons (tC (.str "eli")) (tCons (tC (.str "fay")) (tCons (tC (.str "gus")) tNil)))))))) tNil))) tNil))) tNil)))) D [some (.m b), some (.m wd), some (.d (.int i)), some (.d (nl (x.st.map Rope.n))), x4, x5, x6] M1 := fun x4 x5 x6 D hD => by
      refine dS_ret ?_
      rw [hD]
      walk_at "d"
      refine dE_lst ?_
      walk_at "d"
      refine ⟨b, _, names7.map .str, rfl, .inl rfl, (fun e => by cases e), by decide, by decide, B1.bi, fun d M2 hd B2 => ?_⟩
      obtain ⟨n, hn, rfl⟩ := List.mem_map.mp hd
      walk_at "d"
      refine ⟨B2.bi, fun r M3 hr1 hr2 B3 => ?_⟩
      walk_at "d"
      have := p (.put r.d) M3 (gd_ropeF hr2 (by rw [hr1]; exact names7_asc n hn)) ((B1.trans B2).trans B3)
      exact this
    walk_at "d"
    refine ifB (fun h => ?_) (fun h => ?_)
    · refine ifT rfl ?_
      exact putGo _ _ _ _ rfl
    · walk_at "d"
      refine dE_lst ?_
      walk_at "d"
      refine dR_eq (d := nl (x.st.map Rope.n)) (e := .list []) .of .of nshp rfl ?_
      rw [strs_neq_nil]
      walk_at "d"
      refine ifB (fun h2 => ?_) (fun h2 => ?_)
      · exact putGo _ _ _ _ rfl
      · refine dS_next ⟨_, _, _, rfl, rfl, ?_⟩
        rintro e
        rw [e] at h2
        cases h2
  · rintro δ' M' ⟨x4, x5, x6, rfl, rfl, ne⟩
    walk_at "d"
    refine ifB (fun h => ?_) (fun h => ?_)
    · walk_at "d"
      refine dE_wg rfl ho1 lk_ropes ?_
      walk_at "d"
      refine dE_wg rfl ho1 lk_gone ?_
      walk_at "d"
      refine ⟨x.st, _, x.gone, rfl, .inl rfl, by omega, ?_⟩
      refine dG_name ?_
      have lshp : SeqAt.shaped (ld (leftOf x.st x.gone)) = true := (Shp.list (n := 1) fun d hd => by
        obtain ⟨s, hs, rfl⟩ := List.mem_map.mp hd
        exact Shp.rope (hx.lay (List.mem_filter.mp hs).1)).shaped
      have hangIt : ∀ (qs : List Q) (x6 : Option SV), qs ≠ [] → qs.length ≤ 100 → (∀ q ∈ qs, Gd (fr q)) → ∀ D : DEnds, D.rt = rtOf P → dS K (tRet (tTup (tCons (tC (.str "hang")) (tCons (tCall (spOf K S_of) [] E0 (tCons (tVar 0) (tCons (tLst (tCons (tCall (spOf K S_load) [] E0 (tCons (tVar 0) tNil)) (tCons (tCall (spOf K S_of) [] E0 (tCons (tVar 0) (tCons (tVar 5) tNil))) (tCons (tTup (tCons (tC (.int 0)) (tCons (tC (.int 1)) tNil))) (tCons (tTup (tCons (tC (.int 0)) (tCons (tC (.int 1)) tNil))) tNil))))) tNil))) tNil)))) D [some (.m b), some (.m wd), some (.d (.int i)), some (.d (nl (x.st.map Rope.n))), some (.d (ld (leftOf x.st x.gone))), some (.d (.list (qs.map fr))), x6] M' := fun qs x6 ne hlen hg D hD => by
        refine dS_ret ?_
        rw [hD]
        walk_at "d"
        refine dE_lst ?_
        walk_at "d"
        refine ⟨B1.bi, fun q1 M2 r1 t1 u1 B2 => ?_⟩
        walk_at "d"
        refine ⟨b, _, qs.map fr, rfl, .inl rfl, (fun e => by cases e), by simpa using ne, by rw [List.length_map]; omega, B2.bi, fun d M3 hd B3 => ?_⟩
        obtain ⟨q2, hq2, rfl⟩ := List.mem_map.mp hd
        walk_at "d"
        refine ⟨b, _, [fr q1, fr q2, fr (0, 1), fr (0, 1)], rfl, .inl rfl, (fun e => by cases e), by simp, by simp, B3.bi, fun d M4 hd B4 => ?_⟩
        have hgd : Gd d := by
          simp only [List.mem_cons, List.not_mem_nil, or_false] at hd
          have g0 : Gd (fr (0, 1)) := gd_fr' ⟨by decide, by decide, by decide⟩ (by decide) (by decide)
          rcases hd with rfl | rfl | rfl | rfl
          · exact gd_fr' r1 (by omega) (by omega)
          · exact hg q2 hq2
          · exact g0
          · exact g0
        walk_at "d"
        exact (p (.hang d) M4 hgd (((B1.trans B2).trans B3).trans B4))
      refine dS_seq (dS_asg (dE.mono (P := fun r M2 => ∃ qs : List Q, r = .d (.list (qs.map fr)) ∧ M2 = M' ∧ qs ≠ [] ∧ qs.length ≤ 100 ∧ ∀ q ∈ qs, Gd (fr q)) ?_ fun r M2 hr => ?_))
      · walk_at "d"
        refine dE_lst ?_
        walk_at "d"
        refine dR_ne (d := ld (leftOf x.st x.gone)) (e := .list []) .of .of lshp rfl ?_
        rw [show PyData.eqv (ld (leftOf x.st x.gone)) (.list []) = (leftOf x.st x.gone).isEmpty by cases leftOf x.st x.gone <;> rfl]
        walk_at "d"
        refine ifB (fun h2 => ?_) (fun h2 => ?_)
        · have ne2 : leftOf x.st x.gone ≠ [] := fun e => by rw [e] at h2; cases h2
          have hB := hx.left ne2
          have h66 := hB.len
          walk_at "d"
          refine ⟨hB, fun qs hlen hmk => ?_⟩
          refine ⟨qs, rfl, rfl, (fun e => ?_), by omega, fun q hq => gd_fr' (hmk q hq).toRed (hmk q hq).t (by have := (hmk q hq).u; omega)⟩
          rw [e, List.length_nil] at hlen
          exact ne2 (List.length_eq_zero_iff.mp hlen.symm)
        · walk_at "d"
          refine dE_lst ?_
          walk_at "d"
          refine ⟨[(1, 1)], rfl, rfl, by simp, by simp, fun q hq => ?_⟩
          rw [List.mem_singleton.mp hq]
          exact gd_fr' ⟨by decide, by decide, by decide⟩ (by decide) (by decide)
      · obtain ⟨qs, rfl, rfl, h3, h4, h5⟩ := hr
        refine dG_name ?_
        exact hangIt qs _ h3 h4 h5 _ rfl
    · walk_at "d"
      refine ifB (fun h2 => ?_) (fun h2 => ?_)
      · walk_at "d"
        refine dE_wg rfl ho1 lk_gone ?_
        refine dE_lst ?_
        walk_at "d"
        refine dR_ne (d := nl x.gone) (e := .list []) .of .of gshp rfl ?_
        rw [strs_neq_nil]
        walk_at "d"
        refine ifB (fun h3 => ?_) (fun h3 => ?_)
        · refine dE_wg rfl ho1 lk_gone ?_
          walk_at "d"
          refine ⟨b, _, x.gone.map .str, rfl, .inl rfl, (fun e => by cases e), (fun e => by rw [List.map_eq_nil_iff.mp e] at h3; cases h3), by rw [List.length_map]; have := hx.glen; omega, B1.bi, fun d M3 hd B3 => ?_⟩
          obtain ⟨n, hn, rfl⟩ := List.mem_map.mp hd
          walk_at "d"
          exact p (.spl (.str n)) M3 (gd_str (hx.gasc n hn)) (B1.trans B3)
        · walk_at "d"
          refine ⟨b, _, (x.st.map Rope.n).map .str, rfl, .inl rfl, (fun e => by cases e), (fun e => ne (List.map_eq_nil_iff.mp (List.map_eq_nil_iff.mp e))), by rw [List.length_map, List.length_map]; omega, B1.bi, fun d M3 hd B3 => ?_⟩
          obtain ⟨n, hn, rfl⟩ := List.mem_map.mp hd
          walk_at "d"
          exact p (.spl (.str n)) M3 (gd_str (nasc n hn)) (B1.trans B3)
      · walk_at "d"
        refine ⟨b, _, (x.st.map Rope.n).map .str, rfl, .inl rfl, (fun e => by cases e), (fun e => ne (List.map_eq_nil_iff.mp (List.map_eq_nil_iff.mp e))), by rw [List.length_map, List.length_map]; omega, B1.bi, fun d M3 hd B3 => ?_⟩
        obtain ⟨n, hn, rfl⟩ := List.mem_map.mp hd
        walk_at "d"
        refine ⟨by decide, by decide, B3.bi, fun j M4 j0 j1 B4 => ?_⟩
        walk_at "d"
        exact p (.tgt (.str n) (.int (1 + j))) M4 ⟨gd_str (nasc n hn), gd_int (by omega) (by omega)⟩ ((B1.trans B3).trans B4)
def S_str : SpD := fun rs M P => ∃ (b : Addr) (dd : Dd), rs = [.m b, .d dd.d] ∧ BI M b ∧ dd.Ok ∧ ∀ (dd' : Dd) M', dd'.Ok → BS M b M' → P (.d dd'.d) M'
abbrev s_law_strange : Stmt := topS 72
theorem sc_law_strange : FnScope ["bag", "deed", "found"] ["bag", "deed"] (defScope s_law_strange) := ⟨rfl, rfl, rfl, by decide +kernel, rfl, by decide +kernel, by decide +kernel⟩
theorem ok_law_strange (T : Txt mg) (F : Fun K "_law_strange" "_law_strange" s_law_strange f fd) (c_law_take : Has P w K mg base 1 "_law_take" ["bag", "many"] S_take) (c_law_odd : Has P w K mg base 2 "_law_odd" ["bag"] S_odd) : FnOk P w K mg base CX0 3 f fd ["bag", "deed"] (spOf K S_str) := by
  refine ok_of F sc_law_strange (fun rs M P h => by obtain ⟨a, b, rfl, _⟩ := h; rfl) fun cdv A outer s H E hr => ⟨_, (pss_cons (ps_set (i := 2) sc_law_strange.nd rfl (Or.inl rfl) (pe_callTy (kcall_list K) (by rfl) T.list (by decide +kernel) (pa_cons (pv 1) pa_nil)))
      (pss_cons (ps_asg (pe_callH' c_law_odd (hr.mono (by first | decide | omega)) rfl (pa_cons (pv 0) pa_nil)) (pg_sub (pv 2) (pe_op op_add pe_int (pe_callH' c_law_take (hr.mono (by first | decide | omega)) rfl (pa_cons (pv 0) (pa_cons (pe_op op_sub (pe_callB (kcall_len K) (by rfl) T.len (by decide +kernel) (pa_cons (pv 2) pa_nil)) pe_int) pa_nil)))) set_list))
      (pss_one (ps_ret (pe_callTy (kcall_tuple K) (by rfl) T.tuple (by decide +kernel) (pa_cons (pv 2) pa_nil)))))), fun rs M P h => ?_⟩
  obtain ⟨b, dd, rfl, hb, ok, p⟩ := h
  obtain ⟨ds, hds, hlen, hput⟩ : ∃ ds, dd.d = .tuple ds ∧ (ds.length = 2 ∨ ds.length = 3) ∧ ∀ (j : Nat) (o : PyData), Gd o → 1 ≤ j → j < ds.length → ∃ dd' : Dd, dd'.d = .tuple (ds.set j o) ∧ dd'.Ok := by
    cases dd with
    | put d => exact ⟨_, rfl, .inl rfl, fun j o ho h1 h2 => by
        obtain rfl : j = 1 := by simp at h2; omega
        exact ⟨.put o, rfl, ho⟩⟩
    | hang d => exact ⟨_, rfl, .inl rfl, fun j o ho h1 h2 => by
        obtain rfl : j = 1 := by simp at h2; omega
        exact ⟨.hang o, rfl, ho⟩⟩
    | spl d => exact ⟨_, rfl, .inl rfl, fun j o ho h1 h2 => by
        obtain rfl : j = 1 := by simp at h2; omega
        exact ⟨.spl o, rfl, ho⟩⟩
    | tgt d e => exact ⟨_, rfl, .inr rfl, fun j o ho h1 h2 => by
        have : j = 1 ∨ j = 2 := by simp at h2; omega
        rcases this with rfl | rfl
        · exact ⟨.tgt o e, rfl, ho, ok.2⟩
        · exact ⟨.tgt d o, rfl, ok.1, ho⟩⟩
  rw [hds]
  walk_at "d"
  refine dC_listM (ds := ds) (.inr (.inl rfl)) fun a ha => ?_
  have hab : a ≠ b := BI.ne ha hb
  walk_at "d"
  refine ⟨hb.under hab, fun o M1 ho1 ho2 B1 => ?_⟩
  obtain ⟨Ma, Ba, rfl⟩ := B1.under hab
  refine dG_subE ?_
  walk_at "d"
  refine dC_len (ds := ds) (.inr (.inr ⟨a, rfl, mset_same⟩)) ?_
  walk_at "d"
  refine ⟨by omega, by omega, Ba.bi.under hab, fun i M2 i0 i1 B2 => ?_⟩
  obtain ⟨Mb, Bb, rfl⟩ := B2.under hab
  walk_at "d"
  refine ⟨(1 + i).toNat, ds, by rw [show ((1 + i).toNat : Int) = 1 + i by omega], mset_same, by omega, ?_⟩
  rw [mset_mset]
  walk_at "d"
  refine dC_tuple (.inr ⟨a, rfl, mset_same⟩) ?_
  obtain ⟨dd', e1, e2⟩ := hput (1 + i).toNat o (gd_odd ho1 ho2) (by omega) (by omega)
  rw [← e1]
  exact ⟨Mb, p dd' Mb e2 (Ba.trans Bb), msub_set MSub.refl (by rw [Bb.ne hab, Ba.ne hab]; exact ha)⟩
end
end K2
namespace K2
open PySem L2 Sd Ma
local macro_rules | `(tactic| walk_at "d1") => `(tactic| first
  | ((with_reducible refine' dE_var ?dv ?_); (case dv => rfl))
  | with_reducible refine' dE_int ?_
  | with_reducible refine' dE_str ?_
  | with_reducible refine' dE_bl ?_
  | with_reducible refine' dE_non ?_
  | ((with_reducible refine' dE_nt ?dv ?_); (case dv => assumption))
  | with_reducible refine' dE_ref ?_
  | with_reducible refine' dE_op ?_
  | with_reducible refine' dE_un ?_
  | with_reducible refine' dE_cmp ?_
  | with_reducible refine' dE_isN ?_
  | with_reducible refine' dE_notN ?_
  | with_reducible refine' dE_call ?_
  | with_reducible refine' dE_cb ?_
  | with_reducible refine' dE_kw ?_
  | with_reducible refine' dE_tup ?_
  | with_reducible refine' dE_if ?_
  | with_reducible refine' dE_and ?_
  | with_reducible refine' dE_or ?_
  | with_reducible refine' dE_not ?_
  | with_reducible refine' dE_sl ?_
  | with_reducible refine' dO_none ?_
  | with_reducible refine' dO_some ?_
  | with_reducible refine' dA_cons ?_
  | with_reducible refine' dA_nil ?_
  | with_reducible refine' dT_B ?_
  | with_reducible refine' dT_test ?_
  | with_reducible refine' dT_and ?_
  | with_reducible refine' dT_or ?_
  | with_reducible refine' dT_not ?_
  | with_reducible refine' dT_yes ?_
  | with_reducible refine' dR_I0i ?_
  | with_reducible refine' dU_neg ?_
  | ((with_reducible refine' dR_ixT ?dv ?_); (case dv => rfl))
  | with_reducible refine' dS_seq ?_
  | with_reducible refine' dS_next ?_
  | with_reducible refine' dS_ret ?_
  | with_reducible refine' dS_drop ?_
  | with_reducible refine' dS_if ?_
  | with_reducible refine' dS_asg ?_
  | with_reducible refine' dS_par ?_
  | with_reducible refine' dG_name ?_
  | ((with_reducible refine' dG_tup ?dv ?_); (case dv => rfl); (dsimp only [List.map]))
  | with_reducible refine' dGs_cons ?_
  | with_reducible refine' dGs_nil ?_
  | with_reducible refine' dC_abs ?_
  | with_reducible refine' dC_max2 ?_
  | with_reducible refine' dC_min2 ?_
  | with_reducible refine' rtOf.of ?_
  | with_reducible refine' ex_cmp ?_
  | with_reducible refine' ex_bool ?_
  | with_reducible refine' ex_int ?_
  | with_reducible refine' ex_list ?_
  | with_reducible refine' ex_tup ?_
  | with_reducible refine' ex_d ?_
  | with_reducible refine' ex_m ?_
  | with_reducible refine' ex_par ?_
  | with_reducible refine' ex_rg1 ?_
  | with_reducible refine' ex_rg2 ?_
  | ((with_reducible refine' ex_dat ?dv ?dw ?_); (case dv => rfl); (case dw => exact Nat.le_of_ble_eq_true rfl))
  | ((fail_if_success (with_reducible show ∃ _, _)); (fail_if_success (with_reducible show _ ∧ _)); refine ⟨_, _, rfl, ?_⟩)
  | ((fail_if_success (with_reducible show ∃ _, _)); (fail_if_success (with_reducible show _ ∧ _)); refine ⟨_, rfl, ?_⟩)
  | fail)
local macro_rules | `(tactic| walk_at "d") => `(tactic| repeat' walk_at "d1")
local macro_rules | `(tactic| walk_at "e1") => `(tactic| first
  | ((with_reducible refine' dE_var ?dv ?_); (case dv => rfl))
  | with_reducible refine' dE_int ?_
  | with_reducible refine' dE_str ?_
  | with_reducible refine' dE_bl ?_
  | with_reducible refine' dE_non ?_
  | ((with_reducible refine' dE_nt ?dv ?_); (case dv => assumption))
  | with_reducible refine' dE_ref ?_
  | with_reducible refine' dE_op ?_
  | with_reducible refine' dE_un ?_
  | with_reducible refine' dE_cmp ?_
  | with_reducible refine' dE_isN ?_
  | with_reducible refine' dE_notN ?_
  | with_reducible refine' dE_call ?_
  | with_reducible refine' dE_cb ?_
  | with_reducible refine' dE_kw ?_
  | with_reducible refine' dE_tup ?_
  | with_reducible refine' dE_if ?_
  | with_reducible refine' dE_and ?_
  | with_reducible refine' dE_or ?_
  | with_reducible refine' dE_not ?_
  | with_reducible refine' dE_sl ?_
  | with_reducible refine' dO_none ?_
  | with_reducible refine' dO_some ?_
  | with_reducible refine' dA_cons ?_
  | with_reducible refine' dA_nil ?_
  | with_reducible refine' dT_B ?_
  | with_reducible refine' dT_test ?_
  | with_reducible refine' dT_and ?_
  | with_reducible refine' dT_or ?_
  | with_reducible refine' dT_not ?_
  | with_reducible refine' dT_yes ?_
  | with_reducible refine' dR_I0i ?_
  | with_reducible refine' dU_neg ?_
  | ((with_reducible refine' dR_ixT ?dv ?_); (case dv => rfl))
  | with_reducible refine' dS_next ?_
  | with_reducible refine' dS_ret ?_
  | with_reducible refine' dS_drop ?_
  | with_reducible refine' dS_if ?_
  | with_reducible refine' dS_asg ?_
  | with_reducible refine' dS_par ?_
  | with_reducible refine' dG_name ?_
  | ((with_reducible refine' dG_tup ?dv ?_); (case dv => rfl); (dsimp only [List.map]))
  | with_reducible refine' dGs_cons ?_
  | with_reducible refine' dGs_nil ?_
  | with_reducible refine' dC_abs ?_
  | with_reducible refine' dC_max2 ?_
  | with_reducible refine' dC_min2 ?_
  | with_reducible refine' rtOf.of ?_
  | with_reducible refine' ex_cmp ?_
  | with_reducible refine' ex_bool ?_
  | with_reducible refine' ex_int ?_
  | with_reducible refine' ex_list ?_
  | with_reducible refine' ex_tup ?_
  | with_reducible refine' ex_d ?_
  | with_reducible refine' ex_m ?_
  | with_reducible refine' ex_par ?_
  | with_reducible refine' ex_rg1 ?_
  | with_reducible refine' ex_rg2 ?_
  | ((with_reducible refine' ex_dat ?dv ?dw ?_); (case dv => rfl); (case dw => exact Nat.le_of_ble_eq_true rfl))
  | ((fail_if_success (with_reducible show ∃ _, _)); (fail_if_success (with_reducible show _ ∧ _)); refine ⟨_, _, rfl, ?_⟩)
  | ((fail_if_success (with_reducible show ∃ _, _)); (fail_if_success (with_reducible show _ ∧ _)); refine ⟨_, rfl, ?_⟩)
  | fail)
local macro_rules | `(tactic| walk_at "e") => `(tactic| repeat' walk_at "e1")
section
variable {P : Program} {w : World} {K : PySem.W.Frag} {mg : Str → Option Value} {base : Heap} {f C : Addr} {fd : FuncData} {E : EC}
def S_do (E : EC) (C : Addr) : SpX := fun rs M P PX => ∃ (p a : Addr) (x : WS) (b : Bool) (dd : Dd), rs = [.m p, .d dd.d] ∧ WAt C M p a x b ∧ Wo x ∧ x.story.length ≤ 1000 ∧ dd.Ok ∧ (∀ rf, refOf x dd = some rf → rf.out E (wput C M p a x false) PX) ∧ (refOf x dd = none → P (.d (retOf x dd)) (wput C M p a (doneW x dd) false))
theorem rf_xt {M : Mem} {PX : Value → Option Addr → Mem → Prop} {rf : Rf} (h : rf.out E M PX) : rf.out E M (fun cls d M' => xtOf PX cls d M') := by
  cases rf with
  | hung q => exact fun d h1 h2 => xtOf.of (h d h1 h2)
  | whole q => exact fun d h1 h2 => xtOf.of (h d h1 h2)
  | _ => exact xtOf.of h
abbrev s_law_do : Stmt := topS 69
theorem sc_law_do : FnScope ["works", "deed"] ["works", "deed"] (defScope s_law_do) := ⟨rfl, rfl, rfl, by decide +kernel, rfl, by decide +kernel, by decide +kernel⟩
theorem ok_law_do (wk : Wk K C) (T : Txt mg) (F : Fun K "_law_do" "_law_do" s_law_do f fd) (c_Works_put : HasM P w K mg base 5 C "put" ["self", "rope"] (S_put E C)) (c_Works_hang : HasM P w K mg base 7 C "hang" ["self", "load"] (S_hang E C)) (c_Works_splice : HasM P w K mg base 5 C "splice" ["self", "name"] (S_spl E C)) (c_Works_tighten : HasM P w K mg base 5 C "tighten" ["self", "name", "by"] (S_tgt E C)) : FnOk P w K mg base (L2N.CX P w) 8 f fd ["works", "deed"] (spOfX K (S_do E C)) := by
  refine okX_of F sc_law_do (fun rs M P PX h => by obtain ⟨p, a, x, b, dd, rfl, _⟩ := h; rfl) fun cdv A outer s H XE hr => ⟨_, (pss_cons (ps_if (pt_cmpR (kop_eqD K hr.units) (pe_ix (kix_tup K) (pv 1) pe_int (fun _ _ => rfl)) pe_str (nomark _)) (pss_one (ps_ret (pe_mX (pv 0) wk.cl c_Works_put (hr.mono (by first | decide | omega)) (L2N.takes_of rfl rfl rfl rfl) (pa_cons (pe_ix (kix_tup K) (pv 1) pe_int (fun _ _ => rfl)) pa_nil)))) pss_nil)
      (pss_cons (ps_if (pt_cmpR (kop_eqD K hr.units) (pe_ix (kix_tup K) (pv 1) pe_int (fun _ _ => rfl)) pe_str (nomark _)) (pss_one (ps_ret (pe_mX (pv 0) wk.cl c_Works_hang (hr.mono (by first | decide | omega)) (L2N.takes_of rfl rfl rfl rfl) (pa_cons (pe_ix (kix_tup K) (pv 1) pe_int (fun _ _ => rfl)) pa_nil)))) pss_nil)
      (pss_cons (ps_if (pt_cmpR (kop_eqD K hr.units) (pe_ix (kix_tup K) (pv 1) pe_int (fun _ _ => rfl)) pe_str (nomark _)) (pss_one (ps_ret (pe_mX (pv 0) wk.cl c_Works_splice (hr.mono (by first | decide | omega)) (L2N.takes_of rfl rfl rfl rfl) (pa_cons (pe_ix (kix_tup K) (pv 1) pe_int (fun _ _ => rfl)) pa_nil)))) pss_nil)
      (pss_one (ps_ret (pe_mX (pv 0) wk.cl c_Works_tighten (hr.mono (by first | decide | omega)) (L2N.takes_of rfl rfl rfl rfl) (pa_cons (pe_ix (kix_tup K) (pv 1) pe_int (fun _ _ => rfl)) (pa_cons (pe_ix (kix_tup K) (pv 1) pe_int (fun _ _ => rfl)) pa_nil)))))))), fun rs M P PX h => ?_⟩
  obtain ⟨p, a, x, b, dd, rfl, h, hx, hst, ok, kx, kn⟩ := h
  obtain ⟨w1, w2, w3, w4⟩ := word_lay
  cases dd with
  | put d =>
    unfold Dd.d
    refine dS_seq (dS_if ?_)
    walk_at "d"
    refine dR_eqS w1 w1 ?_
    walk_at "d"
    refine ifT rfl ?_
    refine dS_retX rfl ?_
    refine dEX_own rfl h.1 rfl ?_
    walk_at "d"
    refine ⟨p, a, x, b, d, rfl, h, hx, ok, fun rf h1 => rf_xt (kx rf h1), fun r h1 e => rtOf.of ?_⟩
    have := kn h1
    rw [e] at this
    exact this
  | hang d =>
    unfold Dd.d
    refine dS_seq (dS_if ?_)
    walk_at "d"
    refine dR_eqS w2 w1 ?_
    walk_at "d"
    refine ifF (by decide +kernel) ?_
    refine dS_next ?_
    refine dS_seq (dS_if ?_)
    walk_at "d"
    refine dR_eqS w2 w2 ?_
    walk_at "d"
    refine ifT rfl ?_
    refine dS_retX rfl ?_
    refine dEX_own rfl h.1 rfl ?_
    walk_at "d"
    refine ⟨p, a, x, b, d, rfl, h, hx, hst, ok, fun rf h1 => rf_xt (kx rf h1), fun q h1 e => rtOf.of ?_⟩
    have := kn h1
    rw [e] at this
    exact this
  | spl d =>
    unfold Dd.d
    refine dS_seq (dS_if ?_)
    walk_at "d"
    refine dR_eqS w3 w1 ?_
    walk_at "d"
    refine ifF (by decide +kernel) ?_
    refine dS_next ?_
    refine dS_seq (dS_if ?_)
    walk_at "d"
    refine dR_eqS w3 w2 ?_
    walk_at "d"
    refine ifF (by decide +kernel) ?_
    refine dS_next ?_
    refine dS_seq (dS_if ?_)
    walk_at "d"
    refine dR_eqS w3 w3 ?_
    walk_at "d"
    refine ifT rfl ?_
    refine dS_retX rfl ?_
    refine dEX_own rfl h.1 rfl ?_
    walk_at "d"
    refine ⟨p, a, x, b, d, rfl, h, hx, (Gd.shp ok).shaped, fun rf h1 => rf_xt (kx rf h1), fun q h1 e => rtOf.of ?_⟩
    have := kn h1
    rw [e] at this
    exact this
  | tgt d e =>
    unfold Dd.d
    refine dS_seq (dS_if ?_)
    walk_at "d"
    refine dR_eqS w4 w1 ?_
    walk_at "d"
    refine ifF (by decide +kernel) ?_
    refine dS_next ?_
    refine dS_seq (dS_if ?_)
    walk_at "d"
    refine dR_eqS w4 w2 ?_
    walk_at "d"
    refine ifF (by decide +kernel) ?_
    refine dS_next ?_
    refine dS_seq (dS_if ?_)
    walk_at "d"
    refine dR_eqS w4 w3 ?_
    walk_at "d"
    refine ifF (by decide +kernel) ?_
    refine dS_next ?_
    refine dS_retX rfl ?_
    refine dEX_own rfl h.1 rfl ?_
    walk_at "d"
    refine ⟨p, a, x, b, d, e, rfl, h, hx, (Gd.shp ok.1).shaped, fun rf h1 => rf_xt (kx rf h1), fun n i h1 e1 e2 => rtOf.of ?_⟩
    have := kn h1
    rw [e1, e2] at this
    exact this
def S_so (C : Addr) : SpD := fun rs M P => ∃ (p a wd g : Addr) (x : WS), rs = [.m p, .m wd] ∧ WAt C M p a x false ∧ DAt M wd g x ∧ Wo x ∧ Srt x ∧ P (.d (.bool true)) M
abbrev s_law_works_so : Stmt := topS 71
theorem sc_law_works_so : FnScope ["works", "w", "sunk", "whole"] ["works", "w"] (defScope s_law_works_so) := ⟨rfl, rfl, rfl, by decide +kernel, rfl, by decide +kernel, by decide +kernel⟩
theorem ok_law_works_so (wk : Wk K C) (T : Txt mg) (F : Fun K "_law_works_so" "_law_works_so" s_law_works_so f fd) (c_law_sunk : Has P w K mg base 2 "_law_sunk" ["ropes", "load"] S_lsunk) (c_law_left : Has P w K mg base 1 "_law_left" ["bundle", "broken"] S_lleft) (c_Works_ropes : HasM P w K mg base 1 C "ropes" ["self"] (S_ropes C)) (c_Works_broken : HasM P w K mg base 1 C "broken" ["self"] (S_gone C)) (c_Works_load : HasM P w K mg base 1 C "load" ["self"] (S_wt C)) (c_Works_sinking : HasM P w K mg base 5 C "sinking" ["self"] (S_wsink C)) (c_Works_log : HasM P w K mg base 1 C "log" ["self"] (S_log C)) (c_Works_fell : HasM P w K mg base 1 C "fell" ["self"] (S_fell C)) (c_Works_len : HasL P w K mg base 2 C (S_len C)) : FnOk P w K mg base CX0 6 f fd ["works", "w"] (spOf K (S_so C)) := by
  refine ok_of F sc_law_works_so (fun rs M P h => by obtain ⟨a, b, c, d, e, rfl, _⟩ := h; rfl) fun cdv A outer s H E hr => ⟨_, (pss_cons (ps_if (PW.pt (pw_or (pt_cmpR (kop_neD K hr.units) (pe_m0 (pv 0) wk.cl c_Works_ropes (hr.mono (by first | decide | omega))) (pe_callTy (kcall_tuple K) (by rfl) T.tuple (by decide +kernel) (pa_cons (pe_dget (Nat.lt_of_le_of_lt (Nat.add_le_add_left (by decide) _) hr.units) (pv 1) pe_str (fun _ _ => rfl)) pa_nil)) (nomark _)) (pw_or1 (pt_cmpR (kop_neD K hr.units) (pe_m0 (pv 0) wk.cl c_Works_broken (hr.mono (by first | decide | omega))) (pe_callTy (kcall_tuple K) (by rfl) T.tuple (by decide +kernel) (pa_cons (pe_callB (kcr_sortedD K hr) (by rfl) T.sorted (by decide +kernel) (pa_cons (pe_dget (Nat.lt_of_le_of_lt (Nat.add_le_add_left (by decide) _) hr.units) (pv 1) pe_str (fun _ _ => rfl)) pa_nil)) pa_nil)) (nomark _))))) (pss_one (ps_ret pe_bl)) pss_nil)
      (pss_cons (ps_set (i := 2) sc_law_works_so.nd rfl (Or.inl rfl) (pe_callH' c_law_sunk (hr.mono (by first | decide | omega)) rfl (pa_cons (pe_callH' c_law_left (hr.mono (by first | decide | omega)) rfl (pa_cons (pe_dget (Nat.lt_of_le_of_lt (Nat.add_le_add_left (by decide) _) hr.units) (pv 1) pe_str (fun _ _ => rfl)) (pa_cons (pe_dget (Nat.lt_of_le_of_lt (Nat.add_le_add_left (by decide) _) hr.units) (pv 1) pe_str (fun _ _ => rfl)) pa_nil))) (pa_cons (pe_dget (Nat.lt_of_le_of_lt (Nat.add_le_add_left (by decide) _) hr.units) (pv 1) pe_str (fun _ _ => rfl)) pa_nil))))
      (pss_cons (ps_if (PW.pt (pw_or (pt_cmpR (kop_neD K hr.units) (pe_m0 (pv 0) wk.cl c_Works_load (hr.mono (by first | decide | omega))) (pe_dget (Nat.lt_of_le_of_lt (Nat.add_le_add_left (by decide) _) hr.units) (pv 1) pe_str (fun _ _ => rfl)) (nomark _)) (pw_or (pt_cmpR (kop_neD K hr.units) (pe_m0 (pv 0) wk.cl c_Works_sinking (hr.mono (by first | decide | omega))) (pv 2) (nomark _)) (pw_or1 (pt_cmpR (kop_neD K hr.units) (pe_m0 (pv 0) wk.cl c_Works_log (hr.mono (by first | decide | omega))) (pe_dget (Nat.lt_of_le_of_lt (Nat.add_le_add_left (by decide) _) hr.units) (pv 1) pe_str (fun _ _ => rfl)) (nomark _)))))) (pss_one (ps_ret pe_bl)) pss_nil)
      (pss_cons (ps_set (i := 3) sc_law_works_so.nd rfl (Or.inl rfl) (pe_op op_sub (pe_callB (kcall_len K) (by rfl) T.len (by decide +kernel) (pa_cons (pe_dget (Nat.lt_of_le_of_lt (Nat.add_le_add_left (by decide) _) hr.units) (pv 1) pe_str (fun _ _ => rfl)) pa_nil)) (pe_callB (kcall_len K) (by rfl) T.len (by decide +kernel) (pa_cons (pe_dget (Nat.lt_of_le_of_lt (Nat.add_le_add_left (by decide) _) hr.units) (pv 1) pe_str (fun _ _ => rfl)) pa_nil))))
      (pss_one (ps_ret (pe_cmpR (kop_eqD K hr.units) (pe_lst (pa_cons (pe_m0 (pv 0) wk.cl c_Works_fell (hr.mono (by first | decide | omega))) (pa_cons (pe_callB (kcall_lenO K c_Works_len (hr.mono (by first | decide | omega))) (by rfl) T.len (by decide +kernel) (pa_cons (pv 0) pa_nil)) (pa_cons (kpe_fld K (pv 0)) pa_nil)))) (pe_lst (pa_cons (pe_dget (Nat.lt_of_le_of_lt (Nat.add_le_add_left (by decide) _) hr.units) (pv 1) pe_str (fun _ _ => rfl)) (pa_cons (pv 3) (pa_cons pe_bl pa_nil)))) (nomark _)))))))), fun rs M P h => ?_⟩
  obtain ⟨p, a, wd, g, x, rfl, h, hd, hx, hs, k⟩ := h
  have hl6 := hx.len
  have hl := left_ok hx.ok x.gone
  have sb : SeqAt.shaped (bd x.st) = true := (Shp.tup (n := 1) fun d hd => by
    obtain ⟨s, hs, rfl⟩ := List.mem_map.mp hd
    exact Shp.rope (hx.lay hs)).shaped
  have sg : SeqAt.shaped (nm x.gone) = true := (Shp.tup (n := 0) fun d hd => by
    obtain ⟨y, hy, rfl⟩ := List.mem_map.mp hd
    exact .str (hx.glay y hy)).shaped
  walk_at "d"
  refine dE_ownM (i := 0) rfl h.1 rfl ?_
  walk_at "d"
  refine ⟨p, a, x, false, rfl, h, ?_⟩
  walk_at "d"
  refine dE_wg rfl hd.1 lk_ropes ?_
  walk_at "d"
  refine dC_tuple (.inl rfl) ?_
  refine dR_ne_same (d := bd x.st) .of .of sb ?_
  walk_at "d"
  refine ifF rfl ?_
  walk_at "d"
  refine dE_ownM (i := 0) rfl h.1 rfl ?_
  walk_at "d"
  refine ⟨p, a, x, false, rfl, h, ?_⟩
  walk_at "d"
  refine dE_wg rfl hd.1 lk_gone ?_
  walk_at "d"
  refine dC_sortedD (.inl rfl) (strs_alike x.gone) (strs_sortable x.gone) (strs_depth x.gone) ?_
  rw [sortN_dat, hs.1]
  walk_at "d"
  refine dC_tuple (.inl rfl) ?_
  refine dR_ne_same (d := nm x.gone) .of .of sg ?_
  walk_at "d"
  refine ifF rfl ?_
  walk_at "d"
  refine dE_wg rfl hd.1 lk_ropes ?_
  walk_at "d"
  refine dE_wg rfl hd.1 lk_gone ?_
  walk_at "d"
  refine ⟨x.st, _, x.gone, rfl, .inl rfl, by omega, ?_⟩
  walk_at "d"
  refine dE_wg rfl hd.1 lk_load ?_
  walk_at "d"
  refine ⟨hl, hx.wt, ?_⟩
  walk_at "d"
  refine dE_ownM (i := 0) rfl h.1 rfl ?_
  walk_at "d"
  refine ⟨p, a, x, false, rfl, h, ?_⟩
  walk_at "d"
  refine dE_wg rfl hd.1 lk_load ?_
  refine dR_ne_same (d := fr x.wt) .of .of Shp.fr.shaped ?_
  walk_at "d"
  refine ifF rfl ?_
  walk_at "d"
  refine dE_ownM (i := 0) rfl h.1 rfl ?_
  walk_at "d"
  refine ⟨p, a, x, false, rfl, h, hx, ?_⟩
  walk_at "d"
  refine dR_ne_same (d := opt (sunkOf (leftOf x.st x.gone) x.wt.1 x.wt.2)) .of .of Shp.opt.shaped ?_
  walk_at "d"
  refine ifF rfl ?_
  walk_at "d"
  refine dE_ownM (i := 0) rfl h.1 rfl ?_
  walk_at "d"
  refine ⟨p, a, x, false, rfl, h, fun l hl0 => ?_⟩
  walk_at "d"
  have hla : l ≠ a := by rintro rfl; rw [h.2] at hl0; cases hl0
  have hlg : l ≠ g := by rintro rfl; rw [hd.2] at hl0; cases hl0
  refine dE_wg rfl hd.1 lk_log ?_
  refine dR_ne_same (d := .list (x.story.map rowD)) (.inr ⟨l, _, rfl, mset_same, rfl⟩) (.inr ⟨g, _, rfl, (mset_ne (Ne.symm hlg)).trans hd.2, rfl⟩) ?_ ?_
  · exact (Shp.list (n := 2) fun d hd => by
      obtain ⟨r, hr, rfl⟩ := List.mem_map.mp hd
      refine Shp.tup fun d hd => ?_
      simp only [List.mem_cons, List.not_mem_nil, or_false] at hd
      rcases hd with rfl | rfl
      · exact Shp.fr
      · refine Shp.tup fun d hd => ?_
        obtain ⟨n, hn, rfl⟩ := List.mem_map.mp hd
        exact .str (hs.2 r hr n hn)).shaped
  walk_at "d"
  refine ifF rfl ?_
  walk_at "d"
  refine dE_wg rfl hd.1 lk_ropes ?_
  walk_at "d"
  refine dC_len (ds := x.st.map Rope.d) (.inl rfl) ?_
  walk_at "d"
  refine dE_wg rfl hd.1 lk_gone ?_
  walk_at "d"
  refine dC_len (ds := x.gone.map .str) (.inl rfl) ?_
  walk_at "d"
  refine dE_lst ?_
  walk_at "d"
  refine dE_ownM (i := 0) rfl h.1 rfl ?_
  walk_at "d"
  have h2 : WAt C (mset M l (x.story.map rowD)) p a x false := ⟨h.1, (mset_ne (Ne.symm hla)).trans h.2⟩
  refine ⟨p, a, x, false, rfl, h2, ?_⟩
  walk_at "d"
  refine dC_lenO h.1 ⟨p, a, x, false, rfl, h2, hx.len, _, rfl, by have := hl.len; omega, ?_⟩
  walk_at "d"
  refine dE_own rfl h.1 wk.cl wk.busy rfl ?_
  walk_at "d"
  refine dE_lst ?_
  walk_at "d"
  refine dE_wg rfl hd.1 lk_falls ?_
  walk_at "d"
  have hll := left_len hx.nd hx.brk
  simp only [List.length_map]
  rw [show ((x.st.length : Int) - (x.gone.length : Int)) = ((leftOf x.st x.gone).length : Int) by omega]
  have hsh : SeqAt.shaped (.list [.int x.falls, .int ((leftOf x.st x.gone).length : Int), .bool false]) = true := (Shp.list (n := 0) fun d hd => by
    simp only [List.mem_cons, List.not_mem_nil, or_false] at hd
    rcases hd with rfl | rfl | rfl
    · exact .int
    · exact .int
    · exact .bool).shaped
  refine dR_eq .of .of hsh hsh ?_
  rw [shaped_eqv hsh]
  exact ⟨_, k, msub_set MSub.refl hl0⟩
end
end K2
namespace K2
open PySem L2 Sd Ma LamX
local macro_rules | `(tactic| walk_at "d1") => `(tactic| first
  | ((with_reducible refine' dE_var ?dv ?_); (case dv => rfl))
  | with_reducible refine' dE_int ?_
  | with_reducible refine' dE_str ?_
  | with_reducible refine' dE_bl ?_
  | with_reducible refine' dE_non ?_
  | ((with_reducible refine' dE_nt ?dv ?_); (case dv => assumption))
  | with_reducible refine' dE_ref ?_
  | with_reducible refine' dE_op ?_
  | with_reducible refine' dE_un ?_
  | with_reducible refine' dE_cmp ?_
  | with_reducible refine' dE_isN ?_
  | with_reducible refine' dE_notN ?_
  | with_reducible refine' dE_call ?_
  | with_reducible refine' dE_cb ?_
  | with_reducible refine' dE_kw ?_
  | with_reducible refine' dE_tup ?_
  | with_reducible refine' dE_if ?_
  | with_reducible refine' dE_and ?_
  | with_reducible refine' dE_or ?_
  | with_reducible refine' dE_not ?_
  | with_reducible refine' dE_sl ?_
  | with_reducible refine' dO_none ?_
  | with_reducible refine' dO_some ?_
  | with_reducible refine' dA_cons ?_
  | with_reducible refine' dA_nil ?_
  | with_reducible refine' dT_B ?_
  | with_reducible refine' dT_test ?_
  | with_reducible refine' dT_and ?_
  | with_reducible refine' dT_or ?_
  | with_reducible refine' dT_not ?_
  | with_reducible refine' dT_yes ?_
  | with_reducible refine' dR_I0i ?_
  | with_reducible refine' dU_neg ?_
  | ((with_reducible refine' dR_ixT ?dv ?_); (case dv => rfl))
  | with_reducible refine' dS_seq ?_
  | with_reducible refine' dS_next ?_
  | with_reducible refine' dS_ret ?_
  | with_reducible refine' dS_drop ?_
  | with_reducible refine' dS_if ?_
  | with_reducible refine' dS_asg ?_
  | with_reducible refine' dS_par ?_
  | with_reducible refine' dG_name ?_
  | ((with_reducible refine' dG_tup ?dv ?_); (case dv => rfl); (dsimp only [List.map]))
  | with_reducible refine' dGs_cons ?_
  | with_reducible refine' dGs_nil ?_
  | with_reducible refine' dC_abs ?_
  | with_reducible refine' dC_max2 ?_
  | with_reducible refine' dC_min2 ?_
  | with_reducible refine' rtOf.of ?_
  | with_reducible refine' ex_cmp ?_
  | with_reducible refine' ex_bool ?_
  | with_reducible refine' ex_int ?_
  | with_reducible refine' ex_list ?_
  | with_reducible refine' ex_tup ?_
  | with_reducible refine' ex_d ?_
  | with_reducible refine' ex_m ?_
  | with_reducible refine' ex_par ?_
  | with_reducible refine' ex_rg1 ?_
  | with_reducible refine' ex_rg2 ?_
  | ((with_reducible refine' ex_dat ?dv ?dw ?_); (case dv => rfl); (case dw => exact Nat.le_of_ble_eq_true rfl))
  | ((fail_if_success (with_reducible show ∃ _, _)); (fail_if_success (with_reducible show _ ∧ _)); refine ⟨_, _, rfl, ?_⟩)
  | ((fail_if_success (with_reducible show ∃ _, _)); (fail_if_success (with_reducible show _ ∧ _)); refine ⟨_, rfl, ?_⟩)
  | fail)
local macro_rules | `(tactic| walk_at "d") => `(tactic| repeat' walk_at "d1")
local macro_rules | `(tactic| walk_at "e1") => `(tactic| first
  | ((with_reducible refine' dE_var ?dv ?_); (case dv => rfl))
  | with_reducible refine' dE_int ?_
  | with_reducible refine' dE_str ?_
  | with_reducible refine' dE_bl ?_
  | with_reducible refine' dE_non ?_
  | ((with_reducible refine' dE_nt ?dv ?_); (case dv => assumption))
  | with_reducible refine' dE_ref ?_
  | with_reducible refine' dE_op ?_
  | with_reducible refine' dE_un ?_
  | with_reducible refine' dE_cmp ?_
  | with_reducible refine' dE_isN ?_
  | with_reducible refine' dE_notN ?_
  | with_reducible refine' dE_call ?_
  | with_reducible refine' dE_cb ?_
  | with_reducible refine' dE_kw ?_
  | with_reducible refine' dE_tup ?_
  | with_reducible refine' dE_if ?_
  | with_reducible refine' dE_and ?_
  | with_reducible refine' dE_or ?_
  | with_reducible refine' dE_not ?_
  | with_reducible refine' dE_sl ?_
  | with_reducible refine' dO_none ?_
  | with_reducible refine' dO_some ?_
  | with_reducible refine' dA_cons ?_
  | with_reducible refine' dA_nil ?_
  | with_reducible refine' dT_B ?_
  | with_reducible refine' dT_test ?_
  | with_reducible refine' dT_and ?_
  | with_reducible refine' dT_or ?_
  | with_reducible refine' dT_not ?_
  | with_reducible refine' dT_yes ?_
  | with_reducible refine' dR_I0i ?_
  | with_reducible refine' dU_neg ?_
  | ((with_reducible refine' dR_ixT ?dv ?_); (case dv => rfl))
  | with_reducible refine' dS_next ?_
  | with_reducible refine' dS_ret ?_
  | with_reducible refine' dS_drop ?_
  | with_reducible refine' dS_if ?_
  | with_reducible refine' dS_asg ?_
  | with_reducible refine' dS_par ?_
  | with_reducible refine' dG_name ?_
  | ((with_reducible refine' dG_tup ?dv ?_); (case dv => rfl); (dsimp only [List.map]))
  | with_reducible refine' dGs_cons ?_
  | with_reducible refine' dGs_nil ?_
  | with_reducible refine' dC_abs ?_
  | with_reducible refine' dC_max2 ?_
  | with_reducible refine' dC_min2 ?_
  | with_reducible refine' rtOf.of ?_
  | with_reducible refine' ex_cmp ?_
  | with_reducible refine' ex_bool ?_
  | with_reducible refine' ex_int ?_
  | with_reducible refine' ex_list ?_
  | with_reducible refine' ex_tup ?_
  | with_reducible refine' ex_d ?_
  | with_reducible refine' ex_m ?_
  | with_reducible refine' ex_par ?_
  | with_reducible refine' ex_rg1 ?_
  | with_reducible refine' ex_rg2 ?_
  | ((with_reducible refine' ex_dat ?dv ?dw ?_); (case dv => rfl); (case dw => exact Nat.le_of_ble_eq_true rfl))
  | ((fail_if_success (with_reducible show ∃ _, _)); (fail_if_success (with_reducible show _ ∧ _)); refine ⟨_, _, rfl, ?_⟩)
  | ((fail_if_success (with_reducible show ∃ _, _)); (fail_if_success (with_reducible show _ ∧ _)); refine ⟨_, rfl, ?_⟩)
  | fail)
local macro_rules | `(tactic| walk_at "e") => `(tactic| repeat' walk_at "e1")
abbrev qLam : Str := (PyProof.Rows.envOfC "law" (defScope (topS 0)) 0 0 .none).qual ++ "<lambda>"
theorem Rf.told_shp {rf : Rf} (h : ∀ n, rf = .whole n → PyData.canLay0 (.str n) = true) : SeqAt.shaped rf.told = true := by
  rw [told_is]
  refine (Shp.tup (n := 1) fun d hd => ?_).shaped
  simp only [List.mem_cons, List.not_mem_nil, or_false] at hd
  rcases hd with rfl | rfl | rfl
  · exact .non
  · refine .str ?_
    cases rf with
    | hung q => exact show PyData.canLay0 (.str "asked Hung+") = true by decide +kernel
    | whole q => exact show PyData.canLay0 (.str "asked Whole+") = true by decide +kernel
    | _ => decide +kernel
  · cases rf with
    | hung q => exact Shp.fr
    | whole n => exact .str (h n rfl)
    | _ => exact .non
theorem ref_lay {x : WS} {dd : Dd} {rf : Rf} (hx : Wo x) (h : refOf x dd = some rf) : ∀ n, rf = .whole n → PyData.canLay0 (.str n) = true := by
  rintro n rfl
  cases dd with
  | put d =>
    have h' : putR x d = some (.whole n) := h
    unfold putR at h'
    repeat' split at h'
    all_goals cases h'
  | hang d =>
    have h' : hngR x d = some (.whole n) := h
    unfold hngR at h'
    repeat' split at h'
    all_goals cases h'
  | tgt d e =>
    have h' : tgtR x d e = some (.whole n) := h
    unfold tgtR at h'
    repeat' split at h'
    all_goals cases h'
  | spl d =>
    have h' : splR x d = some (.whole n) := h
    unfold splR at h'
    split at h'
    · cases h'
    rename_i h1
    obtain ⟨r, hr, rfl⟩ := nm_str (ro := x.st) (d := d) (by simpa using h1)
    simp only at h'
    split at h'
    · cases h'
      exact hx.lay hr
    · split at h' <;> cases h'
theorem ret_shp {x : WS} {dd : Dd} (hx : Wo x) : SeqAt.shaped (.tuple [retOf x dd, .str "", .none]) = true := by
  refine (Shp.tup (n := 3) fun d hd => ?_).shaped
  simp only [List.mem_cons, List.not_mem_nil, or_false] at hd
  rcases hd with rfl | rfl | rfl
  · cases dd with
    | hang d =>
      refine Shp.list fun d hd => ?_
      obtain ⟨ns, hns, rfl⟩ := List.mem_map.mp hd
      refine Shp.tup fun d hd => ?_
      obtain ⟨n, hn, rfl⟩ := List.mem_map.mp hd
      refine .str ?_
      obtain ⟨s, hs1, rfl⟩ := List.mem_map.mp (mem_waves _ _ (Nat.le_refl _) n (List.mem_flatten.mpr ⟨ns, hns, hn⟩))
      exact hx.lay (List.mem_filter.mp hs1).1
    | _ => exact .non
  · exact .str (by decide +kernel)
  · exact .non
structure Nes (p a wd g b B : Addr) (M : Mem) : Prop where
  ab : a ≠ b
  gb : g ≠ b
  ag : a ≠ g
  pw : p ≠ wd
  pB : p ≠ B
  wB : wd ≠ B
  Ma : M a = none
  Mg : M g = none
  Mb : M b = none
  Mp : M.o p = none
  Mw : M.o wd = none
/-- how things stand: the works tells x, the dict y -/
structure Inw (C p a wd g b B : Addr) (M M' : Mem) (x y : WS) : Prop where
  w : WAt C M' p a x false
  d : DAt M' wd g y
  bg : BI M' b
  tb : M'.o B = some (.tab qLam)
  sub : MSub M M'
section
variable {C p a wd g b B : Addr} {M M' M'' : Mem} {x y z : WS}
theorem Inw.bag (n : Nes p a wd g b B M) (i : Inw C p a wd g b B M M' x y) (k : BS M' b M'') : Inw C p a wd g b B M M'' x y :=
  ⟨⟨k.o.trans i.w.1, (k.ne n.ab).trans i.w.2⟩, ⟨k.o.trans i.d.1, (k.ne n.gb).trans i.d.2⟩, k.bi, k.o.trans i.tb, msub_bs i.sub n.Mb k⟩
theorem Inw.dict (n : Nes p a wd g b B M) (i : Inw C p a wd g b B M M' x y) : Inw C p a wd g b B M (dput M' wd g z) x z := by
  obtain ⟨ds, h1, h2⟩ := i.bg
  exact ⟨⟨(oset_ne n.pw).trans i.w.1, (mset_ne n.ag).trans i.w.2⟩, dput_at, ⟨ds, (mset_ne (Ne.symm n.gb)).trans h1, h2⟩, (oset_ne (Ne.symm n.wB)).trans i.tb, msub_oset (msub_set i.sub n.Mg) n.Mw⟩
theorem Inw.works (n : Nes p a wd g b B M) (i : Inw C p a wd g b B M M' x y) : Inw C p a wd g b B M (wput C M' p a z false) z y := by
  obtain ⟨ds, h1, h2⟩ := i.bg
  exact ⟨wput_at, ⟨(oset_ne (Ne.symm n.pw)).trans i.d.1, (mset_ne (Ne.symm n.ag)).trans i.d.2⟩, ⟨ds, (mset_ne (Ne.symm n.ab)).trans h1, h2⟩, (oset_ne (Ne.symm n.pB)).trans i.tb, msub_oset (msub_set i.sub n.Ma) n.Mp⟩
theorem sub_no {c : Addr} (h : MSub M M') (k : M' c = none) : M c = none := by
  cases q : M c with
  | none => rfl
  | some ds => rw [h.l c ds q] at k; cases k
theorem sub_noO {c : Addr} (h : MSub M M') (k : M'.o c = none) : M.o c = none := by
  cases q : M.o c with
  | none => rfl
  | some ds => rw [h.o c ds q] at k; cases k
theorem Inw.fresh {l : Addr} {ds : List PyData} (i : Inw C p a wd g b B M M' x y) (hl : M' l = none) : Inw C p a wd g b B M (mset M' l ds) x y := by
  have ne : ∀ {c : Addr} {es : List PyData}, M' c = some es → c ≠ l := fun {c es} e k => by rw [k, hl] at e; cases e
  obtain ⟨es, h1, h2⟩ := i.bg
  exact ⟨⟨i.w.1, (mset_ne (ne i.w.2)).trans i.w.2⟩, ⟨i.d.1, (mset_ne (ne i.d.2)).trans i.d.2⟩, ⟨es, (mset_ne (ne h1)).trans h1, h2⟩, i.tb, msub_set i.sub (sub_no i.sub hl)⟩
end
section
variable {P : Program} {w : World} {K : PySem.W.Frag} {mg : Str → Option Value} {base : Heap} {E : EC} {C : Addr}
def S_lawB (B : Addr) : SpD := fun rs M P => ∃ ns : List Int, rs = [.l ns] ∧ ns.length ≤ 63 ∧ M.o B = some (.tab qLam) ∧ P (.d (.bool true)) M
abbrev s_law : Stmt := topS 73
theorem sc_law : FnScope ["script", "k", "bag", "works", "w", "turn", "deed", "refusal", "due"] ["script"] (defScope s_law) := ⟨rfl, rfl, rfl, by decide +kernel, rfl, by decide +kernel, by decide +kernel⟩
theorem ok_law {f f_law_told c B : Addr} {oc kV doc pm ct : Value} {od an : Option Addr} {sl : Array (Option Value)} (lk : K.lookup f = some ⟨oc, od, .func (PySem.W.fnOf "law" "law" (defArgs s_law) (defBody s_law) (defScope s_law) .none kV doc pm an (.ref c) ct), sl⟩) (cd : PySem.W.codeIn K (.ref c) "law" = true)
    (wk : Wk K C) (Z : Ers K mg P E) (T : Txt mg) (TB : TabB base mg c B) (dt : Df K mg "_law_told" s_law_told f_law_told ["call"]) (c_law_kinds : HasE P w K mg base 1 "_law_kinds" ["e"] (S_kinds K E)) (c_law_bag : Has P w K mg base 1 "_law_bag" ["script", "k"] S_bag) (c_law_take : Has P w K mg base 1 "_law_take" ["bag", "many"] S_take) (c_Works_new : HasC P w K mg base 1 C "Works" ["self"] (S_init C)) (c_law_new : Has P w K mg base 1 "_law_new" [] S_new) (c_law_deed : Has P w K mg base 4 "_law_deed" ["bag", "w"] S_deed) (c_law_strange : Has P w K mg base 3 "_law_strange" ["bag", "deed"] S_str) (c_law_refusal_of : Has P w K mg base 3 "_law_refusal_of" ["w", "deed"] S_refu) (c_law_done : Has P w K mg base 4 "_law_done" ["w", "deed"] S_done) (c_law_do : HasX P w K mg base 8 "_law_do" ["works", "deed"] (S_do E C)) (c_law_works_so : Has P w K mg base 6 "_law_works_so" ["works", "w"] (S_so C)) (c_Works_log : HasM P w K mg base 1 C "log" ["self"] (S_log C)) :
    FnOk P w K mg base CX0 11 f (PySem.W.fnOf "law" "law" (defArgs s_law) (defBody s_law) (defScope s_law) .none kV doc pm an (.ref c) ct) ["script"] (spOf K (S_lawB B)) := by
  obtain ⟨fdt, Ft, mt, bt⟩ := dt.ex
  refine ok_ofC lk cd sc_law (fun rs M P h => by obtain ⟨a, rfl, _⟩ := h; rfl) fun A outer s H XE hr => ⟨_, (pss_cons (ps_for PassesOwn.never rfl (pi_range1 (by rfl) T.range (pa_cons (pe_op op_add pe_int (pe_callB (call_min2 rfl) (by rfl) T.min (by decide +kernel) (pa_cons (pe_callB (kcall_len K) (by rfl) T.len (by decide +kernel) (pa_cons (pv 0) pa_nil)) (pa_cons pe_int pa_nil)))) pa_nil)) (pg_name (i := 1) sc_law.nd rfl (Or.inl rfl)) (pss_cons (ps_set (i := 2) sc_law.nd rfl (Or.inl rfl) (pe_callH' c_law_bag (hr.mono (by first | decide | omega)) rfl (pa_cons (pv 0) (pa_cons (pv 1) pa_nil))))
      (pss_cons (ps_asg (pe_tup (pa_cons (pe_mk0 c_Works_new (hr.mono (by first | decide | omega)) rfl) (pa_cons (pe_callH0' c_law_new (hr.mono (by first | decide | omega)) rfl) pa_nil))) (kpg_tup K (n := 2) rfl (pgs_cons (pg_name (i := 3) sc_law.nd rfl (Or.inr rfl)) (pgs_cons (pg_name (i := 4) sc_law.nd rfl (Or.inl rfl)) pgs_nil))))
      (pss_one (ps_for PassesOwn.never rfl (pi_range1 (by rfl) T.range (pa_cons (pe_ix (kix_list K) (pe_lst (pa_cons pe_int (pa_cons pe_int (pa_cons pe_int pa_nil)))) (pe_callH' c_law_take (hr.mono (by first | decide | omega)) rfl (pa_cons (pv 2) (pa_cons pe_int pa_nil))) (fun _ _ => rfl)) pa_nil)) (pg_name (i := 5) sc_law.nd rfl (Or.inl rfl)) (pss_cons (ps_set (i := 6) sc_law.nd rfl (Or.inr rfl) (pe_callH' c_law_deed (hr.mono (by first | decide | omega)) rfl (pa_cons (pv 2) (pa_cons (pv 4) pa_nil))))
      (pss_cons (ps_if (pt_cmp (pc_eqI (pe_callH' c_law_take (hr.mono (by first | decide | omega)) rfl (pa_cons (pv 2) (pa_cons pe_int pa_nil))) pe_int)) (pss_one (ps_set (i := 6) sc_law.nd rfl (Or.inr rfl) (pe_callH' c_law_strange (hr.mono (by first | decide | omega)) rfl (pa_cons (pv 2) (pa_cons (pv 6) pa_nil))))) pss_nil)
      (pss_cons (ps_set (i := 7) sc_law.nd rfl (Or.inl rfl) (pe_callH' c_law_refusal_of (hr.mono (by first | decide | omega)) rfl (pa_cons (pv 4) (pa_cons (pv 6) pa_nil))))
      (pss_cons (ps_set (i := 8) sc_law.nd rfl (Or.inl rfl) (pe_ifExp (pt_cmp (pc_notN (pv 7))) (pe_op (kop_catT K) (pe_tup (pa_cons pe_non pa_nil)) (pv 7)) (pe_tup (pa_cons (pe_callH' c_law_done (hr.mono (by first | decide | omega)) rfl (pa_cons (pv 4) (pa_cons (pv 6) pa_nil))) (pa_cons pe_str (pa_cons pe_non pa_nil))))))
      (pss_cons (ps_if (PW.pt (pw_or (pt_cmpR (kop_neD K hr.units) (pe_lamN (x := "_law_told") (a := "call") (N := ["call", "found", "kind", "field", "e"]) (st := s_law_told) (k := 8) rfl mt Ft bt sc_law_told rfl (Or.inl rfl) (fun cd => told_gives Z c_law_kinds) TB rfl (hr.mono (by first | decide | omega)) (LamX.lamS_by (sc := defScope s_law) (by decide +kernel)) rfl (fun _ _ _ _ _ => rfl) (fun A outer s H XE f c hr => (pe_callX c_law_do (hr.mono (by first | decide | omega)) (L2N.takes_of rfl rfl rfl rfl) rfl (pa_cons (pv 3) (pa_cons (pv 6) pa_nil))))) (pv 8) (nomark _)) (pw_or1 (pt_not (pt_val (pe_callH' c_law_works_so (hr.mono (by first | decide | omega)) rfl (pa_cons (pv 3) (pa_cons (pv 4) pa_nil)))))))) (pss_one (ps_ret pe_bl)) pss_nil)
      (pss_one (ps_expr (kpe_bm K (pe_bm PySem.F.plainAttrs_list PySem.F.slot_list_append PySem.F.type_list_append mt_append (pe_m0 (pv 3) wk.cl c_Works_log (hr.mono (by first | decide | omega))) (pa_cons pe_str pa_nil)))))))))))))))
      (pss_one (ps_ret pe_bl))), fun rs M R h => ?_⟩
  obtain ⟨ns, rfl, hns, hB, k⟩ := h
  walk_at "d"
  refine dS_range1 ?_
  walk_at "d"
  refine dC_lenS ?_
  walk_at "d"
  refine ⟨by split <;> omega, fun i δ M' => ∃ (x1 x2 x3 x4 x5 x6 x7 x8 : Option SV), δ = [some (.l ns), x1, x2, x3, x4, x5, x6, x7, x8] ∧ MSub M M', ⟨_, _, _, _, _, _, _, _, rfl, MSub.refl⟩, fun i δ M' hi hI => ?_, fun δ M' hI => ?_⟩
  · obtain ⟨x1, x2, x3, x4, x5, x6, x7, x8, rfl, hM⟩ := hI
    have hi' : (i : Int) < 1000 := by split at hi <;> omega
    walk_at "d"
    refine ⟨by omega, hi', fun b ds hb hBg => ?_⟩
    have hMb : M b = none := sub_no hM hb
    refine dG_name ?_
    refine dS_seq (dS_two ?_)
    refine dA_cons (dE_make (dA_nil fun p hpo hpl => ?_))
    refine ⟨p, rfl, oset_same, fun a ha => ⟨rfl, ?_⟩⟩
    rw [show wput C (oset (mset M' b ds) p (.ins C [])) p a w0 false = wput C (mset M' b ds) p a w0 false from by unfold wput; rw [mset_oset, oset_oset]]
    refine dA_cons (dE_call (dA_nil ⟨rfl, fun wd g hwo hwl hg => ?_⟩))
    have hpo' : M'.o p = none := hpo
    have ha' : (mset M' b ds) a = none := ha
    have hab : a ≠ b := by rintro rfl; rw [mset_same] at ha'; cases ha'
    have hag : a ≠ g := by rintro rfl; rw [wput_l] at hg; cases hg
    have hg2 : (mset M' b ds) g = none := by
      have h1 : (mset (mset M' b ds) a _) g = none := hg
      rwa [mset_ne (Ne.symm hag)] at h1
    have hgb : g ≠ b := by rintro rfl; rw [mset_same] at hg2; cases hg2
    have hpw : p ≠ wd := by rintro rfl; rw [wput_o] at hwo; cases hwo
    have hwo2 : M'.o wd = none := by
      have h1 : (oset (mset (mset M' b ds) a _) p _).o wd = none := hwo
      rwa [oset_ne (Ne.symm hpw)] at h1
    have htb : M'.o B = some (.tab qLam) := hM.o B _ hB
    have n : Nes p a wd g b B M := ⟨hab, hgb, hag, hpw, (by rintro rfl; rw [htb] at hpo'; cases hpo'), (by rintro rfl; rw [htb] at hwo2; cases hwo2), sub_no hM (by rwa [mset_ne hab] at ha'), sub_no hM (by rwa [mset_ne hgb] at hg2), hMb, sub_noO hM hpo', sub_noO hM hwo2⟩
    have i0 : Inw C p a wd g b B M (dput (wput C (mset M' b ds) p a w0 false) wd g w0) w0 w0 :=
      ⟨⟨(oset_ne hpw).trans wput_o, (mset_ne hag).trans wput_l⟩, dput_at, ⟨ds, (mset_ne (Ne.symm hgb)).trans ((mset_ne (Ne.symm hab)).trans mset_same), hBg⟩, (oset_ne (Ne.symm n.wB)).trans ((oset_ne (Ne.symm n.pB)).trans htb), msub_oset (msub_set (msub_oset (msub_set (msub_set hM hMb) n.Ma) n.Mp) n.Mg) n.Mw⟩
    generalize dput (wput C (mset M' b ds) p a w0 false) wd g w0 = M1 at i0
    refine dA_nil ⟨_, _, rfl, ?_⟩
    refine dS_range1 ?_
    walk_at "d"
    refine dE_lst ?_
    walk_at "d"
    refine ⟨by decide, by decide, i0.bg, fun t M2 t0 t1 B2 => ?_⟩
    obtain ⟨n1, hn1, hm1⟩ := pickI (ns := [10, 20, 30]) t0 t1
    refine dR_ixL (.inl rfl) hn1 ?_
    have hn1' : 1 ≤ n1 ∧ n1 ≤ 30 := by simp at hm1; omega
    have i2 := i0.bag n B2
    walk_at "d"
    refine ⟨by omega, fun j δ M3 => ∃ (x5 x6 x7 x8 : Option SV) (x : WS), δ = [some (.l ns), some (.d (.int i)), some (.m b), some (.m p), some (.m wd), x5, x6, x7, x8] ∧ Inw C p a wd g b B M M3 x x ∧ Wo x ∧ Srt x ∧ x.story.length ≤ j, ⟨_, _, _, _, w0, rfl, i2, w0_ok, ⟨sortN_none.mpr rfl, fun r hr => by cases hr⟩, Nat.le_refl _⟩, fun j δ M3 hj hI => ?_, fun δ M3 hI => ?_⟩
    · obtain ⟨x5, x6, x7, x8, x, rfl, i3, hx, hs, hst⟩ := hI
      have hj30 : j < 30 := by omega
      walk_at "d"
      refine ⟨b, wd, g, x, rfl, i3.bg, i3.d.1, hx, fun dd0 M4 ok0 B4 => ?_⟩
      have i4 := i3.bag n B4
      refine dG_name ?_
      refine dS_cut (fun δ' M5 => ∃ (x7 x8 : Option SV) (dd : Dd), δ' = [some (.l ns), some (.d (.int i)), some (.m b), some (.m p), some (.m wd), some (.d (.int j)), some (.d dd.d), x7, x8] ∧ Inw C p a wd g b B M M5 x x ∧ dd.Ok) ?_ ?_
      · walk_at "d"
        refine ⟨by decide, by decide, i4.bg, fun t5 M5 _ _ B5 => ?_⟩
        have i5 := i4.bag n B5
        walk_at "d"
        refine ifB (fun h => ?_) (fun h => ?_)
        · walk_at "d"
          refine ⟨i5.bg, ok0, fun dd M6 ok B6 => ?_⟩
          refine dG_name ?_
          exact ⟨_, _, dd, rfl, i5.bag n B6, ok⟩
        · exact dS_next ⟨_, _, dd0, rfl, i5, ok0⟩
      rintro δ' M5 ⟨x7, x8, dd, rfl, i5, ok⟩
      walk_at "d"
      refine ⟨wd, g, x, dd, rfl, i5.d.1, hx, ok, ?_⟩
      refine dG_name ?_
      refine dS_cut (fun δ' M6 => ∃ (x7 : Option SV) (due : PyData) (y : WS), δ' = [some (.l ns), some (.d (.int i)), some (.m b), some (.m p), some (.m wd), some (.d (.int j)), some (.d dd.d), x7, some (.d due)] ∧ Inw C p a wd g b B M M6 x y ∧ Wo y ∧ Srt y ∧ y.story.length ≤ j + 1 ∧ SeqAt.shaped due = true ∧ ((∃ rf, refOf x dd = some rf ∧ due = rf.told ∧ y = x) ∨ (refOf x dd = none ∧ due = .tuple [retOf x dd, .str "", .none] ∧ y = doneW x dd))) ?_ ?_
      · cases hr : refOf x dd with
        | none =>
          unfold refD
          walk_at "d"
          refine ifF rfl ?_
          walk_at "d"
          refine ⟨wd, g, x, dd, rfl, i5.d, hx, hs, by omega, ok, hr, ?_⟩
          walk_at "d"
          obtain ⟨q1, q2, q3⟩ := done_ok hx hs ok hr
          exact ⟨_, _, doneW x dd, rfl, i5.dict n, q1, q2, by omega, ret_shp hx, .inr ⟨rfl, rfl, rfl⟩⟩
        | some rf =>
          unfold refD
          walk_at "d"
          refine ifT rfl ?_
          walk_at "d"
          refine dR_catT (by simp) (by simp) (by simp) ?_
          walk_at "d"
          exact ⟨_, _, x, rfl, i5, hx, hs, by omega, by have := Rf.told_shp (ref_lay hx hr); rwa [told_is] at this, .inl ⟨rf, rfl, (told_is rf).symm, rfl⟩⟩
      rintro δ' M6 ⟨x7, due, y, rfl, i6, hy, hsy, hsty, hshp, rel⟩
      walk_at "d"
      refine dE.mono (P := fun r M7 => r = .d due ∧ Inw C p a wd g b B M M7 y y) ?_ fun r M7 hr => ?_
      · rcases rel with ⟨rf, hr, rfl, rfl⟩ | ⟨hr, rfl, rfl⟩
        · refine dE_told (E := E) (P1 := fun _ _ => False) (PX := fun cls d M' => RfAt E rf cls d (wput C M6 p a y false) M') i6.tb (fun E' => ?_) (fun r M' h => h.elim) (fun cls d M' h => ⟨rf, _, h, rfl, i6.works n⟩)
          refine dEX_callX ?_
          walk_at "d"
          exact ⟨p, a, y, false, dd, rfl, i6.w, hx, by omega, ok, fun rf' h => by rw [hr] at h; cases h; exact Rf.out_of _ fun cls d M' h => h, fun h => by rw [hr] at h; cases h⟩
        · refine dE_told (E := E) (P1 := fun r M' => r = .d (retOf x dd) ∧ M' = wput C M6 p a (doneW x dd) false) (PX := fun _ _ _ => False) i6.tb (fun E' => ?_) (fun r M' h => ?_) (fun cls d M' h => h.elim)
          · refine dEX_callX ?_
            walk_at "d"
            exact ⟨p, a, x, false, dd, rfl, i6.w, hx, by omega, ok, (fun rf' h => by rw [hr] at h; cases h), fun h => ⟨rfl, rfl⟩⟩
          · obtain ⟨rfl, rfl⟩ := h
            exact ⟨_, rfl, rfl, i6.works n⟩
      obtain ⟨rfl, i7⟩ := hr
      walk_at "d"
      refine dR_ne_same (d := due) .of .of hshp ?_
      walk_at "d"
      refine ifF rfl ?_
      walk_at "d"
      refine ⟨p, a, wd, g, y, rfl, i7.w, i7.d, hy, hsy, ?_⟩
      walk_at "d"
      refine ifF rfl ?_
      walk_at "d"
      refine dE_app ?_
      refine dE_ownM (i := 3) rfl i7.w.1 rfl ?_
      walk_at "d"
      refine ⟨p, a, y, false, rfl, i7.w, fun l hl => ⟨l, rfl, ⟨_, mset_same⟩, ?_⟩⟩
      walk_at "d"
      refine ⟨_, _, rfl, mset_same, by rw [List.length_map]; omega, ?_⟩
      rw [mset_mset]
      exact ⟨_, _, _, _, y, rfl, i7.fresh hl, hy, hsy, hsty⟩
    · obtain ⟨x5, x6, x7, x8, x, rfl, i3, _⟩ := hI
      exact ⟨_, _, _, _, _, _, _, _, rfl, i3.sub⟩
  · obtain ⟨x1, x2, x3, x4, x5, x6, x7, x8, rfl, hM⟩ := hI
    refine dS_ret (dE_bl ⟨M, k, hM⟩)
end
end K2
namespace K2
open PySem L2 Sd Ma
open PySem.W in
theorem all_mk {l : PySem.W.OpenLaw} {w : World} {K : PySem.W.Frag} {h : Heap} {mg : Str → Option Value} {fa : Addr} (X : K.In h) (G : h.Ns mainGlobals mg) (hfa : mg "law" = some (.ref fa))
    {f_is_whole : Addr} {od0 an0 : Option Addr} {sl0 : Array (Option Value)} {oc0 kV0 dc0 pm0 cd0 ct0 : Value}
    {f_is_name : Addr} {od1 an1 : Option Addr} {sl1 : Array (Option Value)} {oc1 kV1 dc1 pm1 cd1 ct1 : Value}
    {f_is_fraction : Addr} {od2 an2 : Option Addr} {sl2 : Array (Option Value)} {oc2 kV2 dc2 pm2 cd2 ct2 : Value}
    {f_common_divisor : Addr} {od3 an3 : Option Addr} {sl3 : Array (Option Value)} {oc3 kV3 dc3 pm3 cd3 ct3 : Value}
    {f_fraction : Addr} {od4 an4 : Option Addr} {sl4 : Array (Option Value)} {oc4 kV4 dc4 pm4 cd4 ct4 : Value}
    {f_is_load : Addr} {od5 an5 : Option Addr} {sl5 : Array (Option Value)} {oc5 kV5 dc5 pm5 cd5 ct5 : Value}
    {f_is_rope : Addr} {od6 an6 : Option Addr} {sl6 : Array (Option Value)} {oc6 kV6 dc6 pm6 cd6 ct6 : Value}
    {f_is_within : Addr} {od7 an7 : Option Addr} {sl7 : Array (Option Value)} {oc7 kV7 dc7 pm7 cd7 ct7 : Value}
    {f_ropes_left : Addr} {od8 an8 : Option Addr} {sl8 : Array (Option Value)} {oc8 kV8 dc8 pm8 cd8 ct8 : Value}
    {f_sunk_by : Addr} {od9 an9 : Option Addr} {sl9 : Array (Option Value)} {oc9 kV9 dc9 pm9 cd9 ct9 : Value}
    {f_slack_of : Addr} {od10 an10 : Option Addr} {sl10 : Array (Option Value)} {oc10 kV10 dc10 pm10 cd10 ct10 : Value}
    {f_is_drawn : Addr} {od11 an11 : Option Addr} {sl11 : Array (Option Value)} {oc11 kV11 dc11 pm11 cd11 ct11 : Value}
    {f_pull_at : Addr} {od12 an12 : Option Addr} {sl12 : Array (Option Value)} {oc12 kV12 dc12 pm12 cd12 ct12 : Value}
    {f_waves : Addr} {od13 an13 : Option Addr} {sl13 : Array (Option Value)} {oc13 kV13 dc13 pm13 cd13 ct13 : Value}
    {f_giving_way : Addr} {od14 an14 : Option Addr} {sl14 : Array (Option Value)} {oc14 kV14 dc14 pm14 cd14 ct14 : Value}
    {f_is_too_much : Addr} {od15 an15 : Option Addr} {sl15 : Array (Option Value)} {oc15 kV15 dc15 pm15 cd15 ct15 : Value}
    {f_is_named : Addr} {od16 an16 : Option Addr} {sl16 : Array (Option Value)} {oc16 kV16 dc16 pm16 cd16 ct16 : Value}
    {f_slack_called : Addr} {od17 an17 : Option Addr} {sl17 : Array (Option Value)} {oc17 kV17 dc17 pm17 cd17 ct17 : Value}
    {f_tighter : Addr} {od18 an18 : Option Addr} {sl18 : Array (Option Value)} {oc18 kV18 dc18 pm18 cd18 ct18 : Value}
    {f_law_bag : Addr} {od19 an19 : Option Addr} {sl19 : Array (Option Value)} {oc19 kV19 dc19 pm19 cd19 ct19 : Value}
    {f_law_take : Addr} {od20 an20 : Option Addr} {sl20 : Array (Option Value)} {oc20 kV20 dc20 pm20 cd20 ct20 : Value}
    {f_law_of : Addr} {od21 an21 : Option Addr} {sl21 : Array (Option Value)} {oc21 kV21 dc21 pm21 cd21 ct21 : Value}
    {f_law_whole : Addr} {od22 an22 : Option Addr} {sl22 : Array (Option Value)} {oc22 kV22 dc22 pm22 cd22 ct22 : Value}
    {f_law_within : Addr} {od23 an23 : Option Addr} {sl23 : Array (Option Value)} {oc23 kV23 dc23 pm23 cd23 ct23 : Value}
    {f_law_is_name : Addr} {od24 an24 : Option Addr} {sl24 : Array (Option Value)} {oc24 kV24 dc24 pm24 cd24 ct24 : Value}
    {f_law_odd : Addr} {od25 an25 : Option Addr} {sl25 : Array (Option Value)} {oc25 kV25 dc25 pm25 cd25 ct25 : Value}
    {f_law_lowest : Addr} {od26 an26 : Option Addr} {sl26 : Array (Option Value)} {oc26 kV26 dc26 pm26 cd26 ct26 : Value}
    {f_law_rope : Addr} {od27 an27 : Option Addr} {sl27 : Array (Option Value)} {oc27 kV27 dc27 pm27 cd27 ct27 : Value}
    {f_law_load : Addr} {od28 an28 : Option Addr} {sl28 : Array (Option Value)} {oc28 kV28 dc28 pm28 cd28 ct28 : Value}
    {f_law_plus : Addr} {od29 an29 : Option Addr} {sl29 : Array (Option Value)} {oc29 kV29 dc29 pm29 cd29 ct29 : Value}
    {f_law_less : Addr} {od30 an30 : Option Addr} {sl30 : Array (Option Value)} {oc30 kV30 dc30 pm30 cd30 ct30 : Value}
    {f_law_left : Addr} {od31 an31 : Option Addr} {sl31 : Array (Option Value)} {oc31 kV31 dc31 pm31 cd31 ct31 : Value}
    {f_law_pull : Addr} {od32 an32 : Option Addr} {sl32 : Array (Option Value)} {oc32 kV32 dc32 pm32 cd32 ct32 : Value}
    {f_law_sunk : Addr} {od33 an33 : Option Addr} {sl33 : Array (Option Value)} {oc33 kV33 dc33 pm33 cd33 ct33 : Value}
    {f_law_waves : Addr} {od34 an34 : Option Addr} {sl34 : Array (Option Value)} {oc34 kV34 dc34 pm34 cd34 ct34 : Value}
    {f_law_end : Addr} {od35 an35 : Option Addr} {sl35 : Array (Option Value)} {oc35 kV35 dc35 pm35 cd35 ct35 : Value}
    {f_law_marks : Addr} {od36 an36 : Option Addr} {sl36 : Array (Option Value)} {oc36 kV36 dc36 pm36 cd36 ct36 : Value}
    {f_law_new : Addr} {od37 an37 : Option Addr} {sl37 : Array (Option Value)} {oc37 kV37 dc37 pm37 cd37 ct37 : Value}
    {f_law_is_part : Addr} {od38 an38 : Option Addr} {sl38 : Array (Option Value)} {oc38 kV38 dc38 pm38 cd38 ct38 : Value}
    {f_law_good_rope : Addr} {od39 an39 : Option Addr} {sl39 : Array (Option Value)} {oc39 kV39 dc39 pm39 cd39 ct39 : Value}
    {f_law_refusal_of : Addr} {od40 an40 : Option Addr} {sl40 : Array (Option Value)} {oc40 kV40 dc40 pm40 cd40 ct40 : Value}
    {f_law_done : Addr} {od41 an41 : Option Addr} {sl41 : Array (Option Value)} {oc41 kV41 dc41 pm41 cd41 ct41 : Value}
    {f_law_kinds : Addr} {od42 an42 : Option Addr} {sl42 : Array (Option Value)} {oc42 kV42 dc42 pm42 cd42 ct42 : Value}
    {f_law_told : Addr} {od43 an43 : Option Addr} {sl43 : Array (Option Value)} {oc43 kV43 dc43 pm43 cd43 ct43 : Value}
    {f_law_do : Addr} {od44 an44 : Option Addr} {sl44 : Array (Option Value)} {oc44 kV44 dc44 pm44 cd44 ct44 : Value}
    {f_law_deed : Addr} {od45 an45 : Option Addr} {sl45 : Array (Option Value)} {oc45 kV45 dc45 pm45 cd45 ct45 : Value}
    {f_law_works_so : Addr} {od46 an46 : Option Addr} {sl46 : Array (Option Value)} {oc46 kV46 dc46 pm46 cd46 ct46 : Value}
    {f_law_strange : Addr} {od47 an47 : Option Addr} {sl47 : Array (Option Value)} {oc47 kV47 dc47 pm47 cd47 ct47 : Value}
    {f_law cL : Addr} {od48 an48 : Option Addr} {sl48 : Array (Option Value)} {oc48 kV48 dc48 pm48 ct48 : Value}
    {a_N : Addr} {odN : Option Addr} {t0N t1N : Tok} {nN : Nat} {slN : Array (Option Value)}
    {t_MOST_LETTERS : Tok}
    {t_MOST_SLACK : Tok}
    {t_MOST_STIFF : Tok}
    {t_MOST_STRONG : Tok}
    {t_MOST_ROPES : Tok}
    {C : Addr}
    {f_Winit : Addr} {od_init an_init : Option Addr} {sl_init : Array (Option Value)} {oc_init kV_init dc_init pm_init cd_init ct_init : Value}
    {f_Wlen : Addr} {od_len an_len : Option Addr} {sl_len : Array (Option Value)} {oc_len kV_len dc_len pm_len cd_len ct_len : Value}
    {f_Wrefuse_hung : Addr} {od_refuse_hung an_refuse_hung : Option Addr} {sl_refuse_hung : Array (Option Value)} {oc_refuse_hung kV_refuse_hung dc_refuse_hung pm_refuse_hung cd_refuse_hung ct_refuse_hung : Value}
    {f_Wrefuse_unnamed : Addr} {od_refuse_unnamed an_refuse_unnamed : Option Addr} {sl_refuse_unnamed : Array (Option Value)} {oc_refuse_unnamed kV_refuse_unnamed dc_refuse_unnamed pm_refuse_unnamed cd_refuse_unnamed ct_refuse_unnamed : Value}
    {f_Wlose : Addr} {od_lose an_lose : Option Addr} {sl_lose : Array (Option Value)} {oc_lose kV_lose dc_lose pm_lose cd_lose ct_lose : Value}
    {f_Wsettle : Addr} {od_settle an_settle : Option Addr} {sl_settle : Array (Option Value)} {oc_settle kV_settle dc_settle pm_settle cd_settle ct_settle : Value}
    {f_Wput : Addr} {od_put an_put : Option Addr} {sl_put : Array (Option Value)} {oc_put kV_put dc_put pm_put cd_put ct_put : Value}
    {f_Whang : Addr} {od_hang an_hang : Option Addr} {sl_hang : Array (Option Value)} {oc_hang kV_hang dc_hang pm_hang cd_hang ct_hang : Value}
    {f_Wsplice : Addr} {od_splice an_splice : Option Addr} {sl_splice : Array (Option Value)} {oc_splice kV_splice dc_splice pm_splice cd_splice ct_splice : Value}
    {f_Wtighten : Addr} {od_tighten an_tighten : Option Addr} {sl_tighten : Array (Option Value)} {oc_tighten kV_tighten dc_tighten pm_tighten cd_tighten ct_tighten : Value}
    {f_Wropes : Addr} {od_ropes an_ropes : Option Addr} {sl_ropes : Array (Option Value)} {oc_ropes kV_ropes dc_ropes pm_ropes cd_ropes ct_ropes : Value}
    {f_Wbroken : Addr} {od_broken an_broken : Option Addr} {sl_broken : Array (Option Value)} {oc_broken kV_broken dc_broken pm_broken cd_broken ct_broken : Value}
    {f_Wload : Addr} {od_load an_load : Option Addr} {sl_load : Array (Option Value)} {oc_load kV_load dc_load pm_load cd_load ct_load : Value}
    {f_Wsinking : Addr} {od_sinking an_sinking : Option Addr} {sl_sinking : Array (Option Value)} {oc_sinking kV_sinking dc_sinking pm_sinking cd_sinking ct_sinking : Value}
    {f_Wlog : Addr} {od_log an_log : Option Addr} {sl_log : Array (Option Value)} {oc_log kV_log dc_log pm_log cd_log ct_log : Value}
    {f_Wfell : Addr} {od_fell an_fell : Option Addr} {sl_fell : Array (Option Value)} {oc_fell kV_fell dc_fell pm_fell cd_fell ct_fell : Value}
    {e_AskedError : Addr}
    {e_ToldError : Addr}
    {e_PullError : Addr}
    {e_NoRope : Addr}
    {e_NoLoad : Addr}
    {e_NoName : Addr}
    {e_NoNumber : Addr}
    {e_Taken : Addr}
    {e_Full : Addr}
    {e_NoRopes : Addr}
    {e_Hung : Addr}
    {e_Whole : Addr}
    {fI_Hung cc_Hung cda_Hung N_Hung : Addr} {nm_Hung qn_Hung qual_Hung txt_Hung file_Hung : Str} {bs_Hung bm_Hung sub_Hung : List Value} {sn_Hung : List Str} {ab_Hung : Bool} {col_Hung : Option Bool} {dd_Hung od_Hung an_Hung cld_Hung cdd_Hung : Option Addr} {m0_Hung m1_Hung m2_Hung m3_Hung m5_Hung : Option Value} {oc_Hung kV_Hung doc_Hung pm_Hung ct_Hung cl_Hung ccl_Hung : Value} {osl_Hung csl_Hung ccs_Hung : Array (Option Value)} {vs_Hung : Array Value} {tf_Hung : Tok} {j_Hung : Nat} {p1_Hung p2_Hung r0_Hung r1_Hung r2_Hung r3_Hung r4_Hung r5_Hung q1_Hung q2_Hung q3_Hung q4_Hung : Pos}
    {fI_Whole cc_Whole cda_Whole N_Whole : Addr} {nm_Whole qn_Whole qual_Whole txt_Whole file_Whole : Str} {bs_Whole bm_Whole sub_Whole : List Value} {sn_Whole : List Str} {ab_Whole : Bool} {col_Whole : Option Bool} {dd_Whole od_Whole an_Whole cld_Whole cdd_Whole : Option Addr} {m0_Whole m1_Whole m2_Whole m3_Whole m5_Whole : Option Value} {oc_Whole kV_Whole doc_Whole pm_Whole ct_Whole cl_Whole ccl_Whole : Value} {osl_Whole csl_Whole ccs_Whole : Array (Option Value)} {vs_Whole : Array Value} {tf_Whole : Tok} {j_Whole : Nat} {p1_Whole p2_Whole r0_Whole r1_Whole r2_Whole r3_Whole r4_Whole r5_Whole q1_Whole q2_Whole q3_Whole q4_Whole : Pos}
    {B : Addr}
    (a0 : PySem.W.nsIn K mainGlobals "is_whole" = some (some (.ref f_is_whole)))
    (l0 : K.lookup f_is_whole = some ⟨oc0, od0, .func (PySem.W.fnOf "is_whole" "is_whole" (defArgs s_is_whole) (defBody s_is_whole) (defScope s_is_whole) .none kV0 dc0 pm0 an0 cd0 ct0), sl0⟩)
    (c0 : PySem.W.codeIn K cd0 "is_whole" = true)
    (k0 : PySem.W.keepIn K (.ref f_is_whole) = true)
    (a1 : PySem.W.nsIn K mainGlobals "is_name" = some (some (.ref f_is_name)))
    (l1 : K.lookup f_is_name = some ⟨oc1, od1, .func (PySem.W.fnOf "is_name" "is_name" (defArgs s_is_name) (defBody s_is_name) (defScope s_is_name) .none kV1 dc1 pm1 an1 cd1 ct1), sl1⟩)
    (c1 : PySem.W.codeIn K cd1 "is_name" = true)
    (k1 : PySem.W.keepIn K (.ref f_is_name) = true)
    (a2 : PySem.W.nsIn K mainGlobals "is_fraction" = some (some (.ref f_is_fraction)))
    (l2 : K.lookup f_is_fraction = some ⟨oc2, od2, .func (PySem.W.fnOf "is_fraction" "is_fraction" (defArgs s_is_fraction) (defBody s_is_fraction) (defScope s_is_fraction) .none kV2 dc2 pm2 an2 cd2 ct2), sl2⟩)
    (c2 : PySem.W.codeIn K cd2 "is_fraction" = true)
    (k2 : PySem.W.keepIn K (.ref f_is_fraction) = true)
    (a3 : PySem.W.nsIn K mainGlobals "common_divisor" = some (some (.ref f_common_divisor)))
    (l3 : K.lookup f_common_divisor = some ⟨oc3, od3, .func (PySem.W.fnOf "common_divisor" "common_divisor" (defArgs s_common_divisor) (defBody s_common_divisor) (defScope s_common_divisor) .none kV3 dc3 pm3 an3 cd3 ct3), sl3⟩)
    (c3 : PySem.W.codeIn K cd3 "common_divisor" = true)
    (k3 : PySem.W.keepIn K (.ref f_common_divisor) = true)
    (a4 : PySem.W.nsIn K mainGlobals "fraction" = some (some (.ref f_fraction)))
    (l4 : K.lookup f_fraction = some ⟨oc4, od4, .func (PySem.W.fnOf "fraction" "fraction" (defArgs s_fraction) (defBody s_fraction) (defScope s_fraction) .none kV4 dc4 pm4 an4 cd4 ct4), sl4⟩)
    (c4 : PySem.W.codeIn K cd4 "fraction" = true)
    (k4 : PySem.W.keepIn K (.ref f_fraction) = true)
    (a5 : PySem.W.nsIn K mainGlobals "is_load" = some (some (.ref f_is_load)))
    (l5 : K.lookup f_is_load = some ⟨oc5, od5, .func (PySem.W.fnOf "is_load" "is_load" (defArgs s_is_load) (defBody s_is_load) (defScope s_is_load) .none kV5 dc5 pm5 an5 cd5 ct5), sl5⟩)
    (c5 : PySem.W.codeIn K cd5 "is_load" = true)
    (k5 : PySem.W.keepIn K (.ref f_is_load) = true)
    (a6 : PySem.W.nsIn K mainGlobals "is_rope" = some (some (.ref f_is_rope)))
    (l6 : K.lookup f_is_rope = some ⟨oc6, od6, .func (PySem.W.fnOf "is_rope" "is_rope" (defArgs s_is_rope) (defBody s_is_rope) (defScope s_is_rope) .none kV6 dc6 pm6 an6 cd6 ct6), sl6⟩)
    (c6 : PySem.W.codeIn K cd6 "is_rope" = true)
    (k6 : PySem.W.keepIn K (.ref f_is_rope) = true)
    (a7 : PySem.W.nsIn K mainGlobals "is_within" = some (some (.ref f_is_within)))
    (l7 : K.lookup f_is_within = some ⟨oc7, od7, .func (PySem.W.fnOf "is_within" "is_within" (defArgs s_is_within) (defBody s_is_within) (defScope s_is_within) .none kV7 dc7 pm7 an7 cd7 ct7), sl7⟩)
    (c7 : PySem.W.codeIn K cd7 "is_within" = true)
    (k7 : PySem.W.keepIn K (.ref f_is_within) = true)
    (a8 : PySem.W.nsIn K mainGlobals "ropes_left" = some (some (.ref f_ropes_left)))
    (l8 : K.lookup f_ropes_left = some ⟨oc8, od8, .func (PySem.W.fnOf "ropes_left" "ropes_left" (defArgs s_ropes_left) (defBody s_ropes_left) (defScope s_ropes_left) .none kV8 dc8 pm8 an8 cd8 ct8), sl8⟩)
    (c8 : PySem.W.codeIn K cd8 "ropes_left" = true)
    (k8 : PySem.W.keepIn K (.ref f_ropes_left) = true)
    (a9 : PySem.W.nsIn K mainGlobals "sunk_by" = some (some (.ref f_sunk_by)))
    (l9 : K.lookup f_sunk_by = some ⟨oc9, od9, .func (PySem.W.fnOf "sunk_by" "sunk_by" (defArgs s_sunk_by) (defBody s_sunk_by) (defScope s_sunk_by) .none kV9 dc9 pm9 an9 cd9 ct9), sl9⟩)
    (c9 : PySem.W.codeIn K cd9 "sunk_by" = true)
    (k9 : PySem.W.keepIn K (.ref f_sunk_by) = true)
    (a10 : PySem.W.nsIn K mainGlobals "slack_of" = some (some (.ref f_slack_of)))
    (l10 : K.lookup f_slack_of = some ⟨oc10, od10, .func (PySem.W.fnOf "slack_of" "slack_of" (defArgs s_slack_of) (defBody s_slack_of) (defScope s_slack_of) .none kV10 dc10 pm10 an10 cd10 ct10), sl10⟩)
    (c10 : PySem.W.codeIn K cd10 "slack_of" = true)
    (k10 : PySem.W.keepIn K (.ref f_slack_of) = true)
    (a11 : PySem.W.nsIn K mainGlobals "is_drawn" = some (some (.ref f_is_drawn)))
    (l11 : K.lookup f_is_drawn = some ⟨oc11, od11, .func (PySem.W.fnOf "is_drawn" "is_drawn" (defArgs s_is_drawn) (defBody s_is_drawn) (defScope s_is_drawn) .none kV11 dc11 pm11 an11 cd11 ct11), sl11⟩)
    (c11 : PySem.W.codeIn K cd11 "is_drawn" = true)
    (k11 : PySem.W.keepIn K (.ref f_is_drawn) = true)
    (a12 : PySem.W.nsIn K mainGlobals "pull_at" = some (some (.ref f_pull_at)))
    (l12 : K.lookup f_pull_at = some ⟨oc12, od12, .func (PySem.W.fnOf "pull_at" "pull_at" (defArgs s_pull_at) (defBody s_pull_at) (defScope s_pull_at) .none kV12 dc12 pm12 an12 cd12 ct12), sl12⟩)
    (c12 : PySem.W.codeIn K cd12 "pull_at" = true)
    (k12 : PySem.W.keepIn K (.ref f_pull_at) = true)
    (a13 : PySem.W.nsIn K mainGlobals "waves" = some (some (.ref f_waves)))
    (l13 : K.lookup f_waves = some ⟨oc13, od13, .func (PySem.W.fnOf "waves" "waves" (defArgs s_waves) (defBody s_waves) (defScope s_waves) .none kV13 dc13 pm13 an13 cd13 ct13), sl13⟩)
    (c13 : PySem.W.codeIn K cd13 "waves" = true)
    (k13 : PySem.W.keepIn K (.ref f_waves) = true)
    (a14 : PySem.W.nsIn K mainGlobals "giving_way" = some (some (.ref f_giving_way)))
    (l14 : K.lookup f_giving_way = some ⟨oc14, od14, .func (PySem.W.fnOf "giving_way" "giving_way" (defArgs s_giving_way) (defBody s_giving_way) (defScope s_giving_way) .none kV14 dc14 pm14 an14 cd14 ct14), sl14⟩)
    (c14 : PySem.W.codeIn K cd14 "giving_way" = true)
    (k14 : PySem.W.keepIn K (.ref f_giving_way) = true)
    (a15 : PySem.W.nsIn K mainGlobals "is_too_much" = some (some (.ref f_is_too_much)))
    (l15 : K.lookup f_is_too_much = some ⟨oc15, od15, .func (PySem.W.fnOf "is_too_much" "is_too_much" (defArgs s_is_too_much) (defBody s_is_too_much) (defScope s_is_too_much) .none kV15 dc15 pm15 an15 cd15 ct15), sl15⟩)
    (c15 : PySem.W.codeIn K cd15 "is_too_much" = true)
    (k15 : PySem.W.keepIn K (.ref f_is_too_much) = true)
    (a16 : PySem.W.nsIn K mainGlobals "is_named" = some (some (.ref f_is_named)))
    (l16 : K.lookup f_is_named = some ⟨oc16, od16, .func (PySem.W.fnOf "is_named" "is_named" (defArgs s_is_named) (defBody s_is_named) (defScope s_is_named) .none kV16 dc16 pm16 an16 cd16 ct16), sl16⟩)
    (c16 : PySem.W.codeIn K cd16 "is_named" = true)
    (k16 : PySem.W.keepIn K (.ref f_is_named) = true)
    (a17 : PySem.W.nsIn K mainGlobals "slack_called" = some (some (.ref f_slack_called)))
    (l17 : K.lookup f_slack_called = some ⟨oc17, od17, .func (PySem.W.fnOf "slack_called" "slack_called" (defArgs s_slack_called) (defBody s_slack_called) (defScope s_slack_called) .none kV17 dc17 pm17 an17 cd17 ct17), sl17⟩)
    (c17 : PySem.W.codeIn K cd17 "slack_called" = true)
    (k17 : PySem.W.keepIn K (.ref f_slack_called) = true)
    (a18 : PySem.W.nsIn K mainGlobals "tighter" = some (some (.ref f_tighter)))
    (l18 : K.lookup f_tighter = some ⟨oc18, od18, .func (PySem.W.fnOf "tighter" "tighter" (defArgs s_tighter) (defBody s_tighter) (defScope s_tighter) .none kV18 dc18 pm18 an18 cd18 ct18), sl18⟩)
    (c18 : PySem.W.codeIn K cd18 "tighter" = true)
    (k18 : PySem.W.keepIn K (.ref f_tighter) = true)
    (a19 : PySem.W.nsIn K mainGlobals "_law_bag" = some (some (.ref f_law_bag)))
    (l19 : K.lookup f_law_bag = some ⟨oc19, od19, .func (PySem.W.fnOf "_law_bag" "_law_bag" (defArgs s_law_bag) (defBody s_law_bag) (defScope s_law_bag) .none kV19 dc19 pm19 an19 cd19 ct19), sl19⟩)
    (c19 : PySem.W.codeIn K cd19 "_law_bag" = true)
    (k19 : PySem.W.keepIn K (.ref f_law_bag) = true)
    (a20 : PySem.W.nsIn K mainGlobals "_law_take" = some (some (.ref f_law_take)))
    (l20 : K.lookup f_law_take = some ⟨oc20, od20, .func (PySem.W.fnOf "_law_take" "_law_take" (defArgs s_law_take) (defBody s_law_take) (defScope s_law_take) .none kV20 dc20 pm20 an20 cd20 ct20), sl20⟩)
    (c20 : PySem.W.codeIn K cd20 "_law_take" = true)
    (k20 : PySem.W.keepIn K (.ref f_law_take) = true)
    (a21 : PySem.W.nsIn K mainGlobals "_law_of" = some (some (.ref f_law_of)))
    (l21 : K.lookup f_law_of = some ⟨oc21, od21, .func (PySem.W.fnOf "_law_of" "_law_of" (defArgs s_law_of) (defBody s_law_of) (defScope s_law_of) .none kV21 dc21 pm21 an21 cd21 ct21), sl21⟩)
    (c21 : PySem.W.codeIn K cd21 "_law_of" = true)
    (k21 : PySem.W.keepIn K (.ref f_law_of) = true)
    (a22 : PySem.W.nsIn K mainGlobals "_law_whole" = some (some (.ref f_law_whole)))
    (l22 : K.lookup f_law_whole = some ⟨oc22, od22, .func (PySem.W.fnOf "_law_whole" "_law_whole" (defArgs s_law_whole) (defBody s_law_whole) (defScope s_law_whole) .none kV22 dc22 pm22 an22 cd22 ct22), sl22⟩)
    (c22 : PySem.W.codeIn K cd22 "_law_whole" = true)
    (k22 : PySem.W.keepIn K (.ref f_law_whole) = true)
    (a23 : PySem.W.nsIn K mainGlobals "_law_within" = some (some (.ref f_law_within)))
    (l23 : K.lookup f_law_within = some ⟨oc23, od23, .func (PySem.W.fnOf "_law_within" "_law_within" (defArgs s_law_within) (defBody s_law_within) (defScope s_law_within) .none kV23 dc23 pm23 an23 cd23 ct23), sl23⟩)
    (c23 : PySem.W.codeIn K cd23 "_law_within" = true)
    (k23 : PySem.W.keepIn K (.ref f_law_within) = true)
    (a24 : PySem.W.nsIn K mainGlobals "_law_is_name" = some (some (.ref f_law_is_name)))
    (l24 : K.lookup f_law_is_name = some ⟨oc24, od24, .func (PySem.W.fnOf "_law_is_name" "_law_is_name" (defArgs s_law_is_name) (defBody s_law_is_name) (defScope s_law_is_name) .none kV24 dc24 pm24 an24 cd24 ct24), sl24⟩)
    (c24 : PySem.W.codeIn K cd24 "_law_is_name" = true)
    (k24 : PySem.W.keepIn K (.ref f_law_is_name) = true)
    (a25 : PySem.W.nsIn K mainGlobals "_law_odd" = some (some (.ref f_law_odd)))
    (l25 : K.lookup f_law_odd = some ⟨oc25, od25, .func (PySem.W.fnOf "_law_odd" "_law_odd" (defArgs s_law_odd) (defBody s_law_odd) (defScope s_law_odd) .none kV25 dc25 pm25 an25 cd25 ct25), sl25⟩)
    (c25 : PySem.W.codeIn K cd25 "_law_odd" = true)
    (k25 : PySem.W.keepIn K (.ref f_law_odd) = true)
    (a26 : PySem.W.nsIn K mainGlobals "_law_lowest" = some (some (.ref f_law_lowest)))
    (l26 : K.lookup f_law_lowest = some ⟨oc26, od26, .func (PySem.W.fnOf "_law_lowest" "_law_lowest" (defArgs s_law_lowest) (defBody s_law_lowest) (defScope s_law_lowest) .none kV26 dc26 pm26 an26 cd26 ct26), sl26⟩)
    (c26 : PySem.W.codeIn K cd26 "_law_lowest" = true)
    (k26 : PySem.W.keepIn K (.ref f_law_lowest) = true)
    (a27 : PySem.W.nsIn K mainGlobals "_law_rope" = some (some (.ref f_law_rope)))
    (l27 : K.lookup f_law_rope = some ⟨oc27, od27, .func (PySem.W.fnOf "_law_rope" "_law_rope" (defArgs s_law_rope) (defBody s_law_rope) (defScope s_law_rope) .none kV27 dc27 pm27 an27 cd27 ct27), sl27⟩)
    (c27 : PySem.W.codeIn K cd27 "_law_rope" = true)
    (k27 : PySem.W.keepIn K (.ref f_law_rope) = true)
    (a28 : PySem.W.nsIn K mainGlobals "_law_load" = some (some (.ref f_law_load)))
    (l28 : K.lookup f_law_load = some ⟨oc28, od28, .func (PySem.W.fnOf "_law_load" "_law_load" (defArgs s_law_load) (defBody s_law_load) (defScope s_law_load) .none kV28 dc28 pm28 an28 cd28 ct28), sl28⟩)
    (c28 : PySem.W.codeIn K cd28 "_law_load" = true)
    (k28 : PySem.W.keepIn K (.ref f_law_load) = true)
    (a29 : PySem.W.nsIn K mainGlobals "_law_plus" = some (some (.ref f_law_plus)))
    (l29 : K.lookup f_law_plus = some ⟨oc29, od29, .func (PySem.W.fnOf "_law_plus" "_law_plus" (defArgs s_law_plus) (defBody s_law_plus) (defScope s_law_plus) .none kV29 dc29 pm29 an29 cd29 ct29), sl29⟩)
    (c29 : PySem.W.codeIn K cd29 "_law_plus" = true)
    (k29 : PySem.W.keepIn K (.ref f_law_plus) = true)
    (a30 : PySem.W.nsIn K mainGlobals "_law_less" = some (some (.ref f_law_less)))
    (l30 : K.lookup f_law_less = some ⟨oc30, od30, .func (PySem.W.fnOf "_law_less" "_law_less" (defArgs s_law_less) (defBody s_law_less) (defScope s_law_less) .none kV30 dc30 pm30 an30 cd30 ct30), sl30⟩)
    (c30 : PySem.W.codeIn K cd30 "_law_less" = true)
    (k30 : PySem.W.keepIn K (.ref f_law_less) = true)
    (a31 : PySem.W.nsIn K mainGlobals "_law_left" = some (some (.ref f_law_left)))
    (l31 : K.lookup f_law_left = some ⟨oc31, od31, .func (PySem.W.fnOf "_law_left" "_law_left" (defArgs s_law_left) (defBody s_law_left) (defScope s_law_left) .none kV31 dc31 pm31 an31 cd31 ct31), sl31⟩)
    (c31 : PySem.W.codeIn K cd31 "_law_left" = true)
    (k31 : PySem.W.keepIn K (.ref f_law_left) = true)
    (a32 : PySem.W.nsIn K mainGlobals "_law_pull" = some (some (.ref f_law_pull)))
    (l32 : K.lookup f_law_pull = some ⟨oc32, od32, .func (PySem.W.fnOf "_law_pull" "_law_pull" (defArgs s_law_pull) (defBody s_law_pull) (defScope s_law_pull) .none kV32 dc32 pm32 an32 cd32 ct32), sl32⟩)
    (c32 : PySem.W.codeIn K cd32 "_law_pull" = true)
    (k32 : PySem.W.keepIn K (.ref f_law_pull) = true)
    (a33 : PySem.W.nsIn K mainGlobals "_law_sunk" = some (some (.ref f_law_sunk)))
    (l33 : K.lookup f_law_sunk = some ⟨oc33, od33, .func (PySem.W.fnOf "_law_sunk" "_law_sunk" (defArgs s_law_sunk) (defBody s_law_sunk) (defScope s_law_sunk) .none kV33 dc33 pm33 an33 cd33 ct33), sl33⟩)
    (c33 : PySem.W.codeIn K cd33 "_law_sunk" = true)
    (k33 : PySem.W.keepIn K (.ref f_law_sunk) = true)
    (a34 : PySem.W.nsIn K mainGlobals "_law_waves" = some (some (.ref f_law_waves)))
    (l34 : K.lookup f_law_waves = some ⟨oc34, od34, .func (PySem.W.fnOf "_law_waves" "_law_waves" (defArgs s_law_waves) (defBody s_law_waves) (defScope s_law_waves) .none kV34 dc34 pm34 an34 cd34 ct34), sl34⟩)
    (c34 : PySem.W.codeIn K cd34 "_law_waves" = true)
    (k34 : PySem.W.keepIn K (.ref f_law_waves) = true)
    (a35 : PySem.W.nsIn K mainGlobals "_law_end" = some (some (.ref f_law_end)))
    (l35 : K.lookup f_law_end = some ⟨oc35, od35, .func (PySem.W.fnOf "_law_end" "_law_end" (defArgs s_law_end) (defBody s_law_end) (defScope s_law_end) .none kV35 dc35 pm35 an35 cd35 ct35), sl35⟩)
    (c35 : PySem.W.codeIn K cd35 "_law_end" = true)
    (k35 : PySem.W.keepIn K (.ref f_law_end) = true)
    (a36 : PySem.W.nsIn K mainGlobals "_law_marks" = some (some (.ref f_law_marks)))
    (l36 : K.lookup f_law_marks = some ⟨oc36, od36, .func (PySem.W.fnOf "_law_marks" "_law_marks" (defArgs s_law_marks) (defBody s_law_marks) (defScope s_law_marks) .none kV36 dc36 pm36 an36 cd36 ct36), sl36⟩)
    (c36 : PySem.W.codeIn K cd36 "_law_marks" = true)
    (k36 : PySem.W.keepIn K (.ref f_law_marks) = true)
    (a37 : PySem.W.nsIn K mainGlobals "_law_new" = some (some (.ref f_law_new)))
    (l37 : K.lookup f_law_new = some ⟨oc37, od37, .func (PySem.W.fnOf "_law_new" "_law_new" (defArgs s_law_new) (defBody s_law_new) (defScope s_law_new) .none kV37 dc37 pm37 an37 cd37 ct37), sl37⟩)
    (c37 : PySem.W.codeIn K cd37 "_law_new" = true)
    (k37 : PySem.W.keepIn K (.ref f_law_new) = true)
    (a38 : PySem.W.nsIn K mainGlobals "_law_is_part" = some (some (.ref f_law_is_part)))
    (l38 : K.lookup f_law_is_part = some ⟨oc38, od38, .func (PySem.W.fnOf "_law_is_part" "_law_is_part" (defArgs s_law_is_part) (defBody s_law_is_part) (defScope s_law_is_part) .none kV38 dc38 pm38 an38 cd38 ct38), sl38⟩)
    (c38 : PySem.W.codeIn K cd38 "_law_is_part" = true)
    (k38 : PySem.W.keepIn K (.ref f_law_is_part) = true)
    (a39 : PySem.W.nsIn K mainGlobals "_law_good_rope" = some (some (.ref f_law_good_rope)))
    (l39 : K.lookup f_law_good_rope = some ⟨oc39, od39, .func (PySem.W.fnOf "_law_good_rope" "_law_good_rope" (defArgs s_law_good_rope) (defBody s_law_good_rope) (defScope s_law_good_rope) .none kV39 dc39 pm39 an39 cd39 ct39), sl39⟩)
    (c39 : PySem.W.codeIn K cd39 "_law_good_rope" = true)
    (k39 : PySem.W.keepIn K (.ref f_law_good_rope) = true)
    (a40 : PySem.W.nsIn K mainGlobals "_law_refusal_of" = some (some (.ref f_law_refusal_of)))
    (l40 : K.lookup f_law_refusal_of = some ⟨oc40, od40, .func (PySem.W.fnOf "_law_refusal_of" "_law_refusal_of" (defArgs s_law_refusal_of) (defBody s_law_refusal_of) (defScope s_law_refusal_of) .none kV40 dc40 pm40 an40 cd40 ct40), sl40⟩)
    (c40 : PySem.W.codeIn K cd40 "_law_refusal_of" = true)
    (k40 : PySem.W.keepIn K (.ref f_law_refusal_of) = true)
    (a41 : PySem.W.nsIn K mainGlobals "_law_done" = some (some (.ref f_law_done)))
    (l41 : K.lookup f_law_done = some ⟨oc41, od41, .func (PySem.W.fnOf "_law_done" "_law_done" (defArgs s_law_done) (defBody s_law_done) (defScope s_law_done) .none kV41 dc41 pm41 an41 cd41 ct41), sl41⟩)
    (c41 : PySem.W.codeIn K cd41 "_law_done" = true)
    (k41 : PySem.W.keepIn K (.ref f_law_done) = true)
    (a42 : PySem.W.nsIn K mainGlobals "_law_kinds" = some (some (.ref f_law_kinds)))
    (l42 : K.lookup f_law_kinds = some ⟨oc42, od42, .func (PySem.W.fnOf "_law_kinds" "_law_kinds" (defArgs s_law_kinds) (defBody s_law_kinds) (defScope s_law_kinds) .none kV42 dc42 pm42 an42 cd42 ct42), sl42⟩)
    (c42 : PySem.W.codeIn K cd42 "_law_kinds" = true)
    (k42 : PySem.W.keepIn K (.ref f_law_kinds) = true)
    (a43 : PySem.W.nsIn K mainGlobals "_law_told" = some (some (.ref f_law_told)))
    (l43 : K.lookup f_law_told = some ⟨oc43, od43, .func (PySem.W.fnOf "_law_told" "_law_told" (defArgs s_law_told) (defBody s_law_told) (defScope s_law_told) .none kV43 dc43 pm43 an43 cd43 ct43), sl43⟩)
    (c43 : PySem.W.codeIn K cd43 "_law_told" = true)
    (k43 : PySem.W.keepIn K (.ref f_law_told) = true)
    (a44 : PySem.W.nsIn K mainGlobals "_law_do" = some (some (.ref f_law_do)))
    (l44 : K.lookup f_law_do = some ⟨oc44, od44, .func (PySem.W.fnOf "_law_do" "_law_do" (defArgs s_law_do) (defBody s_law_do) (defScope s_law_do) .none kV44 dc44 pm44 an44 cd44 ct44), sl44⟩)
    (c44 : PySem.W.codeIn K cd44 "_law_do" = true)
    (k44 : PySem.W.keepIn K (.ref f_law_do) = true)
    (a45 : PySem.W.nsIn K mainGlobals "_law_deed" = some (some (.ref f_law_deed)))
    (l45 : K.lookup f_law_deed = some ⟨oc45, od45, .func (PySem.W.fnOf "_law_deed" "_law_deed" (defArgs s_law_deed) (defBody s_law_deed) (defScope s_law_deed) .none kV45 dc45 pm45 an45 cd45 ct45), sl45⟩)
    (c45 : PySem.W.codeIn K cd45 "_law_deed" = true)
    (k45 : PySem.W.keepIn K (.ref f_law_deed) = true)
    (a46 : PySem.W.nsIn K mainGlobals "_law_works_so" = some (some (.ref f_law_works_so)))
    (l46 : K.lookup f_law_works_so = some ⟨oc46, od46, .func (PySem.W.fnOf "_law_works_so" "_law_works_so" (defArgs s_law_works_so) (defBody s_law_works_so) (defScope s_law_works_so) .none kV46 dc46 pm46 an46 cd46 ct46), sl46⟩)
    (c46 : PySem.W.codeIn K cd46 "_law_works_so" = true)
    (k46 : PySem.W.keepIn K (.ref f_law_works_so) = true)
    (a47 : PySem.W.nsIn K mainGlobals "_law_strange" = some (some (.ref f_law_strange)))
    (l47 : K.lookup f_law_strange = some ⟨oc47, od47, .func (PySem.W.fnOf "_law_strange" "_law_strange" (defArgs s_law_strange) (defBody s_law_strange) (defScope s_law_strange) .none kV47 dc47 pm47 an47 cd47 ct47), sl47⟩)
    (c47 : PySem.W.codeIn K cd47 "_law_strange" = true)
    (k47 : PySem.W.keepIn K (.ref f_law_strange) = true)
    (a48 : PySem.W.nsIn K mainGlobals "law" = some (some (.ref f_law)))
    (l48 : K.lookup f_law = some ⟨oc48, od48, .func (PySem.W.fnOf "law" "law" (defArgs s_law) (defBody s_law) (defScope s_law) .none kV48 dc48 pm48 an48 (.ref cL) ct48), sl48⟩)
    (c48 : PySem.W.codeIn K (.ref cL) "law" = true)
    (k48 : PySem.W.keepIn K (.ref f_law) = true)
    (zN : PySem.W.nsIn K mainGlobals "NOUGHT" = some (some (.ref a_N)))
    (lN : K.lookup a_N = some ⟨.type "tuple", odN, .seq #[.int 0 t0N, .int 1 t1N] nN, slN⟩)
    (z_MOST_LETTERS : PySem.W.nsIn K mainGlobals "MOST_LETTERS" = some (some (.int 8 t_MOST_LETTERS)))
    (z_MOST_SLACK : PySem.W.nsIn K mainGlobals "MOST_SLACK" = some (some (.int 1000 t_MOST_SLACK)))
    (z_MOST_STIFF : PySem.W.nsIn K mainGlobals "MOST_STIFF" = some (some (.int 100 t_MOST_STIFF)))
    (z_MOST_STRONG : PySem.W.nsIn K mainGlobals "MOST_STRONG" = some (some (.int 1000000 t_MOST_STRONG)))
    (z_MOST_ROPES : PySem.W.nsIn K mainGlobals "MOST_ROPES" = some (some (.int 6 t_MOST_ROPES)))
    (z_len : PySem.W.nsIn K mainGlobals "len" = some none)
    (z_abs : PySem.W.nsIn K mainGlobals "abs" = some none)
    (z_max : PySem.W.nsIn K mainGlobals "max" = some none)
    (z_min : PySem.W.nsIn K mainGlobals "min" = some none)
    (z_sum : PySem.W.nsIn K mainGlobals "sum" = some none)
    (z_sorted : PySem.W.nsIn K mainGlobals "sorted" = some none)
    (z_tuple : PySem.W.nsIn K mainGlobals "tuple" = some none)
    (z_range : PySem.W.nsIn K mainGlobals "range" = some none)
    (z_list : PySem.W.nsIn K mainGlobals "list" = some none)
    (z_isinstance : PySem.W.nsIn K mainGlobals "isinstance" = some none)
    (z_bool : PySem.W.nsIn K mainGlobals "bool" = some none)
    (z_set : PySem.W.nsIn K mainGlobals "set" = some none)
    (z_dict : PySem.W.nsIn K mainGlobals "dict" = some none)
    (z_int : PySem.W.nsIn K mainGlobals "int" = some none)
    (z_str : PySem.W.nsIn K mainGlobals "str" = some none)
    (z_all : PySem.W.nsIn K mainGlobals "all" = some none)
    (z_zip : PySem.W.nsIn K mainGlobals "zip" = some none)
    (z_any : PySem.W.nsIn K mainGlobals "any" = some none)
    (z_enumerate : PySem.W.nsIn K mainGlobals "enumerate" = some none)
    (z_super : PySem.W.nsIn K mainGlobals "super" = some none)
    (z_ValueError : PySem.W.nsIn K mainGlobals "ValueError" = some none)
    (cA : PySem.W.nsIn K mainGlobals "Works" = some (some (.ref C)))
    (cPg : PySem.W.plainGet K C Str.empty = true)
    (cHd : PySem.W.hasDictIn K C = true)
    (cPo : PySem.W.plainOver K C = true)
    (cSa : PySem.W.findIn K (.ref C) (Str.ofString "__setattr__") = some (some (.builtin "object.__setattr__")))
    (cMk : PySem.W.makesIn K C = true)
    (cKp : PySem.W.keepIn K (.ref C) = true)
    (n_strands : PySem.W.findIn K (.ref C) "strands" = some none)
    (n_gone : PySem.W.findIn K (.ref C) "gone" = some none)
    (n_weight : PySem.W.findIn K (.ref C) "weight" = some none)
    (n_story : PySem.W.findIn K (.ref C) "story" = some none)
    (n_falls : PySem.W.findIn K (.ref C) "falls" = some none)
    (n_busy : PySem.W.findIn K (.ref C) "busy" = some none)
    (i_init : PySem.W.findIn K (.ref C) "__init__" = some (some (.ref f_Winit)))
    (l_init : K.lookup f_Winit = some ⟨oc_init, od_init, .func (PySem.W.fnOf "__init__" "Works.__init__" (defArgs s_Works___init__) (defBody s_Works___init__) (defScope s_Works___init__) .none kV_init dc_init pm_init an_init cd_init ct_init), sl_init⟩)
    (c_init : PySem.W.codeIn K cd_init "Works.__init__" = true)
    (k_init : PySem.W.keepIn K (.ref f_Winit) = true)
    (fn_init : PySem.W.isFn K (.ref f_Winit) = true)
    (i_len : PySem.W.findIn K (.ref C) "__len__" = some (some (.ref f_Wlen)))
    (l_len : K.lookup f_Wlen = some ⟨oc_len, od_len, .func (PySem.W.fnOf "__len__" "Works.__len__" (defArgs s_Works___len__) (defBody s_Works___len__) (defScope s_Works___len__) .none kV_len dc_len pm_len an_len cd_len ct_len), sl_len⟩)
    (c_len : PySem.W.codeIn K cd_len "Works.__len__" = true)
    (k_len : PySem.W.keepIn K (.ref f_Wlen) = true)
    (fn_len : PySem.W.isFn K (.ref f_Wlen) = true)
    (i_refuse_hung : PySem.W.findIn K (.ref C) "refuse_hung" = some (some (.ref f_Wrefuse_hung)))
    (l_refuse_hung : K.lookup f_Wrefuse_hung = some ⟨oc_refuse_hung, od_refuse_hung, .func (PySem.W.fnOf "refuse_hung" "Works.refuse_hung" (defArgs s_Works_refuse_hung) (defBody s_Works_refuse_hung) (defScope s_Works_refuse_hung) .none kV_refuse_hung dc_refuse_hung pm_refuse_hung an_refuse_hung cd_refuse_hung ct_refuse_hung), sl_refuse_hung⟩)
    (c_refuse_hung : PySem.W.codeIn K cd_refuse_hung "Works.refuse_hung" = true)
    (k_refuse_hung : PySem.W.keepIn K (.ref f_Wrefuse_hung) = true)
    (fn_refuse_hung : PySem.W.isFn K (.ref f_Wrefuse_hung) = true)
    (i_refuse_unnamed : PySem.W.findIn K (.ref C) "refuse_unnamed" = some (some (.ref f_Wrefuse_unnamed)))
    (l_refuse_unnamed : K.lookup f_Wrefuse_unnamed = some ⟨oc_refuse_unnamed, od_refuse_unnamed, .func (PySem.W.fnOf "refuse_unnamed" "Works.refuse_unnamed" (defArgs s_Works_refuse_unnamed) (defBody s_Works_refuse_unnamed) (defScope s_Works_refuse_unnamed) .none kV_refuse_unnamed dc_refuse_unnamed pm_refuse_unnamed an_refuse_unnamed cd_refuse_unnamed ct_refuse_unnamed), sl_refuse_unnamed⟩)
    (c_refuse_unnamed : PySem.W.codeIn K cd_refuse_unnamed "Works.refuse_unnamed" = true)
    (k_refuse_unnamed : PySem.W.keepIn K (.ref f_Wrefuse_unnamed) = true)
    (fn_refuse_unnamed : PySem.W.isFn K (.ref f_Wrefuse_unnamed) = true)
    (i_lose : PySem.W.findIn K (.ref C) "lose" = some (some (.ref f_Wlose)))
    (l_lose : K.lookup f_Wlose = some ⟨oc_lose, od_lose, .func (PySem.W.fnOf "lose" "Works.lose" (defArgs s_Works_lose) (defBody s_Works_lose) (defScope s_Works_lose) .none kV_lose dc_lose pm_lose an_lose cd_lose ct_lose), sl_lose⟩)
    (c_lose : PySem.W.codeIn K cd_lose "Works.lose" = true)
    (k_lose : PySem.W.keepIn K (.ref f_Wlose) = true)
    (fn_lose : PySem.W.isFn K (.ref f_Wlose) = true)
    (i_settle : PySem.W.findIn K (.ref C) "settle" = some (some (.ref f_Wsettle)))
    (l_settle : K.lookup f_Wsettle = some ⟨oc_settle, od_settle, .func (PySem.W.fnOf "settle" "Works.settle" (defArgs s_Works_settle) (defBody s_Works_settle) (defScope s_Works_settle) .none kV_settle dc_settle pm_settle an_settle cd_settle ct_settle), sl_settle⟩)
    (c_settle : PySem.W.codeIn K cd_settle "Works.settle" = true)
    (k_settle : PySem.W.keepIn K (.ref f_Wsettle) = true)
    (fn_settle : PySem.W.isFn K (.ref f_Wsettle) = true)
    (i_put : PySem.W.findIn K (.ref C) "put" = some (some (.ref f_Wput)))
    (l_put : K.lookup f_Wput = some ⟨oc_put, od_put, .func (PySem.W.fnOf "put" "Works.put" (defArgs s_Works_put) (defBody s_Works_put) (defScope s_Works_put) .none kV_put dc_put pm_put an_put cd_put ct_put), sl_put⟩)
    (c_put : PySem.W.codeIn K cd_put "Works.put" = true)
    (k_put : PySem.W.keepIn K (.ref f_Wput) = true)
    (fn_put : PySem.W.isFn K (.ref f_Wput) = true)
    (i_hang : PySem.W.findIn K (.ref C) "hang" = some (some (.ref f_Whang)))
    (l_hang : K.lookup f_Whang = some ⟨oc_hang, od_hang, .func (PySem.W.fnOf "hang" "Works.hang" (defArgs s_Works_hang) (defBody s_Works_hang) (defScope s_Works_hang) .none kV_hang dc_hang pm_hang an_hang cd_hang ct_hang), sl_hang⟩)
    (c_hang : PySem.W.codeIn K cd_hang "Works.hang" = true)
    (k_hang : PySem.W.keepIn K (.ref f_Whang) = true)
    (fn_hang : PySem.W.isFn K (.ref f_Whang) = true)
    (i_splice : PySem.W.findIn K (.ref C) "splice" = some (some (.ref f_Wsplice)))
    (l_splice : K.lookup f_Wsplice = some ⟨oc_splice, od_splice, .func (PySem.W.fnOf "splice" "Works.splice" (defArgs s_Works_splice) (defBody s_Works_splice) (defScope s_Works_splice) .none kV_splice dc_splice pm_splice an_splice cd_splice ct_splice), sl_splice⟩)
    (c_splice : PySem.W.codeIn K cd_splice "Works.splice" = true)
    (k_splice : PySem.W.keepIn K (.ref f_Wsplice) = true)
    (fn_splice : PySem.W.isFn K (.ref f_Wsplice) = true)
    (i_tighten : PySem.W.findIn K (.ref C) "tighten" = some (some (.ref f_Wtighten)))
    (l_tighten : K.lookup f_Wtighten = some ⟨oc_tighten, od_tighten, .func (PySem.W.fnOf "tighten" "Works.tighten" (defArgs s_Works_tighten) (defBody s_Works_tighten) (defScope s_Works_tighten) .none kV_tighten dc_tighten pm_tighten an_tighten cd_tighten ct_tighten), sl_tighten⟩)
    (c_tighten : PySem.W.codeIn K cd_tighten "Works.tighten" = true)
    (k_tighten : PySem.W.keepIn K (.ref f_Wtighten) = true)
    (fn_tighten : PySem.W.isFn K (.ref f_Wtighten) = true)
    (i_ropes : PySem.W.findIn K (.ref C) "ropes" = some (some (.ref f_Wropes)))
    (l_ropes : K.lookup f_Wropes = some ⟨oc_ropes, od_ropes, .func (PySem.W.fnOf "ropes" "Works.ropes" (defArgs s_Works_ropes) (defBody s_Works_ropes) (defScope s_Works_ropes) .none kV_ropes dc_ropes pm_ropes an_ropes cd_ropes ct_ropes), sl_ropes⟩)
    (c_ropes : PySem.W.codeIn K cd_ropes "Works.ropes" = true)
    (k_ropes : PySem.W.keepIn K (.ref f_Wropes) = true)
    (fn_ropes : PySem.W.isFn K (.ref f_Wropes) = true)
    (i_broken : PySem.W.findIn K (.ref C) "broken" = some (some (.ref f_Wbroken)))
    (l_broken : K.lookup f_Wbroken = some ⟨oc_broken, od_broken, .func (PySem.W.fnOf "broken" "Works.broken" (defArgs s_Works_broken) (defBody s_Works_broken) (defScope s_Works_broken) .none kV_broken dc_broken pm_broken an_broken cd_broken ct_broken), sl_broken⟩)
    (c_broken : PySem.W.codeIn K cd_broken "Works.broken" = true)
    (k_broken : PySem.W.keepIn K (.ref f_Wbroken) = true)
    (fn_broken : PySem.W.isFn K (.ref f_Wbroken) = true)
    (i_load : PySem.W.findIn K (.ref C) "load" = some (some (.ref f_Wload)))
    (l_load : K.lookup f_Wload = some ⟨oc_load, od_load, .func (PySem.W.fnOf "load" "Works.load" (defArgs s_Works_load) (defBody s_Works_load) (defScope s_Works_load) .none kV_load dc_load pm_load an_load cd_load ct_load), sl_load⟩)
    (c_load : PySem.W.codeIn K cd_load "Works.load" = true)
    (k_load : PySem.W.keepIn K (.ref f_Wload) = true)
    (fn_load : PySem.W.isFn K (.ref f_Wload) = true)
    (i_sinking : PySem.W.findIn K (.ref C) "sinking" = some (some (.ref f_Wsinking)))
    (l_sinking : K.lookup f_Wsinking = some ⟨oc_sinking, od_sinking, .func (PySem.W.fnOf "sinking" "Works.sinking" (defArgs s_Works_sinking) (defBody s_Works_sinking) (defScope s_Works_sinking) .none kV_sinking dc_sinking pm_sinking an_sinking cd_sinking ct_sinking), sl_sinking⟩)
    (c_sinking : PySem.W.codeIn K cd_sinking "Works.sinking" = true)
    (k_sinking : PySem.W.keepIn K (.ref f_Wsinking) = true)
    (fn_sinking : PySem.W.isFn K (.ref f_Wsinking) = true)
    (i_log : PySem.W.findIn K (.ref C) "log" = some (some (.ref f_Wlog)))
    (l_log : K.lookup f_Wlog = some ⟨oc_log, od_log, .func (PySem.W.fnOf "log" "Works.log" (defArgs s_Works_log) (defBody s_Works_log) (defScope s_Works_log) .none kV_log dc_log pm_log an_log cd_log ct_log), sl_log⟩)
    (c_log : PySem.W.codeIn K cd_log "Works.log" = true)
    (k_log : PySem.W.keepIn K (.ref f_Wlog) = true)
    (fn_log : PySem.W.isFn K (.ref f_Wlog) = true)
    (i_fell : PySem.W.findIn K (.ref C) "fell" = some (some (.ref f_Wfell)))
    (l_fell : K.lookup f_Wfell = some ⟨oc_fell, od_fell, .func (PySem.W.fnOf "fell" "Works.fell" (defArgs s_Works_fell) (defBody s_Works_fell) (defScope s_Works_fell) .none kV_fell dc_fell pm_fell an_fell cd_fell ct_fell), sl_fell⟩)
    (c_fell : PySem.W.codeIn K cd_fell "Works.fell" = true)
    (k_fell : PySem.W.keepIn K (.ref f_Wfell) = true)
    (fn_fell : PySem.W.isFn K (.ref f_Wfell) = true)
    (t_len : PySem.W.typeIn K (.ref f_Wlen) = some (.type "function"))
    (g_AskedError : PySem.W.nsIn K mainGlobals "AskedError" = some (some (.ref e_AskedError)))
    (g_ToldError : PySem.W.nsIn K mainGlobals "ToldError" = some (some (.ref e_ToldError)))
    (g_PullError : PySem.W.nsIn K mainGlobals "PullError" = some (some (.ref e_PullError)))
    (g_NoRope : PySem.W.nsIn K mainGlobals "NoRope" = some (some (.ref e_NoRope)))
    (g_NoLoad : PySem.W.nsIn K mainGlobals "NoLoad" = some (some (.ref e_NoLoad)))
    (g_NoName : PySem.W.nsIn K mainGlobals "NoName" = some (some (.ref e_NoName)))
    (g_NoNumber : PySem.W.nsIn K mainGlobals "NoNumber" = some (some (.ref e_NoNumber)))
    (g_Taken : PySem.W.nsIn K mainGlobals "Taken" = some (some (.ref e_Taken)))
    (g_Full : PySem.W.nsIn K mainGlobals "Full" = some (some (.ref e_Full)))
    (g_NoRopes : PySem.W.nsIn K mainGlobals "NoRopes" = some (some (.ref e_NoRopes)))
    (g_Hung : PySem.W.nsIn K mainGlobals "Hung" = some (some (.ref e_Hung)))
    (g_Whole : PySem.W.nsIn K mainGlobals "Whole" = some (some (.ref e_Whole)))
    (xn : PySem.W.specialIn K (.builtin "object.__class__") "__get__" = some (some (.builtin "getset_descriptor.__get__")))
    (xt : PySem.W.takesIn K (.builtin "object.__class__") = some true)
    (k_NoRope : PySem.W.keepIn K (.ref e_NoRope) = true)
    (b_NoRope : PySem.W.subIn K (.ref e_NoRope) (.type "BaseException") = some true)
    (t_NoRope : PySem.W.typeIn K (.ref e_NoRope) = some (.type "type"))
    (ga_NoRope : PySem.W.findIn K (.ref e_NoRope) "__getattribute__" = some (some (.builtin "BaseException.__getattribute__")))
    (gg_NoRope : PySem.W.findIn K (.ref e_NoRope) "__getattr__" = some none)
    (hd_NoRope : PySem.W.hasDictIn K e_NoRope = true)
    (ac_NoRope : PySem.W.findIn K (.ref e_NoRope) "__class__" = some (some (.builtin "object.__class__")))
    (mo_NoRope : PySem.W.mroIn K e_NoRope (.type "object") = some true)
    (kit_NoRope : [Value.ref e_AskedError, .ref e_ToldError, .ref e_Full, .ref e_Hung, .ref e_NoLoad, .ref e_NoName, .ref e_NoNumber, .ref e_NoRope, .ref e_NoRopes, .ref e_Taken, .ref e_Whole, .type "ValueError"].map (PySem.W.kitOne K (.ref e_NoRope)) = ([false, true, false, false, false, false, false, true, false, false, false, true] : List Bool).map some)
    (xHung_NoRope : PySem.W.exmOne K (.ref e_NoRope) (.ref e_Hung) = some false)
    (xWhole_NoRope : PySem.W.exmOne K (.ref e_NoRope) (.ref e_Whole) = some false)
    (xPullError_NoRope : PySem.W.exmOne K (.ref e_NoRope) (.ref e_PullError) = some true)
    (x_NoRope : PySem.W.excIn K e_NoRope [.type "ValueError", .type "Exception", .type "BaseException", .type "object"] "ValueError.__new__" = true)
    (k_NoLoad : PySem.W.keepIn K (.ref e_NoLoad) = true)
    (b_NoLoad : PySem.W.subIn K (.ref e_NoLoad) (.type "BaseException") = some true)
    (t_NoLoad : PySem.W.typeIn K (.ref e_NoLoad) = some (.type "type"))
    (ga_NoLoad : PySem.W.findIn K (.ref e_NoLoad) "__getattribute__" = some (some (.builtin "BaseException.__getattribute__")))
    (gg_NoLoad : PySem.W.findIn K (.ref e_NoLoad) "__getattr__" = some none)
    (hd_NoLoad : PySem.W.hasDictIn K e_NoLoad = true)
    (ac_NoLoad : PySem.W.findIn K (.ref e_NoLoad) "__class__" = some (some (.builtin "object.__class__")))
    (mo_NoLoad : PySem.W.mroIn K e_NoLoad (.type "object") = some true)
    (kit_NoLoad : [Value.ref e_AskedError, .ref e_ToldError, .ref e_Full, .ref e_Hung, .ref e_NoLoad, .ref e_NoName, .ref e_NoNumber, .ref e_NoRope, .ref e_NoRopes, .ref e_Taken, .ref e_Whole, .type "ValueError"].map (PySem.W.kitOne K (.ref e_NoLoad)) = ([false, true, false, false, true, false, false, false, false, false, false, true] : List Bool).map some)
    (xHung_NoLoad : PySem.W.exmOne K (.ref e_NoLoad) (.ref e_Hung) = some false)
    (xWhole_NoLoad : PySem.W.exmOne K (.ref e_NoLoad) (.ref e_Whole) = some false)
    (xPullError_NoLoad : PySem.W.exmOne K (.ref e_NoLoad) (.ref e_PullError) = some true)
    (x_NoLoad : PySem.W.excIn K e_NoLoad [.type "ValueError", .type "Exception", .type "BaseException", .type "object"] "ValueError.__new__" = true)
    (k_NoName : PySem.W.keepIn K (.ref e_NoName) = true)
    (b_NoName : PySem.W.subIn K (.ref e_NoName) (.type "BaseException") = some true)
    (t_NoName : PySem.W.typeIn K (.ref e_NoName) = some (.type "type"))
    (ga_NoName : PySem.W.findIn K (.ref e_NoName) "__getattribute__" = some (some (.builtin "BaseException.__getattribute__")))
    (gg_NoName : PySem.W.findIn K (.ref e_NoName) "__getattr__" = some none)
    (hd_NoName : PySem.W.hasDictIn K e_NoName = true)
    (ac_NoName : PySem.W.findIn K (.ref e_NoName) "__class__" = some (some (.builtin "object.__class__")))
    (mo_NoName : PySem.W.mroIn K e_NoName (.type "object") = some true)
    (kit_NoName : [Value.ref e_AskedError, .ref e_ToldError, .ref e_Full, .ref e_Hung, .ref e_NoLoad, .ref e_NoName, .ref e_NoNumber, .ref e_NoRope, .ref e_NoRopes, .ref e_Taken, .ref e_Whole, .type "ValueError"].map (PySem.W.kitOne K (.ref e_NoName)) = ([false, true, false, false, false, true, false, false, false, false, false, true] : List Bool).map some)
    (xHung_NoName : PySem.W.exmOne K (.ref e_NoName) (.ref e_Hung) = some false)
    (xWhole_NoName : PySem.W.exmOne K (.ref e_NoName) (.ref e_Whole) = some false)
    (xPullError_NoName : PySem.W.exmOne K (.ref e_NoName) (.ref e_PullError) = some true)
    (x_NoName : PySem.W.excIn K e_NoName [.type "ValueError", .type "Exception", .type "BaseException", .type "object"] "ValueError.__new__" = true)
    (k_NoNumber : PySem.W.keepIn K (.ref e_NoNumber) = true)
    (b_NoNumber : PySem.W.subIn K (.ref e_NoNumber) (.type "BaseException") = some true)
    (t_NoNumber : PySem.W.typeIn K (.ref e_NoNumber) = some (.type "type"))
    (ga_NoNumber : PySem.W.findIn K (.ref e_NoNumber) "__getattribute__" = some (some (.builtin "BaseException.__getattribute__")))
    (gg_NoNumber : PySem.W.findIn K (.ref e_NoNumber) "__getattr__" = some none)
    (hd_NoNumber : PySem.W.hasDictIn K e_NoNumber = true)
    (ac_NoNumber : PySem.W.findIn K (.ref e_NoNumber) "__class__" = some (some (.builtin "object.__class__")))
    (mo_NoNumber : PySem.W.mroIn K e_NoNumber (.type "object") = some true)
    (kit_NoNumber : [Value.ref e_AskedError, .ref e_ToldError, .ref e_Full, .ref e_Hung, .ref e_NoLoad, .ref e_NoName, .ref e_NoNumber, .ref e_NoRope, .ref e_NoRopes, .ref e_Taken, .ref e_Whole, .type "ValueError"].map (PySem.W.kitOne K (.ref e_NoNumber)) = ([false, true, false, false, false, false, true, false, false, false, false, true] : List Bool).map some)
    (xHung_NoNumber : PySem.W.exmOne K (.ref e_NoNumber) (.ref e_Hung) = some false)
    (xWhole_NoNumber : PySem.W.exmOne K (.ref e_NoNumber) (.ref e_Whole) = some false)
    (xPullError_NoNumber : PySem.W.exmOne K (.ref e_NoNumber) (.ref e_PullError) = some true)
    (x_NoNumber : PySem.W.excIn K e_NoNumber [.type "ValueError", .type "Exception", .type "BaseException", .type "object"] "ValueError.__new__" = true)
    (k_Taken : PySem.W.keepIn K (.ref e_Taken) = true)
    (b_Taken : PySem.W.subIn K (.ref e_Taken) (.type "BaseException") = some true)
    (t_Taken : PySem.W.typeIn K (.ref e_Taken) = some (.type "type"))
    (ga_Taken : PySem.W.findIn K (.ref e_Taken) "__getattribute__" = some (some (.builtin "BaseException.__getattribute__")))
    (gg_Taken : PySem.W.findIn K (.ref e_Taken) "__getattr__" = some none)
    (hd_Taken : PySem.W.hasDictIn K e_Taken = true)
    (ac_Taken : PySem.W.findIn K (.ref e_Taken) "__class__" = some (some (.builtin "object.__class__")))
    (mo_Taken : PySem.W.mroIn K e_Taken (.type "object") = some true)
    (kit_Taken : [Value.ref e_AskedError, .ref e_ToldError, .ref e_Full, .ref e_Hung, .ref e_NoLoad, .ref e_NoName, .ref e_NoNumber, .ref e_NoRope, .ref e_NoRopes, .ref e_Taken, .ref e_Whole, .type "ValueError"].map (PySem.W.kitOne K (.ref e_Taken)) = ([false, true, false, false, false, false, false, false, false, true, false, true] : List Bool).map some)
    (xHung_Taken : PySem.W.exmOne K (.ref e_Taken) (.ref e_Hung) = some false)
    (xWhole_Taken : PySem.W.exmOne K (.ref e_Taken) (.ref e_Whole) = some false)
    (xPullError_Taken : PySem.W.exmOne K (.ref e_Taken) (.ref e_PullError) = some true)
    (x_Taken : PySem.W.excIn K e_Taken [.type "ValueError", .type "Exception", .type "BaseException", .type "object"] "ValueError.__new__" = true)
    (k_Full : PySem.W.keepIn K (.ref e_Full) = true)
    (b_Full : PySem.W.subIn K (.ref e_Full) (.type "BaseException") = some true)
    (t_Full : PySem.W.typeIn K (.ref e_Full) = some (.type "type"))
    (ga_Full : PySem.W.findIn K (.ref e_Full) "__getattribute__" = some (some (.builtin "BaseException.__getattribute__")))
    (gg_Full : PySem.W.findIn K (.ref e_Full) "__getattr__" = some none)
    (hd_Full : PySem.W.hasDictIn K e_Full = true)
    (ac_Full : PySem.W.findIn K (.ref e_Full) "__class__" = some (some (.builtin "object.__class__")))
    (mo_Full : PySem.W.mroIn K e_Full (.type "object") = some true)
    (kit_Full : [Value.ref e_AskedError, .ref e_ToldError, .ref e_Full, .ref e_Hung, .ref e_NoLoad, .ref e_NoName, .ref e_NoNumber, .ref e_NoRope, .ref e_NoRopes, .ref e_Taken, .ref e_Whole, .type "ValueError"].map (PySem.W.kitOne K (.ref e_Full)) = ([true, false, true, false, false, false, false, false, false, false, false, true] : List Bool).map some)
    (xHung_Full : PySem.W.exmOne K (.ref e_Full) (.ref e_Hung) = some false)
    (xWhole_Full : PySem.W.exmOne K (.ref e_Full) (.ref e_Whole) = some false)
    (xPullError_Full : PySem.W.exmOne K (.ref e_Full) (.ref e_PullError) = some true)
    (x_Full : PySem.W.excIn K e_Full [.type "ValueError", .type "Exception", .type "BaseException", .type "object"] "ValueError.__new__" = true)
    (k_NoRopes : PySem.W.keepIn K (.ref e_NoRopes) = true)
    (b_NoRopes : PySem.W.subIn K (.ref e_NoRopes) (.type "BaseException") = some true)
    (t_NoRopes : PySem.W.typeIn K (.ref e_NoRopes) = some (.type "type"))
    (ga_NoRopes : PySem.W.findIn K (.ref e_NoRopes) "__getattribute__" = some (some (.builtin "BaseException.__getattribute__")))
    (gg_NoRopes : PySem.W.findIn K (.ref e_NoRopes) "__getattr__" = some none)
    (hd_NoRopes : PySem.W.hasDictIn K e_NoRopes = true)
    (ac_NoRopes : PySem.W.findIn K (.ref e_NoRopes) "__class__" = some (some (.builtin "object.__class__")))
    (mo_NoRopes : PySem.W.mroIn K e_NoRopes (.type "object") = some true)
    (kit_NoRopes : [Value.ref e_AskedError, .ref e_ToldError, .ref e_Full, .ref e_Hung, .ref e_NoLoad, .ref e_NoName, .ref e_NoNumber, .ref e_NoRope, .ref e_NoRopes, .ref e_Taken, .ref e_Whole, .type "ValueError"].map (PySem.W.kitOne K (.ref e_NoRopes)) = ([true, false, false, false, false, false, false, false, true, false, false, true] : List Bool).map some)
    (xHung_NoRopes : PySem.W.exmOne K (.ref e_NoRopes) (.ref e_Hung) = some false)
    (xWhole_NoRopes : PySem.W.exmOne K (.ref e_NoRopes) (.ref e_Whole) = some false)
    (xPullError_NoRopes : PySem.W.exmOne K (.ref e_NoRopes) (.ref e_PullError) = some true)
    (x_NoRopes : PySem.W.excIn K e_NoRopes [.type "ValueError", .type "Exception", .type "BaseException", .type "object"] "ValueError.__new__" = true)
    (k_Hung : PySem.W.keepIn K (.ref e_Hung) = true)
    (b_Hung : PySem.W.subIn K (.ref e_Hung) (.type "BaseException") = some true)
    (t_Hung : PySem.W.typeIn K (.ref e_Hung) = some (.type "type"))
    (ga_Hung : PySem.W.findIn K (.ref e_Hung) "__getattribute__" = some (some (.builtin "BaseException.__getattribute__")))
    (gg_Hung : PySem.W.findIn K (.ref e_Hung) "__getattr__" = some none)
    (hd_Hung : PySem.W.hasDictIn K e_Hung = true)
    (ac_Hung : PySem.W.findIn K (.ref e_Hung) "__class__" = some (some (.builtin "object.__class__")))
    (mo_Hung : PySem.W.mroIn K e_Hung (.type "object") = some true)
    (kit_Hung : [Value.ref e_AskedError, .ref e_ToldError, .ref e_Full, .ref e_Hung, .ref e_NoLoad, .ref e_NoName, .ref e_NoNumber, .ref e_NoRope, .ref e_NoRopes, .ref e_Taken, .ref e_Whole, .type "ValueError"].map (PySem.W.kitOne K (.ref e_Hung)) = ([true, false, false, true, false, false, false, false, false, false, false, true] : List Bool).map some)
    (xHung_Hung : PySem.W.exmOne K (.ref e_Hung) (.ref e_Hung) = some true)
    (xWhole_Hung : PySem.W.exmOne K (.ref e_Hung) (.ref e_Whole) = some false)
    (xPullError_Hung : PySem.W.exmOne K (.ref e_Hung) (.ref e_PullError) = some true)
    (k_Whole : PySem.W.keepIn K (.ref e_Whole) = true)
    (b_Whole : PySem.W.subIn K (.ref e_Whole) (.type "BaseException") = some true)
    (t_Whole : PySem.W.typeIn K (.ref e_Whole) = some (.type "type"))
    (ga_Whole : PySem.W.findIn K (.ref e_Whole) "__getattribute__" = some (some (.builtin "BaseException.__getattribute__")))
    (gg_Whole : PySem.W.findIn K (.ref e_Whole) "__getattr__" = some none)
    (hd_Whole : PySem.W.hasDictIn K e_Whole = true)
    (ac_Whole : PySem.W.findIn K (.ref e_Whole) "__class__" = some (some (.builtin "object.__class__")))
    (mo_Whole : PySem.W.mroIn K e_Whole (.type "object") = some true)
    (kit_Whole : [Value.ref e_AskedError, .ref e_ToldError, .ref e_Full, .ref e_Hung, .ref e_NoLoad, .ref e_NoName, .ref e_NoNumber, .ref e_NoRope, .ref e_NoRopes, .ref e_Taken, .ref e_Whole, .type "ValueError"].map (PySem.W.kitOne K (.ref e_Whole)) = ([true, false, false, false, false, false, false, false, false, false, true, true] : List Bool).map some)
    (xHung_Whole : PySem.W.exmOne K (.ref e_Whole) (.ref e_Hung) = some false)
    (xWhole_Whole : PySem.W.exmOne K (.ref e_Whole) (.ref e_Whole) = some true)
    (xPullError_Whole : PySem.W.exmOne K (.ref e_Whole) (.ref e_PullError) = some true)
    (zst : PySem.W.nsIn K cStatics "thirdparty.any" = some none)
    (ztop : (l.prog.main.scope.names.lookup ("super" : Str)).isSome = false)
    (cls_Hung : K.lookup e_Hung = some (excClassObj nm_Hung qn_Hung e_Hung N_Hung bs_Hung bm_Hung true sn_Hung sub_Hung ab_Hung col_Hung dd_Hung m0_Hung m1_Hung m2_Hung m3_Hung m5_Hung "ValueError.__new__"))
    (ve_Hung : HandSPX.refsVE bm_Hung = true)
    (sa_Hung : PySem.W.findIn K (.ref e_Hung) "__setattr__" = some (some (.builtin "object.__setattr__")))
    (no_Hung : PySem.W.findIn K (.ref e_Hung) "weight" = some none)
    (in_Hung : PySem.W.findIn K (.ref e_Hung) "__init__" = some (some (.ref fI_Hung)))
    (ti_Hung : PySem.W.typeIn K (.ref fI_Hung) = some (.type "function"))
    (sv_Hung : PySem.W.subIn K (.ref e_Hung) (.type "ValueError") = some true)
    (up_Hung : PySem.W.ks_superIn K e_Hung e_Hung "__init__" = some (some (.builtin "ValueError.__init__")))
    (ms_Hung : PySem.W.mroIn K e_Hung (.ref e_Hung) = some true)
    (lf_Hung : K.lookup fI_Hung = some ⟨oc_Hung, od_Hung, .func (PySem.W.ksFn "__init__" qual_Hung (SupX.iA "weight" p1_Hung p2_Hung) (SupX.iB "weight" txt_Hung j_Hung r0_Hung r1_Hung r2_Hung r3_Hung r4_Hung r5_Hung q1_Hung q2_Hung q3_Hung q4_Hung) (SupX.iS "weight") .none kV_Hung doc_Hung pm_Hung an_Hung (.ref cda_Hung) ct_Hung cc_Hung), osl_Hung⟩)
    (cf_Hung : PySem.W.codeIn K (.ref cda_Hung) qual_Hung = true)
    (ce_Hung : K.lookup cc_Hung = some ⟨cl_Hung, cld_Hung, .cell (some (.ref e_Hung)), csl_Hung⟩)
    (lc_Hung : K.lookup cda_Hung = some ⟨ccl_Hung, cdd_Hung, .fields vs_Hung, ccs_Hung⟩)
    (vf_Hung : vs_Hung[2]? = some (.str file_Hung tf_Hung))
    (pf_Hung : ((l.prog.main.file : Str) == file_Hung) = true)
    (ev_Hung : ∃ pl, ∀ L, eval (.Call (.Attribute (.Call (.Name "super" r0_Hung) [] [] r1_Hung) "__init__" r2_Hung) [.Constant (.str txt_Hung) j_Hung r3_Hung] [] r4_Hung) (PySem.W.ksEnv qual_Hung (SupX.iS "weight") L fI_Hung (.ref cda_Hung) cc_Hung) = (do let ov ← attributeBase (.Call (.Name "super" r0_Hung) [] [] r1_Hung) "__init__" (PySem.W.ksEnv qual_Hung (SupX.iS "weight") L fI_Hung (.ref cda_Hung) cc_Hung) (eval (.Call (.Name "super" r0_Hung) [] [] r1_Hung) (PySem.W.ksEnv qual_Hung (SupX.iS "weight") L fI_Hung (.ref cda_Hung) cc_Hung)); standAt r2_Hung.atName; let (g, first) ← holding [ov] (getMethod ov "__init__" pl); callWith r4_Hung g first (backTo r4_Hung (starEach [.Constant (.str txt_Hung) j_Hung r3_Hung] (PySem.W.ksEnv qual_Hung (SupX.iS "weight") L fI_Hung (.ref cda_Hung) cc_Hung))) []))
    (s1_Hung : ∀ L, swapsWith (.Call (.Attribute (.Call (.Name "super" r0_Hung) [] [] r1_Hung) "__init__" r2_Hung) [.Constant (.str txt_Hung) j_Hung r3_Hung] [] r4_Hung) none r5_Hung.line (PySem.W.ksEnv qual_Hung (SupX.iS "weight") L fI_Hung (.ref cda_Hung) cc_Hung) = pure false)
    (s2_Hung : ∀ L, swapsWith (.Name "weight" q3_Hung) (some (.Attribute (.Name "self" q1_Hung) "weight" q2_Hung)) q4_Hung.line (PySem.W.ksEnv qual_Hung (SupX.iS "weight") L fI_Hung (.ref cda_Hung) cc_Hung) = pure false)
    (cls_Whole : K.lookup e_Whole = some (excClassObj nm_Whole qn_Whole e_Whole N_Whole bs_Whole bm_Whole true sn_Whole sub_Whole ab_Whole col_Whole dd_Whole m0_Whole m1_Whole m2_Whole m3_Whole m5_Whole "ValueError.__new__"))
    (ve_Whole : HandSPX.refsVE bm_Whole = true)
    (sa_Whole : PySem.W.findIn K (.ref e_Whole) "__setattr__" = some (some (.builtin "object.__setattr__")))
    (no_Whole : PySem.W.findIn K (.ref e_Whole) "name" = some none)
    (in_Whole : PySem.W.findIn K (.ref e_Whole) "__init__" = some (some (.ref fI_Whole)))
    (ti_Whole : PySem.W.typeIn K (.ref fI_Whole) = some (.type "function"))
    (sv_Whole : PySem.W.subIn K (.ref e_Whole) (.type "ValueError") = some true)
    (up_Whole : PySem.W.ks_superIn K e_Whole e_Whole "__init__" = some (some (.builtin "ValueError.__init__")))
    (ms_Whole : PySem.W.mroIn K e_Whole (.ref e_Whole) = some true)
    (lf_Whole : K.lookup fI_Whole = some ⟨oc_Whole, od_Whole, .func (PySem.W.ksFn "__init__" qual_Whole (SupX.iA "name" p1_Whole p2_Whole) (SupX.iB "name" txt_Whole j_Whole r0_Whole r1_Whole r2_Whole r3_Whole r4_Whole r5_Whole q1_Whole q2_Whole q3_Whole q4_Whole) (SupX.iS "name") .none kV_Whole doc_Whole pm_Whole an_Whole (.ref cda_Whole) ct_Whole cc_Whole), osl_Whole⟩)
    (cf_Whole : PySem.W.codeIn K (.ref cda_Whole) qual_Whole = true)
    (ce_Whole : K.lookup cc_Whole = some ⟨cl_Whole, cld_Whole, .cell (some (.ref e_Whole)), csl_Whole⟩)
    (lc_Whole : K.lookup cda_Whole = some ⟨ccl_Whole, cdd_Whole, .fields vs_Whole, ccs_Whole⟩)
    (vf_Whole : vs_Whole[2]? = some (.str file_Whole tf_Whole))
    (pf_Whole : ((l.prog.main.file : Str) == file_Whole) = true)
    (ev_Whole : ∃ pl, ∀ L, eval (.Call (.Attribute (.Call (.Name "super" r0_Whole) [] [] r1_Whole) "__init__" r2_Whole) [.Constant (.str txt_Whole) j_Whole r3_Whole] [] r4_Whole) (PySem.W.ksEnv qual_Whole (SupX.iS "name") L fI_Whole (.ref cda_Whole) cc_Whole) = (do let ov ← attributeBase (.Call (.Name "super" r0_Whole) [] [] r1_Whole) "__init__" (PySem.W.ksEnv qual_Whole (SupX.iS "name") L fI_Whole (.ref cda_Whole) cc_Whole) (eval (.Call (.Name "super" r0_Whole) [] [] r1_Whole) (PySem.W.ksEnv qual_Whole (SupX.iS "name") L fI_Whole (.ref cda_Whole) cc_Whole)); standAt r2_Whole.atName; let (g, first) ← holding [ov] (getMethod ov "__init__" pl); callWith r4_Whole g first (backTo r4_Whole (starEach [.Constant (.str txt_Whole) j_Whole r3_Whole] (PySem.W.ksEnv qual_Whole (SupX.iS "name") L fI_Whole (.ref cda_Whole) cc_Whole))) []))
    (s1_Whole : ∀ L, swapsWith (.Call (.Attribute (.Call (.Name "super" r0_Whole) [] [] r1_Whole) "__init__" r2_Whole) [.Constant (.str txt_Whole) j_Whole r3_Whole] [] r4_Whole) none r5_Whole.line (PySem.W.ksEnv qual_Whole (SupX.iS "name") L fI_Whole (.ref cda_Whole) cc_Whole) = pure false)
    (s2_Whole : ∀ L, swapsWith (.Name "name" q3_Whole) (some (.Attribute (.Name "self" q1_Whole) "name" q2_Whole)) q4_Whole.line (PySem.W.ksEnv qual_Whole (SupX.iS "name") L fI_Whole (.ref cda_Whole) cc_Whole) = pure false)
    (tB : h.get? B = some { cls := .none, data := .fields #[] }) (nB : K.lookup B = none) (hB : PySem.W.codeHdIn K cL B = true) :
    LamX.LawAtS l w K CX0 11 63 "script" mg fa h := by
  have e := hfa.symm.trans (PySem.W.mg_of X G a48)
  cases e
  have T : Txt mg := ⟨PySem.W.mg_none_of X G z_len, PySem.W.mg_none_of X G z_abs, PySem.W.mg_none_of X G z_max, PySem.W.mg_none_of X G z_min, PySem.W.mg_none_of X G z_sum, PySem.W.mg_none_of X G z_sorted, PySem.W.mg_none_of X G z_tuple, PySem.W.mg_none_of X G z_range, PySem.W.mg_none_of X G z_list, PySem.W.mg_none_of X G z_isinstance, PySem.W.mg_none_of X G z_bool, PySem.W.mg_none_of X G z_set, PySem.W.mg_none_of X G z_dict, PySem.W.mg_none_of X G z_int, PySem.W.mg_none_of X G z_str, PySem.W.mg_none_of X G z_all, PySem.W.mg_none_of X G z_zip, PySem.W.mg_none_of X G z_any, PySem.W.mg_none_of X G z_enumerate, PySem.W.mg_none_of X G z_super, PySem.W.mg_none_of X G z_ValueError⟩
  have Cs : Cst mg := ⟨⟨_, PySem.W.mg_of X G z_MOST_LETTERS⟩, ⟨_, PySem.W.mg_of X G z_MOST_SLACK⟩, ⟨_, PySem.W.mg_of X G z_MOST_STIFF⟩, ⟨_, PySem.W.mg_of X G z_MOST_STRONG⟩, ⟨_, PySem.W.mg_of X G z_MOST_ROPES⟩⟩
  have N := Nt.mk' X G zN lN
  have d_is_whole : Df K mg "is_whole" s_is_whole f_is_whole ["thing"] := Df.mk' X G a0 l0 c0 k0 fun _ _ _ _ _ _ us hl => match us, hl with | [_], _ => rfl
  have d_is_name : Df K mg "is_name" s_is_name f_is_name ["thing"] := Df.mk' X G a1 l1 c1 k1 fun _ _ _ _ _ _ us hl => match us, hl with | [_], _ => rfl
  have d_is_fraction : Df K mg "is_fraction" s_is_fraction f_is_fraction ["thing"] := Df.mk' X G a2 l2 c2 k2 fun _ _ _ _ _ _ us hl => match us, hl with | [_], _ => rfl
  have d_common_divisor : Df K mg "common_divisor" s_common_divisor f_common_divisor ["one", "other"] := Df.mk' X G a3 l3 c3 k3 fun _ _ _ _ _ _ us hl => match us, hl with | [_, _], _ => rfl
  have d_fraction : Df K mg "fraction" s_fraction f_fraction ["top", "bottom"] := Df.mk' X G a4 l4 c4 k4 fun _ _ _ _ _ _ us hl => match us, hl with | [_, _], _ => rfl
  have d_is_load : Df K mg "is_load" s_is_load f_is_load ["thing"] := Df.mk' X G a5 l5 c5 k5 fun _ _ _ _ _ _ us hl => match us, hl with | [_], _ => rfl
  have d_is_rope : Df K mg "is_rope" s_is_rope f_is_rope ["thing"] := Df.mk' X G a6 l6 c6 k6 fun _ _ _ _ _ _ us hl => match us, hl with | [_], _ => rfl
  have d_is_within : Df K mg "is_within" s_is_within f_is_within ["thing", "least", "most"] := Df.mk' X G a7 l7 c7 k7 fun _ _ _ _ _ _ us hl => match us, hl with | [_, _, _], _ => rfl
  have d_ropes_left : Df K mg "ropes_left" s_ropes_left f_ropes_left ["bundle", "broken"] := Df.mk' X G a8 l8 c8 k8 fun _ _ _ _ _ _ us hl => match us, hl with | [_, _], _ => rfl
  have d_sunk_by : Df K mg "sunk_by" s_sunk_by f_sunk_by ["left", "load"] := Df.mk' X G a9 l9 c9 k9 fun _ _ _ _ _ _ us hl => match us, hl with | [_, _], _ => rfl
  have d_slack_of : Df K mg "slack_of" s_slack_of f_slack_of ["rope"] := Df.mk' X G a10 l10 c10 k10 fun _ _ _ _ _ _ us hl => match us, hl with | [_], _ => rfl
  have d_is_drawn : Df K mg "is_drawn" s_is_drawn f_is_drawn ["slack", "sunk"] := Df.mk' X G a11 l11 c11 k11 fun _ _ _ _ _ _ us hl => match us, hl with | [_, _], _ => rfl
  have d_pull_at : Df K mg "pull_at" s_pull_at f_pull_at ["rope", "sunk"] := Df.mk' X G a12 l12 c12 k12 fun _ _ _ _ _ _ us hl => match us, hl with | [_, _], _ => rfl
  have d_waves : Df K mg "waves" s_waves f_waves ["bundle", "broken", "load"] := Df.mk' X G a13 l13 c13 k13 fun _ _ _ _ _ _ us hl => match us, hl with | [_, _, _], _ => rfl
  have d_giving_way : Df K mg "giving_way" s_giving_way f_giving_way ["left", "load"] := Df.mk' X G a14 l14 c14 k14 fun _ _ _ _ _ _ us hl => match us, hl with | [_, _], _ => rfl
  have d_is_too_much : Df K mg "is_too_much" s_is_too_much f_is_too_much ["rope", "pull"] := Df.mk' X G a15 l15 c15 k15 fun _ _ _ _ _ _ us hl => match us, hl with | [_, _], _ => rfl
  have d_is_named : Df K mg "is_named" s_is_named f_is_named ["ropes", "thing"] := Df.mk' X G a16 l16 c16 k16 fun _ _ _ _ _ _ us hl => match us, hl with | [_, _], _ => rfl
  have d_slack_called : Df K mg "slack_called" s_slack_called f_slack_called ["ropes", "name"] := Df.mk' X G a17 l17 c17 k17 fun _ _ _ _ _ _ us hl => match us, hl with | [_, _], _ => rfl
  have d_tighter : Df K mg "tighter" s_tighter f_tighter ["rope", "by"] := Df.mk' X G a18 l18 c18 k18 fun _ _ _ _ _ _ us hl => match us, hl with | [_, _], _ => rfl
  have d_law_bag : Df K mg "_law_bag" s_law_bag f_law_bag ["script", "k"] := Df.mk' X G a19 l19 c19 k19 fun _ _ _ _ _ _ us hl => match us, hl with | [_, _], _ => rfl
  have d_law_take : Df K mg "_law_take" s_law_take f_law_take ["bag", "many"] := Df.mk' X G a20 l20 c20 k20 fun _ _ _ _ _ _ us hl => match us, hl with | [_, _], _ => rfl
  have d_law_of : Df K mg "_law_of" s_law_of f_law_of ["bag", "some"] := Df.mk' X G a21 l21 c21 k21 fun _ _ _ _ _ _ us hl => match us, hl with | [_, _], _ => rfl
  have d_law_whole : Df K mg "_law_whole" s_law_whole f_law_whole ["thing"] := Df.mk' X G a22 l22 c22 k22 fun _ _ _ _ _ _ us hl => match us, hl with | [_], _ => rfl
  have d_law_within : Df K mg "_law_within" s_law_within f_law_within ["thing", "least", "most"] := Df.mk' X G a23 l23 c23 k23 fun _ _ _ _ _ _ us hl => match us, hl with | [_, _, _], _ => rfl
  have d_law_is_name : Df K mg "_law_is_name" s_law_is_name f_law_is_name ["thing"] := Df.mk' X G a24 l24 c24 k24 fun _ _ _ _ _ _ us hl => match us, hl with | [_], _ => rfl
  have d_law_odd : Df K mg "_law_odd" s_law_odd f_law_odd ["bag"] := Df.mk' X G a25 l25 c25 k25 fun _ _ _ _ _ _ us hl => match us, hl with | [_], _ => rfl
  have d_law_lowest : Df K mg "_law_lowest" s_law_lowest f_law_lowest ["top", "bottom"] := Df.mk' X G a26 l26 c26 k26 fun _ _ _ _ _ _ us hl => match us, hl with | [_, _], _ => rfl
  have d_law_rope : Df K mg "_law_rope" s_law_rope f_law_rope ["bag", "name"] := Df.mk' X G a27 l27 c27 k27 fun _ _ _ _ _ _ us hl => match us, hl with | [_, _], _ => rfl
  have d_law_load : Df K mg "_law_load" s_law_load f_law_load ["bag"] := Df.mk' X G a28 l28 c28 k28 fun _ _ _ _ _ _ us hl => match us, hl with | [_], _ => rfl
  have d_law_plus : Df K mg "_law_plus" s_law_plus f_law_plus ["one", "other"] := Df.mk' X G a29 l29 c29 k29 fun _ _ _ _ _ _ us hl => match us, hl with | [_, _], _ => rfl
  have d_law_less : Df K mg "_law_less" s_law_less f_law_less ["one", "other"] := Df.mk' X G a30 l30 c30 k30 fun _ _ _ _ _ _ us hl => match us, hl with | [_, _], _ => rfl
  have d_law_left : Df K mg "_law_left" s_law_left f_law_left ["bundle", "broken"] := Df.mk' X G a31 l31 c31 k31 fun _ _ _ _ _ _ us hl => match us, hl with | [_, _], _ => rfl
  have d_law_pull : Df K mg "_law_pull" s_law_pull f_law_pull ["rope", "sunk"] := Df.mk' X G a32 l32 c32 k32 fun _ _ _ _ _ _ us hl => match us, hl with | [_, _], _ => rfl
  have d_law_sunk : Df K mg "_law_sunk" s_law_sunk f_law_sunk ["ropes", "load"] := Df.mk' X G a33 l33 c33 k33 fun _ _ _ _ _ _ us hl => match us, hl with | [_, _], _ => rfl
  have d_law_waves : Df K mg "_law_waves" s_law_waves f_law_waves ["bundle", "broken", "load"] := Df.mk' X G a34 l34 c34 k34 fun _ _ _ _ _ _ us hl => match us, hl with | [_, _, _], _ => rfl
  have d_law_end : Df K mg "_law_end" s_law_end f_law_end ["rope"] := Df.mk' X G a35 l35 c35 k35 fun _ _ _ _ _ _ us hl => match us, hl with | [_], _ => rfl
  have d_law_marks : Df K mg "_law_marks" s_law_marks f_law_marks ["bundle"] := Df.mk' X G a36 l36 c36 k36 fun _ _ _ _ _ _ us hl => match us, hl with | [_], _ => rfl
  have d_law_new : Df K mg "_law_new" s_law_new f_law_new [] := Df.mk' X G a37 l37 c37 k37 fun _ _ _ _ _ _ us hl => match us, hl with | [], _ => rfl
  have d_law_is_part : Df K mg "_law_is_part" s_law_is_part f_law_is_part ["thing"] := Df.mk' X G a38 l38 c38 k38 fun _ _ _ _ _ _ us hl => match us, hl with | [_], _ => rfl
  have d_law_good_rope : Df K mg "_law_good_rope" s_law_good_rope f_law_good_rope ["thing"] := Df.mk' X G a39 l39 c39 k39 fun _ _ _ _ _ _ us hl => match us, hl with | [_], _ => rfl
  have d_law_refusal_of : Df K mg "_law_refusal_of" s_law_refusal_of f_law_refusal_of ["w", "deed"] := Df.mk' X G a40 l40 c40 k40 fun _ _ _ _ _ _ us hl => match us, hl with | [_, _], _ => rfl
  have d_law_done : Df K mg "_law_done" s_law_done f_law_done ["w", "deed"] := Df.mk' X G a41 l41 c41 k41 fun _ _ _ _ _ _ us hl => match us, hl with | [_, _], _ => rfl
  have d_law_kinds : Df K mg "_law_kinds" s_law_kinds f_law_kinds ["e"] := Df.mk' X G a42 l42 c42 k42 fun _ _ _ _ _ _ us hl => match us, hl with | [_], _ => rfl
  have d_law_told : Df K mg "_law_told" s_law_told f_law_told ["call"] := Df.mk' X G a43 l43 c43 k43 fun _ _ _ _ _ _ us hl => match us, hl with | [_], _ => rfl
  have d_law_do : Df K mg "_law_do" s_law_do f_law_do ["works", "deed"] := Df.mk' X G a44 l44 c44 k44 fun _ _ _ _ _ _ us hl => match us, hl with | [_, _], _ => rfl
  have d_law_deed : Df K mg "_law_deed" s_law_deed f_law_deed ["bag", "w"] := Df.mk' X G a45 l45 c45 k45 fun _ _ _ _ _ _ us hl => match us, hl with | [_, _], _ => rfl
  have d_law_works_so : Df K mg "_law_works_so" s_law_works_so f_law_works_so ["works", "w"] := Df.mk' X G a46 l46 c46 k46 fun _ _ _ _ _ _ us hl => match us, hl with | [_, _], _ => rfl
  have d_law_strange : Df K mg "_law_strange" s_law_strange f_law_strange ["bag", "deed"] := Df.mk' X G a47 l47 c47 k47 fun _ _ _ _ _ _ us hl => match us, hl with | [_, _], _ => rfl
  have F_init := fun_mk (st := s_Works___init__) l_init c_init k_init
  have b_init := F_init.binds (ps := ["self"]) fun _ _ _ _ _ _ us hl => match us, hl with | [_], _ => rfl
  have F_len := fun_mk (st := s_Works___len__) l_len c_len k_len
  have b_len := F_len.binds (ps := ["self"]) fun _ _ _ _ _ _ us hl => match us, hl with | [_], _ => rfl
  have F_refuse_hung := fun_mk (st := s_Works_refuse_hung) l_refuse_hung c_refuse_hung k_refuse_hung
  have b_refuse_hung := F_refuse_hung.binds (ps := ["self"]) fun _ _ _ _ _ _ us hl => match us, hl with | [_], _ => rfl
  have F_refuse_unnamed := fun_mk (st := s_Works_refuse_unnamed) l_refuse_unnamed c_refuse_unnamed k_refuse_unnamed
  have b_refuse_unnamed := F_refuse_unnamed.binds (ps := ["self", "name"]) fun _ _ _ _ _ _ us hl => match us, hl with | [_, _], _ => rfl
  have F_lose := fun_mk (st := s_Works_lose) l_lose c_lose k_lose
  have b_lose := F_lose.binds (ps := ["self", "load", "told"]) fun _ _ _ _ _ _ us hl => match us, hl with | [_, _, _], _ => rfl
  have F_settle := fun_mk (st := s_Works_settle) l_settle c_settle k_settle
  have b_settle := F_settle.binds (ps := ["self", "load"]) fun _ _ _ _ _ _ us hl => match us, hl with | [_, _], _ => rfl
  have F_put := fun_mk (st := s_Works_put) l_put c_put k_put
  have b_put := F_put.binds (ps := ["self", "rope"]) fun _ _ _ _ _ _ us hl => match us, hl with | [_, _], _ => rfl
  have F_hang := fun_mk (st := s_Works_hang) l_hang c_hang k_hang
  have b_hang := F_hang.binds (ps := ["self", "load"]) fun _ _ _ _ _ _ us hl => match us, hl with | [_, _], _ => rfl
  have F_splice := fun_mk (st := s_Works_splice) l_splice c_splice k_splice
  have b_splice := F_splice.binds (ps := ["self", "name"]) fun _ _ _ _ _ _ us hl => match us, hl with | [_, _], _ => rfl
  have F_tighten := fun_mk (st := s_Works_tighten) l_tighten c_tighten k_tighten
  have b_tighten := F_tighten.binds (ps := ["self", "name", "by"]) fun _ _ _ _ _ _ us hl => match us, hl with | [_, _, _], _ => rfl
  have F_ropes := fun_mk (st := s_Works_ropes) l_ropes c_ropes k_ropes
  have b_ropes := F_ropes.binds (ps := ["self"]) fun _ _ _ _ _ _ us hl => match us, hl with | [_], _ => rfl
  have F_broken := fun_mk (st := s_Works_broken) l_broken c_broken k_broken
  have b_broken := F_broken.binds (ps := ["self"]) fun _ _ _ _ _ _ us hl => match us, hl with | [_], _ => rfl
  have F_load := fun_mk (st := s_Works_load) l_load c_load k_load
  have b_load := F_load.binds (ps := ["self"]) fun _ _ _ _ _ _ us hl => match us, hl with | [_], _ => rfl
  have F_sinking := fun_mk (st := s_Works_sinking) l_sinking c_sinking k_sinking
  have b_sinking := F_sinking.binds (ps := ["self"]) fun _ _ _ _ _ _ us hl => match us, hl with | [_], _ => rfl
  have F_log := fun_mk (st := s_Works_log) l_log c_log k_log
  have b_log := F_log.binds (ps := ["self"]) fun _ _ _ _ _ _ us hl => match us, hl with | [_], _ => rfl
  have F_fell := fun_mk (st := s_Works_fell) l_fell c_fell k_fell
  have b_fell := F_fell.binds (ps := ["self"]) fun _ _ _ _ _ _ us hl => match us, hl with | [_], _ => rfl
  have wkC : Wk K C := ⟨⟨cPg, cHd, cPo, cSa⟩, n_strands, n_gone, n_weight, n_story, n_falls, n_busy⟩
  let E : EC := ⟨e_NoRope, e_NoLoad, e_NoName, e_NoNumber, e_Taken, e_Full, e_Hung, e_NoRopes, e_Whole, e_AskedError, e_ToldError, e_PullError, fI_Hung, fI_Whole⟩
  have Z : Ers K mg l.prog E := {
    NoRope := ⟨x_NoRope, PySem.W.mg_of X G g_NoRope, k_NoRope, b_NoRope, t_NoRope⟩,
    NoLoad := ⟨x_NoLoad, PySem.W.mg_of X G g_NoLoad, k_NoLoad, b_NoLoad, t_NoLoad⟩,
    NoName := ⟨x_NoName, PySem.W.mg_of X G g_NoName, k_NoName, b_NoName, t_NoName⟩,
    NoNumber := ⟨x_NoNumber, PySem.W.mg_of X G g_NoNumber, k_NoNumber, b_NoNumber, t_NoNumber⟩,
    Taken := ⟨x_Taken, PySem.W.mg_of X G g_Taken, k_Taken, b_Taken, t_Taken⟩,
    Full := ⟨x_Full, PySem.W.mg_of X G g_Full, k_Full, b_Full, t_Full⟩,
    NoRopes := ⟨x_NoRopes, PySem.W.mg_of X G g_NoRopes, k_NoRopes, b_NoRopes, t_NoRopes⟩,
    Hung := { gC := PySem.W.mg_of X G g_Hung, cls := ⟨_, _, _, _, _, _, _, _, _, _, _, _, _, _, _, cls_Hung, ve_Hung⟩, sa := sa_Hung, ga := ga_Hung, gg := gg_Hung, noN := no_Hung, iC := in_Hung, tC := ti_Hung, kC := k_Hung, exC := b_Hung, veC := sv_Hung, tyC := t_Hung, hdC := hd_Hung, sup := z_super, any := zst, up := up_Hung, mro := ms_Hung, top := ztop, ne := ⟨by decide, by decide⟩, sc := ⟨by decide, by decide, by decide⟩, bind := fun _ _ _ _ _ _ _ _ _ _ _ _ _ => rfl, fn := ⟨_, _, _, _, _, _, _, _, _, _, _, _, _, _, _, _, _, _, _, _, _, _, _, _, _, lf_Hung, cf_Hung, ⟨_, _, _, ce_Hung⟩, _, _, _, _, _, _, lc_Hung, vf_Hung, pf_Hung, ev_Hung, s1_Hung, s2_Hung⟩ },
    Whole := { gC := PySem.W.mg_of X G g_Whole, cls := ⟨_, _, _, _, _, _, _, _, _, _, _, _, _, _, _, cls_Whole, ve_Whole⟩, sa := sa_Whole, ga := ga_Whole, gg := gg_Whole, noN := no_Whole, iC := in_Whole, tC := ti_Whole, kC := k_Whole, exC := b_Whole, veC := sv_Whole, tyC := t_Whole, hdC := hd_Whole, sup := z_super, any := zst, up := up_Whole, mro := ms_Whole, top := ztop, ne := ⟨by decide, by decide⟩, sc := ⟨by decide, by decide, by decide⟩, bind := fun _ _ _ _ _ _ _ _ _ _ _ _ _ => rfl, fn := ⟨_, _, _, _, _, _, _, _, _, _, _, _, _, _, _, _, _, _, _, _, _, _, _, _, _, lf_Whole, cf_Whole, ⟨_, _, _, ce_Whole⟩, _, _, _, _, _, _, lc_Whole, vf_Whole, pf_Whole, ev_Whole, s1_Whole, s2_Whole⟩ },
    g_AskedError := PySem.W.mg_of X G g_AskedError,
    g_ToldError := PySem.W.mg_of X G g_ToldError,
    g_PullError := PySem.W.mg_of X G g_PullError,
    k_NoRope := ⟨⟨ga_NoRope, gg_NoRope, b_NoRope, hd_NoRope, ac_NoRope, xn, xt, mo_NoRope⟩, kit_NoRope, xHung_NoRope, xWhole_NoRope, xPullError_NoRope⟩,
    k_NoLoad := ⟨⟨ga_NoLoad, gg_NoLoad, b_NoLoad, hd_NoLoad, ac_NoLoad, xn, xt, mo_NoLoad⟩, kit_NoLoad, xHung_NoLoad, xWhole_NoLoad, xPullError_NoLoad⟩,
    k_NoName := ⟨⟨ga_NoName, gg_NoName, b_NoName, hd_NoName, ac_NoName, xn, xt, mo_NoName⟩, kit_NoName, xHung_NoName, xWhole_NoName, xPullError_NoName⟩,
    k_NoNumber := ⟨⟨ga_NoNumber, gg_NoNumber, b_NoNumber, hd_NoNumber, ac_NoNumber, xn, xt, mo_NoNumber⟩, kit_NoNumber, xHung_NoNumber, xWhole_NoNumber, xPullError_NoNumber⟩,
    k_Taken := ⟨⟨ga_Taken, gg_Taken, b_Taken, hd_Taken, ac_Taken, xn, xt, mo_Taken⟩, kit_Taken, xHung_Taken, xWhole_Taken, xPullError_Taken⟩,
    k_Full := ⟨⟨ga_Full, gg_Full, b_Full, hd_Full, ac_Full, xn, xt, mo_Full⟩, kit_Full, xHung_Full, xWhole_Full, xPullError_Full⟩,
    k_NoRopes := ⟨⟨ga_NoRopes, gg_NoRopes, b_NoRopes, hd_NoRopes, ac_NoRopes, xn, xt, mo_NoRopes⟩, kit_NoRopes, xHung_NoRopes, xWhole_NoRopes, xPullError_NoRopes⟩,
    k_Hung := ⟨⟨ga_Hung, gg_Hung, b_Hung, hd_Hung, ac_Hung, xn, xt, mo_Hung⟩, kit_Hung, xHung_Hung, xWhole_Hung, xPullError_Hung⟩,
    k_Whole := ⟨⟨ga_Whole, gg_Whole, b_Whole, hd_Whole, ac_Whole, xn, xt, mo_Whole⟩, kit_Whole, xHung_Whole, xWhole_Whole, xPullError_Whole⟩ }
  refine ⟨PySem.W.fnOf "law" "law" (defArgs s_law) (defBody s_law) (defScope s_law) .none kV48 dc48 pm48 an48 (.ref cL) ct48, [(cL, B)], spOf K (S_lawB B), fun p hp => ?_, fun p hp => ?_, fun p hp => ?_, fun s v => .of_eq rfl, fun H a ns hl _ hH hS => ?_, fun base _ _ hTB => ?_⟩
  · rw [List.mem_singleton.mp hp]; exact tB
  · rw [List.mem_singleton.mp hp]; exact nB
  · rw [List.mem_singleton.mp hp]; exact PySem.W.codeHd_of_K X hB
  · obtain ⟨wk0, sv⟩ := start_tab (q := qLam) (hH (cL, B) (List.mem_singleton.mpr rfl)) hS
    exact ⟨[.l ns], _, _, fun r _ => r = .d (.bool true), wk0, .cons sv .nil, ⟨ns, rfl, hl, if_pos rfl, rfl⟩, fun v r H' M' H2 p _ _ vv => by subst p; cases vv; rfl⟩
  have TB := hTB (cL, B) (List.mem_singleton.mpr rfl)
  have h_cd : Has l.prog w K mg base 1 "common_divisor" ["one", "other"] S_cd := d_common_divisor.has fun fd F => ok_common_divisor F
  have h_fr : Has l.prog w K mg base 2 "fraction" ["top", "bottom"] S_fraction := d_fraction.has fun fd F => ok_fraction F h_cd
  have h_rl : Has l.prog w K mg base 1 "ropes_left" ["bundle", "broken"] S_left := d_ropes_left.has fun fd F => ok_ropes_left F
  have h_rlL : Has l.prog w K mg base 1 "ropes_left" ["bundle", "broken"] S_leftL := d_ropes_left.has fun fd F => ok_ropes_leftL F
  have h_dr : Has l.prog w K mg base 1 "is_drawn" ["slack", "sunk"] S_drawn := d_is_drawn.has fun fd F => ok_is_drawn F
  have h_pa : Has l.prog w K mg base 3 "pull_at" ["rope", "sunk"] S_pull := d_pull_at.has fun fd F => ok_pull_at N F h_dr h_fr
  have h_key : KeyFn l.prog w K f_slack_of keyS := by
    obtain ⟨fd, F, _, b⟩ := d_slack_of.ex
    exact key_item F sc_slack_of b rfl rfl (by decide) (by decide) (by decide)
  have h_sb : Has l.prog w K mg base 4 "sunk_by" ["left", "load"] S_sunk := d_sunk_by.has fun fd F => ok_sunk_by N T F h_key (by obtain ⟨_, _, m, _⟩ := d_slack_of.ex; exact m) h_dr h_fr
  have h_tm : Has l.prog w K mg base 1 "is_too_much" ["rope", "pull"] S_tm := d_is_too_much.has fun fd F => ok_is_too_much F
  have h_gw : Has l.prog w K mg base 5 "giving_way" ["left", "load"] S_gw := d_giving_way.has fun fd F => ok_giving_way T F h_sb h_pa h_tm
  have h_wa : Has l.prog w K mg base 6 "waves" ["bundle", "broken", "load"] S_waves := d_waves.has fun fd F => ok_waves F h_rl h_rlL h_gw
  have h_iw : Has l.prog w K mg base 1 "is_whole" ["thing"] S_isI := d_is_whole.has fun fd F => ok_is_whole T F
  have h_wi : Has l.prog w K mg base 2 "is_within" ["thing", "least", "most"] S_inB := d_is_within.has fun fd F => ok_is_within F h_iw
  have h_in : Has l.prog w K mg base 1 "is_name" ["thing"] S_name := d_is_name.has fun fd F => ok_is_name Cs T F
  have h_ifr : Has l.prog w K mg base 2 "is_fraction" ["thing"] S_frac := d_is_fraction.has fun fd F => ok_is_fraction T F h_iw h_cd
  have h_il : Has l.prog w K mg base 3 "is_load" ["thing"] S_isload := d_is_load.has fun fd F => ok_is_load F h_ifr
  have h_ir : Has l.prog w K mg base 3 "is_rope" ["thing"] S_isrope := d_is_rope.has fun fd F => ok_is_rope Cs T F h_in h_wi
  have h_bag : Has l.prog w K mg base 1 "_law_bag" ["script", "k"] S_bag := d_law_bag.has fun fd F => ok_law_bag T F
  have h_take : Has l.prog w K mg base 1 "_law_take" ["bag", "many"] S_take := d_law_take.has fun fd F => ok_law_take F
  have h_of : Has l.prog w K mg base 2 "_law_of" ["bag", "some"] S_of := d_law_of.has fun fd F => ok_law_of T F h_take
  have h_low : Has l.prog w K mg base 1 "_law_lowest" ["top", "bottom"] S_lowest := d_law_lowest.has fun fd F => ok_law_lowest T F
  have h_rope : Has l.prog w K mg base 2 "_law_rope" ["bag", "name"] S_rope := d_law_rope.has fun fd F => ok_law_rope F h_take
  have h_load : Has l.prog w K mg base 2 "_law_load" ["bag"] S_load := d_law_load.has fun fd F => ok_law_load F h_take h_low
  have h_plus : Has l.prog w K mg base 2 "_law_plus" ["one", "other"] S_plus := d_law_plus.has fun fd F => ok_law_plus F h_low
  have h_less : Has l.prog w K mg base 1 "_law_less" ["one", "other"] S_less := d_law_less.has fun fd F => ok_law_less F
  have h_left : Has l.prog w K mg base 1 "_law_left" ["bundle", "broken"] S_lleft := d_law_left.has fun fd F => ok_law_left F
  have h_pull : Has l.prog w K mg base 2 "_law_pull" ["rope", "sunk"] S_pull := d_law_pull.has fun fd F => ok_law_pull T F h_low
  have h_sunk : Has l.prog w K mg base 2 "_law_sunk" ["ropes", "load"] S_lsunk := d_law_sunk.has fun fd F => ok_law_sunk T F h_low h_less
  have h_lwv : Has l.prog w K mg base 3 "_law_waves" ["bundle", "broken", "load"] S_lwaves := d_law_waves.has fun fd F => ok_law_waves T F h_left h_sunk h_less h_pull
  have h_end : Has l.prog w K mg base 2 "_law_end" ["rope"] S_end := d_law_end.has fun fd F => ok_law_end F h_low
  have h_marks : Has l.prog w K mg base 3 "_law_marks" ["bundle"] S_marks := d_law_marks.has fun fd F => ok_law_marks F h_end h_less h_plus h_pull
  have h_lin : Has l.prog w K mg base 1 "_law_is_name" ["thing"] S_lname := d_law_is_name.has fun fd F => ok_law_is_name T F
  have h_liw : Has l.prog w K mg base 1 "_law_whole" ["thing"] S_isI := d_law_whole.has fun fd F => ok_law_whole T F
  have h_lwi : Has l.prog w K mg base 1 "_law_within" ["thing", "least", "most"] S_inB := d_law_within.has fun fd F => ok_law_within T F
  have h_odd : Has l.prog w K mg base 2 "_law_odd" ["bag"] S_odd := d_law_odd.has fun fd F => ok_law_odd T F h_take
  have h_isn : Has l.prog w K mg base 1 "is_named" ["ropes", "thing"] S_isnm := d_is_named.has fun fd F => ok_is_named T F
  have h_slk : Has l.prog w K mg base 1 "slack_called" ["ropes", "name"] S_slk := d_slack_called.has fun fd F => ok_slack_called F
  have h_tgh : Has l.prog w K mg base 1 "tighter" ["rope", "by"] S_tight := d_tighter.has fun fd F => ok_tighter F
  have h_new0 : Has l.prog w K mg base 1 "_law_new" [] S_new := d_law_new.has fun fd F => ok_law_new F
  have h_lip : Has l.prog w K mg base 2 "_law_is_part" ["thing"] S_isload := d_law_is_part.has fun fd F => ok_law_is_part T F h_liw h_low
  have h_lgr : Has l.prog w K mg base 2 "_law_good_rope" ["thing"] S_isrope := d_law_good_rope.has fun fd F => ok_law_good_rope T F h_lin h_lwi
  have h_refu : Has l.prog w K mg base 3 "_law_refusal_of" ["w", "deed"] S_refu := d_law_refusal_of.has fun fd F => ok_law_refusal_of T F h_lgr h_lip h_lwi
  have h_done : Has l.prog w K mg base 4 "_law_done" ["w", "deed"] S_done := d_law_done.has fun fd F => ok_law_done T F h_lwv
  have h_deed : Has l.prog w K mg base 4 "_law_deed" ["bag", "w"] S_deed := d_law_deed.has fun fd F => ok_law_deed T F h_take h_of h_rope h_load h_left h_marks
  have h_str : Has l.prog w K mg base 3 "_law_strange" ["bag", "deed"] S_str := d_law_strange.has fun fd F => ok_law_strange T F h_take h_odd
  have m_len : HasL l.prog w K mg base 2 C (S_len C) := ⟨_, _, i_len, t_len, ok_w_len wkC T F_len h_rl, b_len⟩
  have m_refuse_hung : HasM l.prog w K mg base 4 C "refuse_hung" ["self"] (S_rhung E C) := ⟨_, _, ok_w_refuse_hung wkC Z N T F_refuse_hung, ⟨i_refuse_hung, fn_refuse_hung, k_refuse_hung⟩, b_refuse_hung⟩
  have m_refuse_unnamed : HasM l.prog w K mg base 4 C "refuse_unnamed" ["self", "name"] (S_runn E C) := ⟨_, _, ok_w_refuse_unnamed wkC Z F_refuse_unnamed h_isn, ⟨i_refuse_unnamed, fn_refuse_unnamed, k_refuse_unnamed⟩, b_refuse_unnamed⟩
  have m_lose : HasM l.prog w K mg base 2 C "lose" ["self", "load", "told"] (S_lose C) := ⟨_, _, ok_w_lose wkC T F_lose, ⟨i_lose, fn_lose, k_lose⟩, b_lose⟩
  have m_settle : HasM l.prog w K mg base 4 C "settle" ["self", "load"] (S_settle C) := ⟨_, _, ok_w_settle wkC N T F_settle m_len, ⟨i_settle, fn_settle, k_settle⟩, b_settle⟩
  have m_put : HasM l.prog w K mg base 5 C "put" ["self", "rope"] (S_put E C) := ⟨_, _, ok_w_put wkC Z Cs T F_put h_ir h_isn m_refuse_hung, ⟨i_put, fn_put, k_put⟩, b_put⟩
  have m_hang : HasM l.prog w K mg base 7 C "hang" ["self", "load"] (S_hang E C) := ⟨_, _, ok_w_hang wkC N Z T F_hang h_il h_wa m_len m_lose m_settle, ⟨i_hang, fn_hang, k_hang⟩, b_hang⟩
  have m_splice : HasM l.prog w K mg base 5 C "splice" ["self", "name"] (S_spl E C) := ⟨_, _, ok_w_splice wkC Z T F_splice m_refuse_unnamed m_refuse_hung, ⟨i_splice, fn_splice, k_splice⟩, b_splice⟩
  have m_tighten : HasM l.prog w K mg base 5 C "tighten" ["self", "name", "by"] (S_tgt E C) := ⟨_, _, ok_w_tighten wkC Z T F_tighten h_wi h_slk h_tgh m_refuse_unnamed m_refuse_hung, ⟨i_tighten, fn_tighten, k_tighten⟩, b_tighten⟩
  have m_ropes : HasM l.prog w K mg base 1 C "ropes" ["self"] (S_ropes C) := ⟨_, _, ok_w_ropes wkC F_ropes, ⟨i_ropes, fn_ropes, k_ropes⟩, b_ropes⟩
  have m_broken : HasM l.prog w K mg base 1 C "broken" ["self"] (S_gone C) := ⟨_, _, ok_w_broken wkC F_broken, ⟨i_broken, fn_broken, k_broken⟩, b_broken⟩
  have m_load : HasM l.prog w K mg base 1 C "load" ["self"] (S_wt C) := ⟨_, _, ok_w_load wkC F_load, ⟨i_load, fn_load, k_load⟩, b_load⟩
  have m_sinking : HasM l.prog w K mg base 5 C "sinking" ["self"] (S_wsink C) := ⟨_, _, ok_w_sinking wkC F_sinking h_rl h_sb, ⟨i_sinking, fn_sinking, k_sinking⟩, b_sinking⟩
  have m_log : HasM l.prog w K mg base 1 C "log" ["self"] (S_log C) := ⟨_, _, ok_w_log wkC T F_log, ⟨i_log, fn_log, k_log⟩, b_log⟩
  have m_fell : HasM l.prog w K mg base 1 C "fell" ["self"] (S_fell C) := ⟨_, _, ok_w_fell wkC F_fell, ⟨i_fell, fn_fell, k_fell⟩, b_fell⟩
  have m_new : HasC l.prog w K mg base 1 C "Works" ["self"] (S_init C) := ⟨_, _, ok_w_init wkC N F_init, ⟨cMk, i_init, fn_init, cKp⟩, b_init, PySem.W.mg_of X G cA⟩
  have m_kinds : HasE l.prog w K mg base 1 "_law_kinds" ["e"] (S_kinds K E) := by
    obtain ⟨fdk, Fk, mk, bk⟩ := d_law_kinds.ex
    exact ⟨_, fdk, ok_law_kinds T Z Fk, mk, Fk.kp, bk⟩
  have h_so : Has l.prog w K mg base 6 "_law_works_so" ["works", "w"] (S_so C) := d_law_works_so.has fun fd F => ok_law_works_so wkC T F h_sunk h_left m_ropes m_broken m_load m_sinking m_log m_fell m_len
  have h_do : HasX l.prog w K mg base 8 "_law_do" ["works", "deed"] (S_do E C) := by
    obtain ⟨fdd, Fd, md, bd⟩ := d_law_do.ex
    exact ⟨_, fdd, ok_law_do wkC T Fd m_put m_hang m_splice m_tighten, md, Fd.kp, bd⟩
  exact ok_law l48 c48 wkC Z T TB d_law_told m_kinds h_bag h_take m_new h_new0 h_deed h_str h_refu h_done h_do h_so m_log
theorem walk {l : PySem.W.OpenLaw} {q : Program} {loose : List Str} {XP : (Str → Option Value) → Heap → Prop} {YP : World → Heap → Prop} {d : DefRec} {K : Params → PySem.W.Frag} (hn : l.most = some 63) (hdf : d.params.defaults = [])
    (hY : ∀ (w : World) (h : Heap), YP w h → (K w.params).In h)
    (F : ∀ (w : World) (mg : Str → Option Value) (fa : Addr) (h : Heap), YP w h → (K w.params).In h → h.Ns mainGlobals mg → mg d.name = some (.ref fa) → LamX.LawAtS l w (K w.params) CX0 11 63 "script" mg fa h) :
    PySem.W.WalkO q loose XP YP l.row.toRowW d [] (fun f vs => PySem.call f vs) :=
  LamX.walk_ofTs (n := 63) (k := 11) (x := "script") (CX := fun _ => CX0) hn (by decide) hdf ⟨rfl, by decide, by decide⟩ hY F fun _ _ _ _ _ z => z
end K2
open PySem PySem.W PyProof.Rows in
set_option maxRecDepth 100000 in
set_option maxHeartbeats 0 in
theorem PySem.Challenge.cw_strandpull_k11_works_by_hand_holds : PySem.Challenge.rw_strandpull_k11_works_by_hand.Holds := by
  w_on; o_law
  refine HandSHeadRun.head_any (r := K2.hRow) (q := K2.hView) (H := kmHook K2.hMk.heap_1 K2.hAs K2.hEk K2.hTs) (ob := K2.hOb) (M := 12000) (loose := K2.hNames) (d := HandSHeadRun.topDef K2.hRow.prog 73) (kwd := []) K2.hOb_eq (by kernel_rfl) (fun s => by kernel_rfl) K2.hRun (by kernel_rfl) (by kernel_rfl) (by kernel_rfl) (by rfl) (by assumption) (by decide +kernel) ⟨rfl, rfl, rfl, rfl, rfl, by decide +kernel⟩ (by w_witness2) ?_
  k_fill
  refine K2.walk (l := PySem.Challenge.rw_strandpull_k11_works_by_hand) rfl rfl (fun w h Y => PySem.W.km_in_of Y) ?F
  case F =>
    intro w mg fa h Y KX G hmg
    refine' K2.all_mk KX G hmg ?a0 ?l0 ?c0 ?k0 ?a1 ?l1 ?c1 ?k1 ?a2 ?l2 ?c2 ?k2 ?a3 ?l3 ?c3 ?k3 ?a4 ?l4 ?c4 ?k4 ?a5 ?l5 ?c5 ?k5 ?a6 ?l6 ?c6 ?k6 ?a7 ?l7 ?c7 ?k7 ?a8 ?l8 ?c8 ?k8 ?a9 ?l9 ?c9 ?k9 ?a10 ?l10 ?c10 ?k10 ?a11 ?l11 ?c11 ?k11 ?a12 ?l12 ?c12 ?k12 ?a13 ?l13 ?c13 ?k13 ?a14 ?l14 ?c14 ?k14 ?a15 ?l15 ?c15 ?k15 ?a16 ?l16 ?c16 ?k16 ?a17 ?l17 ?c17 ?k17 ?a18 ?l18 ?c18 ?k18 ?a19 ?l19 ?c19 ?k19 ?a20 ?l20 ?c20 ?k20 ?a21 ?l21 ?c21 ?k21 ?a22 ?l22 ?c22 ?k22 ?a23 ?l23 ?c23 ?k23 ?a24 ?l24 ?c24 ?k24 ?a25 ?l25 ?c25 ?k25 ?a26 ?l26 ?c26 ?k26 ?a27 ?l27 ?c27 ?k27 ?a28 ?l28 ?c28 ?k28 ?a29 ?l29 ?c29 ?k29 ?a30 ?l30 ?c30 ?k30 ?a31 ?l31 ?c31 ?k31 ?a32 ?l32 ?c32 ?k32 ?a33 ?l33 ?c33 ?k33 ?a34 ?l34 ?c34 ?k34 ?a35 ?l35 ?c35 ?k35 ?a36 ?l36 ?c36 ?k36 ?a37 ?l37 ?c37 ?k37 ?a38 ?l38 ?c38 ?k38 ?a39 ?l39 ?c39 ?k39 ?a40 ?l40 ?c40 ?k40 ?a41 ?l41 ?c41 ?k41 ?a42 ?l42 ?c42 ?k42 ?a43 ?l43 ?c43 ?k43 ?a44 ?l44 ?c44 ?k44 ?a45 ?l45 ?c45 ?k45 ?a46 ?l46 ?c46 ?k46 ?a47 ?l47 ?c47 ?k47 ?a48 ?l48 ?c48 ?k48 ?zN ?lN ?z_MOST_LETTERS ?z_MOST_SLACK ?z_MOST_STIFF ?z_MOST_STRONG ?z_MOST_ROPES ?z_len ?z_abs ?z_max ?z_min ?z_sum ?z_sorted ?z_tuple ?z_range ?z_list ?z_isinstance ?z_bool ?z_set ?z_dict ?z_int ?z_str ?z_all ?z_zip ?z_any ?z_enumerate ?z_super ?z_ValueError ?cA ?cPg ?cHd ?cPo ?cSa ?cMk ?cKp ?n_strands ?n_gone ?n_weight ?n_story ?n_falls ?n_busy ?i_init ?l_init ?c_init ?k_init ?fn_init ?i_len ?l_len ?c_len ?k_len ?fn_len ?i_refuse_hung ?l_refuse_hung ?c_refuse_hung ?k_refuse_hung ?fn_refuse_hung ?i_refuse_unnamed ?l_refuse_unnamed ?c_refuse_unnamed ?k_refuse_unnamed ?fn_refuse_unnamed ?i_lose ?l_lose ?c_lose ?k_lose ?fn_lose ?i_settle ?l_settle ?c_settle ?k_settle ?fn_settle ?i_put ?l_put ?c_put ?k_put ?fn_put ?i_hang ?l_hang ?c_hang ?k_hang ?fn_hang ?i_splice ?l_splice ?c_splice ?k_splice ?fn_splice ?i_tighten ?l_tighten ?c_tighten ?k_tighten ?fn_tighten ?i_ropes ?l_ropes ?c_ropes ?k_ropes ?fn_ropes ?i_broken ?l_broken ?c_broken ?k_broken ?fn_broken ?i_load ?l_load ?c_load ?k_load ?fn_load ?i_sinking ?l_sinking ?c_sinking ?k_sinking ?fn_sinking ?i_log ?l_log ?c_log ?k_log ?fn_log ?i_fell ?l_fell ?c_fell ?k_fell ?fn_fell ?t_len ?g_AskedError ?g_ToldError ?g_PullError ?g_NoRope ?g_NoLoad ?g_NoName ?g_NoNumber ?g_Taken ?g_Full ?g_NoRopes ?g_Hung ?g_Whole ?xn ?xt ?k_NoRope ?b_NoRope ?t_NoRope ?ga_NoRope ?gg_NoRope ?hd_NoRope ?ac_NoRope ?mo_NoRope ?kit_NoRope ?xHung_NoRope ?xWhole_NoRope ?xPullError_NoRope ?x_NoRope ?k_NoLoad ?b_NoLoad ?t_NoLoad ?ga_NoLoad ?gg_NoLoad ?hd_NoLoad ?ac_NoLoad ?mo_NoLoad ?kit_NoLoad ?xHung_NoLoad ?xWhole_NoLoad ?xPullError_NoLoad ?x_NoLoad ?k_NoName ?b_NoName ?t_NoName ?ga_NoName ?gg_NoName ?hd_NoName ?ac_NoName ?mo_NoName ?kit_NoName ?xHung_NoName ?xWhole_NoName ?xPullError_NoName ?x_NoName ?k_NoNumber ?b_NoNumber ?t_NoNumber ?ga_NoNumber ?gg_NoNumber ?hd_NoNumber ?ac_NoNumber ?mo_NoNumber ?kit_NoNumber ?xHung_NoNumber ?xWhole_NoNumber ?xPullError_NoNumber ?x_NoNumber ?k_Taken ?b_Taken ?t_Taken ?ga_Taken ?gg_Taken ?hd_Taken ?ac_Taken ?mo_Taken ?kit_Taken ?xHung_Taken ?xWhole_Taken ?xPullError_Taken ?x_Taken ?k_Full ?b_Full ?t_Full ?ga_Full ?gg_Full ?hd_Full ?ac_Full ?mo_Full ?kit_Full ?xHung_Full ?xWhole_Full ?xPullError_Full ?x_Full ?k_NoRopes ?b_NoRopes ?t_NoRopes ?ga_NoRopes ?gg_NoRopes ?hd_NoRopes ?ac_NoRopes ?mo_NoRopes ?kit_NoRopes ?xHung_NoRopes ?xWhole_NoRopes ?xPullError_NoRopes ?x_NoRopes ?k_Hung ?b_Hung ?t_Hung ?ga_Hung ?gg_Hung ?hd_Hung ?ac_Hung ?mo_Hung ?kit_Hung ?xHung_Hung ?xWhole_Hung ?xPullError_Hung ?k_Whole ?b_Whole ?t_Whole ?ga_Whole ?gg_Whole ?hd_Whole ?ac_Whole ?mo_Whole ?kit_Whole ?xHung_Whole ?xWhole_Whole ?xPullError_Whole ?zst ?ztop ?cls_Hung ?ve_Hung ?sa_Hung ?no_Hung ?in_Hung ?ti_Hung ?sv_Hung ?up_Hung ?ms_Hung ?lf_Hung ?cf_Hung ?ce_Hung ?lc_Hung ?vf_Hung ?pf_Hung ?ev_Hung ?s1_Hung ?s2_Hung ?cls_Whole ?ve_Whole ?sa_Whole ?no_Whole ?in_Whole ?ti_Whole ?sv_Whole ?up_Whole ?ms_Whole ?lf_Whole ?cf_Whole ?ce_Whole ?lc_Whole ?vf_Whole ?pf_Whole ?ev_Whole ?s1_Whole ?s2_Whole ?tB ?nB ?hB
    (case a0 => k_is)
    (case l0 => k_is)
    (case c0 => k_is)
    (case k0 => k_is)
    (case a1 => k_is)
    (case l1 => k_is)
    (case c1 => k_is)
    (case k1 => k_is)
    (case a2 => k_is)
    (case l2 => k_is)
    (case c2 => k_is)
    (case k2 => k_is)
    (case a3 => k_is)
    (case l3 => k_is)
    (case c3 => k_is)
    (case k3 => k_is)
    (case a4 => k_is)
    (case l4 => k_is)
    (case c4 => k_is)
    (case k4 => k_is)
    (case a5 => k_is)
    (case l5 => k_is)
    (case c5 => k_is)
    (case k5 => k_is)
    (case a6 => k_is)
    (case l6 => k_is)
    (case c6 => k_is)
    (case k6 => k_is)
    (case a7 => k_is)
    (case l7 => k_is)
    (case c7 => k_is)
    (case k7 => k_is)
    (case a8 => k_is)
    (case l8 => k_is)
    (case c8 => k_is)
    (case k8 => k_is)
    (case a9 => k_is)
    (case l9 => k_is)
    (case c9 => k_is)
    (case k9 => k_is)
    (case a10 => k_is)
    (case l10 => k_is)
    (case c10 => k_is)
    (case k10 => k_is)
    (case a11 => k_is)
    (case l11 => k_is)
    (case c11 => k_is)
    (case k11 => k_is)
    (case a12 => k_is)
    (case l12 => k_is)
    (case c12 => k_is)
    (case k12 => k_is)
    (case a13 => k_is)
    (case l13 => k_is)
    (case c13 => k_is)
    (case k13 => k_is)
    (case a14 => k_is)
    (case l14 => k_is)
    (case c14 => k_is)
    (case k14 => k_is)
    (case a15 => k_is)
    (case l15 => k_is)
    (case c15 => k_is)
    (case k15 => k_is)
    (case a16 => k_is)
    (case l16 => k_is)
    (case c16 => k_is)
    (case k16 => k_is)
    (case a17 => k_is)
    (case l17 => k_is)
    (case c17 => k_is)
    (case k17 => k_is)
    (case a18 => k_is)
    (case l18 => k_is)
    (case c18 => k_is)
    (case k18 => k_is)
    (case a19 => k_is)
    (case l19 => k_is)
    (case c19 => k_is)
    (case k19 => k_is)
    (case a20 => k_is)
    (case l20 => k_is)
    (case c20 => k_is)
    (case k20 => k_is)
    (case a21 => k_is)
    (case l21 => k_is)
    (case c21 => k_is)
    (case k21 => k_is)
    (case a22 => k_is)
    (case l22 => k_is)
    (case c22 => k_is)
    (case k22 => k_is)
    (case a23 => k_is)
    (case l23 => k_is)
    (case c23 => k_is)
    (case k23 => k_is)
    (case a24 => k_is)
    (case l24 => k_is)
    (case c24 => k_is)
    (case k24 => k_is)
    (case a25 => k_is)
    (case l25 => k_is)
    (case c25 => k_is)
    (case k25 => k_is)
    (case a26 => k_is)
    (case l26 => k_is)
    (case c26 => k_is)
    (case k26 => k_is)
    (case a27 => k_is)
    (case l27 => k_is)
    (case c27 => k_is)
    (case k27 => k_is)
    (case a28 => k_is)
    (case l28 => k_is)
    (case c28 => k_is)
    (case k28 => k_is)
    (case a29 => k_is)
    (case l29 => k_is)
    (case c29 => k_is)
    (case k29 => k_is)
    (case a30 => k_is)
    (case l30 => k_is)
    (case c30 => k_is)
    (case k30 => k_is)
    (case a31 => k_is)
    (case l31 => k_is)
    (case c31 => k_is)
    (case k31 => k_is)
    (case a32 => k_is)
    (case l32 => k_is)
    (case c32 => k_is)
    (case k32 => k_is)
    (case a33 => k_is)
    (case l33 => k_is)
    (case c33 => k_is)
    (case k33 => k_is)
    (case a34 => k_is)
    (case l34 => k_is)
    (case c34 => k_is)
    (case k34 => k_is)
    (case a35 => k_is)
    (case l35 => k_is)
    (case c35 => k_is)
    (case k35 => k_is)
    (case a36 => k_is)
    (case l36 => k_is)
    (case c36 => k_is)
    (case k36 => k_is)
    (case a37 => k_is)
    (case l37 => k_is)
    (case c37 => k_is)
    (case k37 => k_is)
    (case a38 => k_is)
    (case l38 => k_is)
    (case c38 => k_is)
    (case k38 => k_is)
    (case a39 => k_is)
    (case l39 => k_is)
    (case c39 => k_is)
    (case k39 => k_is)
    (case a40 => k_is)
    (case l40 => k_is)
    (case c40 => k_is)
    (case k40 => k_is)
    (case a41 => k_is)
    (case l41 => k_is)
    (case c41 => k_is)
    (case k41 => k_is)
    (case a42 => k_is)
    (case l42 => k_is)
    (case c42 => k_is)
    (case k42 => k_is)
    (case a43 => k_is)
    (case l43 => k_is)
    (case c43 => k_is)
    (case k43 => k_is)
    (case a44 => k_is)
    (case l44 => k_is)
    (case c44 => k_is)
    (case k44 => k_is)
    (case a45 => k_is)
    (case l45 => k_is)
    (case c45 => k_is)
    (case k45 => k_is)
    (case a46 => k_is)
    (case l46 => k_is)
    (case c46 => k_is)
    (case k46 => k_is)
    (case a47 => k_is)
    (case l47 => k_is)
    (case c47 => k_is)
    (case k47 => k_is)
    (case a48 => k_is)
    (case l48 => k_is)
    (case c48 => k_is)
    (case k48 => k_is)
    (case zN => k_is)
    (case lN => k_is)
    (case z_MOST_LETTERS => k_is)
    (case z_MOST_SLACK => k_is)
    (case z_MOST_STIFF => k_is)
    (case z_MOST_STRONG => k_is)
    (case z_MOST_ROPES => k_is)
    (case z_len => k_is)
    (case z_abs => k_is)
    (case z_max => k_is)
    (case z_min => k_is)
    (case z_sum => k_is)
    (case z_sorted => k_is)
    (case z_tuple => k_is)
    (case z_range => k_is)
    (case z_list => k_is)
    (case z_isinstance => k_is)
    (case z_bool => k_is)
    (case z_set => k_is)
    (case z_dict => k_is)
    (case z_int => k_is)
    (case z_str => k_is)
    (case z_all => k_is)
    (case z_zip => k_is)
    (case z_any => k_is)
    (case z_enumerate => k_is)
    (case z_super => k_is)
    (case z_ValueError => k_is)
    (case cA => k_is)
    (case cPg => k_is)
    (case cHd => k_is)
    (case cPo => k_is)
    (case cSa => k_is)
    (case cMk => k_is)
    (case cKp => k_is)
    (case n_strands => k_is)
    (case n_gone => k_is)
    (case n_weight => k_is)
    (case n_story => k_is)
    (case n_falls => k_is)
    (case n_busy => k_is)
    (case i_init => k_is)
    (case l_init => k_is)
    (case c_init => k_is)
    (case k_init => k_is)
    (case fn_init => k_is)
    (case i_len => k_is)
    (case l_len => k_is)
    (case c_len => k_is)
    (case k_len => k_is)
    (case fn_len => k_is)
    (case i_refuse_hung => k_is)
    (case l_refuse_hung => k_is)
    (case c_refuse_hung => k_is)
    (case k_refuse_hung => k_is)
    (case fn_refuse_hung => k_is)
    (case i_refuse_unnamed => k_is)
    (case l_refuse_unnamed => k_is)
    (case c_refuse_unnamed => k_is)
    (case k_refuse_unnamed => k_is)
    (case fn_refuse_unnamed => k_is)
    (case i_lose => k_is)
    (case l_lose => k_is)
    (case c_lose => k_is)
    (case k_lose => k_is)
    (case fn_lose => k_is)
    (case i_settle => k_is)
    (case l_settle => k_is)
    (case c_settle => k_is)
    (case k_settle => k_is)
    (case fn_settle => k_is)
    (case i_put => k_is)
    (case l_put => k_is)
    (case c_put => k_is)
    (case k_put => k_is)
    (case fn_put => k_is)
    (case i_hang => k_is)
    (case l_hang => k_is)
    (case c_hang => k_is)
    (case k_hang => k_is)
    (case fn_hang => k_is)
    (case i_splice => k_is)
    (case l_splice => k_is)
    (case c_splice => k_is)
    (case k_splice => k_is)
    (case fn_splice => k_is)
    (case i_tighten => k_is)
    (case l_tighten => k_is)
    (case c_tighten => k_is)
    (case k_tighten => k_is)
    (case fn_tighten => k_is)
    (case i_ropes => k_is)
    (case l_ropes => k_is)
    (case c_ropes => k_is)
    (case k_ropes => k_is)
    (case fn_ropes => k_is)
    (case i_broken => k_is)
    (case l_broken => k_is)
    (case c_broken => k_is)
    (case k_broken => k_is)
    (case fn_broken => k_is)
    (case i_load => k_is)
    (case l_load => k_is)
    (case c_load => k_is)
    (case k_load => k_is)
    (case fn_load => k_is)
    (case i_sinking => k_is)
    (case l_sinking => k_is)
    (case c_sinking => k_is)
    (case k_sinking => k_is)
    (case fn_sinking => k_is)
    (case i_log => k_is)
    (case l_log => k_is)
    (case c_log => k_is)
    (case k_log => k_is)
    (case fn_log => k_is)
    (case i_fell => k_is)
    (case l_fell => k_is)
    (case c_fell => k_is)
    (case k_fell => k_is)
    (case fn_fell => k_is)
    (case t_len => k_is)
    (case g_AskedError => k_is)
    (case g_ToldError => k_is)
    (case g_PullError => k_is)
    (case g_NoRope => k_is)
    (case g_NoLoad => k_is)
    (case g_NoName => k_is)
    (case g_NoNumber => k_is)
    (case g_Taken => k_is)
    (case g_Full => k_is)
    (case g_NoRopes => k_is)
    (case g_Hung => k_is)
    (case g_Whole => k_is)
    (case xn => k_is)
    (case xt => k_is)
    (case k_NoRope => k_is)
    (case b_NoRope => k_is)
    (case t_NoRope => k_is)
    (case ga_NoRope => k_is)
    (case gg_NoRope => k_is)
    (case hd_NoRope => k_is)
    (case ac_NoRope => k_is)
    (case mo_NoRope => k_is)
    (case kit_NoRope => kernel_rfl)
    (case xHung_NoRope => kernel_rfl)
    (case xWhole_NoRope => kernel_rfl)
    (case xPullError_NoRope => kernel_rfl)
    (case x_NoRope => k_exc)
    (case k_NoLoad => k_is)
    (case b_NoLoad => k_is)
    (case t_NoLoad => k_is)
    (case ga_NoLoad => k_is)
    (case gg_NoLoad => k_is)
    (case hd_NoLoad => k_is)
    (case ac_NoLoad => k_is)
    (case mo_NoLoad => k_is)
    (case kit_NoLoad => kernel_rfl)
    (case xHung_NoLoad => kernel_rfl)
    (case xWhole_NoLoad => kernel_rfl)
    (case xPullError_NoLoad => kernel_rfl)
    (case x_NoLoad => k_exc)
    (case k_NoName => k_is)
    (case b_NoName => k_is)
    (case t_NoName => k_is)
    (case ga_NoName => k_is)
    (case gg_NoName => k_is)
    (case hd_NoName => k_is)
    (case ac_NoName => k_is)
    (case mo_NoName => k_is)
    (case kit_NoName => kernel_rfl)
    (case xHung_NoName => kernel_rfl)
    (case xWhole_NoName => kernel_rfl)
    (case xPullError_NoName => kernel_rfl)
    (case x_NoName => k_exc)
    (case k_NoNumber => k_is)
    (case b_NoNumber => k_is)
    (case t_NoNumber => k_is)
    (case ga_NoNumber => k_is)
    (case gg_NoNumber => k_is)
    (case hd_NoNumber => k_is)
    (case ac_NoNumber => k_is)
    (case mo_NoNumber => k_is)
    (case kit_NoNumber => kernel_rfl)
    (case xHung_NoNumber => kernel_rfl)
    (case xWhole_NoNumber => kernel_rfl)
    (case xPullError_NoNumber => kernel_rfl)
    (case x_NoNumber => k_exc)
    (case k_Taken => k_is)
    (case b_Taken => k_is)
    (case t_Taken => k_is)
    (case ga_Taken => k_is)
    (case gg_Taken => k_is)
    (case hd_Taken => k_is)
    (case ac_Taken => k_is)
    (case mo_Taken => k_is)
    (case kit_Taken => kernel_rfl)
    (case xHung_Taken => kernel_rfl)
    (case xWhole_Taken => kernel_rfl)
    (case xPullError_Taken => kernel_rfl)
    (case x_Taken => k_exc)
    (case k_Full => k_is)
    (case b_Full => k_is)
    (case t_Full => k_is)
    (case ga_Full => k_is)
    (case gg_Full => k_is)
    (case hd_Full => k_is)
    (case ac_Full => k_is)
    (case mo_Full => k_is)
    (case kit_Full => kernel_rfl)
    (case xHung_Full => kernel_rfl)
    (case xWhole_Full => kernel_rfl)
    (case xPullError_Full => kernel_rfl)
    (case x_Full => k_exc)
    (case k_NoRopes => k_is)
    (case b_NoRopes => k_is)
    (case t_NoRopes => k_is)
    (case ga_NoRopes => k_is)
    (case gg_NoRopes => k_is)
    (case hd_NoRopes => k_is)
    (case ac_NoRopes => k_is)
    (case mo_NoRopes => k_is)
    (case kit_NoRopes => kernel_rfl)
    (case xHung_NoRopes => kernel_rfl)
    (case xWhole_NoRopes => kernel_rfl)
    (case xPullError_NoRopes => kernel_rfl)
    (case x_NoRopes => k_exc)
    (case k_Hung => k_is)
    (case b_Hung => k_is)
    (case t_Hung => k_is)
    (case ga_Hung => k_is)
    (case gg_Hung => k_is)
    (case hd_Hung => k_is)
    (case ac_Hung => k_is)
    (case mo_Hung => k_is)
    (case kit_Hung => kernel_rfl)
    (case xHung_Hung => kernel_rfl)
    (case xWhole_Hung => kernel_rfl)
    (case xPullError_Hung => kernel_rfl)
    (case k_Whole => k_is)
    (case b_Whole => k_is)
    (case t_Whole => k_is)
    (case ga_Whole => k_is)
    (case gg_Whole => k_is)
    (case hd_Whole => k_is)
    (case ac_Whole => k_is)
    (case mo_Whole => k_is)
    (case kit_Whole => kernel_rfl)
    (case xHung_Whole => kernel_rfl)
    (case xWhole_Whole => kernel_rfl)
    (case xPullError_Whole => kernel_rfl)
    (case zst => k_is)
    (case ztop => rfl)
    (case cls_Hung => k_is)
    (case ve_Hung => rfl)
    (case sa_Hung => k_is)
    (case no_Hung => k_is)
    (case in_Hung => k_is)
    (case ti_Hung => k_is)
    (case sv_Hung => k_is)
    (case up_Hung => ks_is)
    (case ms_Hung => k_is)
    (case lf_Hung => k_is)
    (case cf_Hung => k_is)
    (case ce_Hung => k_is)
    (case lc_Hung => k_is)
    (case vf_Hung => rfl)
    (case pf_Hung => decide +kernel)
    (case ev_Hung => exact ⟨_, fun L => rfl⟩)
    (case s1_Hung => exact fun L => rfl)
    (case s2_Hung => exact fun L => rfl)
    (case cls_Whole => k_is)
    (case ve_Whole => rfl)
    (case sa_Whole => k_is)
    (case no_Whole => k_is)
    (case in_Whole => k_is)
    (case ti_Whole => k_is)
    (case sv_Whole => k_is)
    (case up_Whole => ks_is)
    (case ms_Whole => k_is)
    (case lf_Whole => k_is)
    (case cf_Whole => k_is)
    (case ce_Whole => k_is)
    (case lc_Whole => k_is)
    (case vf_Whole => rfl)
    (case pf_Whole => decide +kernel)
    (case ev_Whole => exact ⟨_, fun L => rfl⟩)
    (case s1_Whole => exact fun L => rfl)
    (case s2_Whole => exact fun L => rfl)
    (case tB => exact PySem.W.km_tabs_of Y _ List.mem_cons_self)
    (case nB => kernel_rfl)
    (case hB => kernel_rfl)
