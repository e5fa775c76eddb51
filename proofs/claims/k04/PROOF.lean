import PyProof.Rows.All
import Wide.All
import OpenK.AllK
import Wide.FinOn
import HandS.ForMost
import HandS.IsInst
import HandS.SetKeys
import HandS.NoneIn
import HandS.Style
import HandS.More
import HandS.Zip
import HandS.Walk
import HandS.TupAny
import KE.GoesMore
import KE.GoesEnum
import HandS.DictTup
import KE.KDictKeyed
import KE.KDictDisplayH
import HandS.SortKw
import KE.DataMinMax
import PyProof.P3In
import HandS.TupSets
import HandS.RaiseMore
import HandS.TupMul
import HandS.ExcOwn
import HandS.WordsExc
import HandS.Lambda
import HandS.ExcIs
import HandS.EndOwn
import HandS.HeadHook1
import PyProof.ExcBaseAll.ValueError
import PySem.Challenge.RW_lateboxes_k04_whole_looked_at_by_all_way
set_option Elab.async false
set_option linter.all false
set_option maxRecDepth 100000
set_option maxHeartbeats 4000000
/-! Lateboxes, common to all laws: the drawer's list, what stays, rows as data. Own text. -/
namespace LB
open PySem L2
/-- the drawer: a list at p, its own list of numbers at l -/
def HAt (H : Hp) (p l : Addr) : Prop := ∃ (m t : Int) (ns : List Int), H p = some (.lst [.int m, .ref l, .int t]) ∧ H l = some (.lst (ns.map V.int)) ∧ 0 ≤ m ∧ m < 2147483647 ∧ ns.length ≤ 63
/-- all that stood stands, but for what stands at p and l -/
def Keep (p l : Addr) (H H' : Hp) : Prop := ∀ b o, H b = some o → b ≠ p → b ≠ l → H' b = some o
theorem HAt.ne {H : Hp} {p l : Addr} (h : HAt H p l) : p ≠ l := by
  obtain ⟨m, t, ns, h1, h2, _⟩ := h
  intro e
  rw [e, h2] at h1
  cases ns with
  | nil => cases h1
  | cons x r =>
    cases r with
    | nil => cases h1
    | cons y r => cases h1
theorem Keep.refl (p l : Addr) (H : Hp) : Keep p l H H := fun _ _ h _ _ => h
theorem Keep.trans {p l : Addr} {H H1 H2 : Hp} (a : Keep p l H H1) (b : Keep p l H1 H2) : Keep p l H H2 := fun c o e n1 n2 => b c o (a c o e n1 n2) n1 n2
theorem Keep.of_same {p l : Addr} {H H' : Hp} (s : Same H H') : Keep p l H H' := fun c o e _ _ => s c o e
theorem same_new {H : Hp} {a : Addr} (h : H a = none) (o : HO) : Same H (upd H a o) := fun b u q => by
  rw [upd_ne (ne_of_none q h)]
  exact q
theorem Keep.new {p l a : Addr} {H H' : Hp} {o : HO} (s : Keep p l H H') (h : H' a = none) : Keep p l H (upd H' a o) := s.trans (.of_same (same_new h o))
/-- a drawer stands when others are made or changed -/
theorem HAt.same {H H' : Hp} {p l : Addr} (h : HAt H p l) (s : Same H H') : HAt H' p l := by
  obtain ⟨m, t, ns, h1, h2, h3⟩ := h
  exact ⟨m, t, ns, s _ _ h1, s _ _ h2, h3⟩
theorem HAt.new {H : Hp} {p l a : Addr} {o : HO} (h : HAt H p l) (n : H a = none) : HAt (upd H a o) p l := h.same (same_new n o)
/-- what is not there at the end was not there ahead -/
theorem Keep.free {p l a : Addr} {H H' : Hp} (hh : HAt H' p l) (s : Keep p l H H') (h : H' a = none) : H a = none := by
  cases q : H a with
  | none => rfl
  | some o =>
    obtain ⟨m, t, ns, h1, h2, _⟩ := hh
    by_cases e1 : a = p
    · rw [e1, h1] at h; cases h
    · by_cases e2 : a = l
      · rw [e2, h2] at h; cases h
      · rw [s a o q e1 e2] at h; cases h
theorem keep_tup {K : PySem.W.Frag} {p l a : Addr} {H H' : Hp} {xs : List V} (hh : HAt H p l) (s : Keep p l H H') (h : SqT K H a xs) : SqT K H' a xs := by
  obtain ⟨m, t, ns, h1, h2, _⟩ := hh
  rcases h with (h | ⟨o, h⟩) | h
  · refine .inl (.inl (s _ _ h (fun e => ?_) (fun e => ?_)))
    · rw [e, h1] at h; cases h
    · rw [e, h2] at h; cases h
  · refine .inl (.inr ⟨o, s _ _ h (fun e => ?_) (fun e => ?_)⟩)
    · rw [e, h1] at h; cases h
    · rw [e, h2] at h; cases h
  · exact .inr h
theorem HAt.nep {H : Hp} {p l d : Addr} (h : HAt H p l) (hd : H d = none) : d ≠ p := fun e => by
  obtain ⟨m, t, ns, q, _⟩ := h
  rw [e, q] at hd; cases hd
theorem HAt.nel {H : Hp} {p l d : Addr} (h : HAt H p l) (hd : H d = none) : d ≠ l := fun e => by
  obtain ⟨m, t, ns, _, q, _⟩ := h
  rw [e, q] at hd; cases hd
/-- what stands at d, made behind H0, may change -/
theorem Keep.over {p l d : Addr} {H0 H : Hp} {o : HO} (s : Keep p l H0 H) (hd : H0 d = none) : Keep p l H0 (upd H d o) := fun b u e n1 n2 => by
  rw [upd_ne (ne_of_none e hd)]
  exact s b u e n1 n2
theorem HAt.over {H : Hp} {p l d : Addr} {o : HO} (h : HAt H p l) (n1 : d ≠ p) (n2 : d ≠ l) : HAt (upd H d o) p l := by
  obtain ⟨m, t, ns, h1, h2, h3⟩ := h
  exact ⟨m, t, ns, by rw [upd_ne n1.symm]; exact h1, by rw [upd_ne n2.symm]; exact h2, h3⟩
theorem small {n : Nat} (h : n ≤ 1000) : n ≤ sizeLine := Nat.le_of_lt (small1000 h)
theorem map_get {ns : List Int} {i : Nat} {y : V} (h : (ns.map V.int)[i]? = some y) : ∃ u, ns[i]? = some u ∧ y = V.int u := by
  rw [List.getElem?_map] at h
  cases e : ns[i]? with
  | none => rw [e] at h; cases h
  | some u => rw [e] at h; exact ⟨u, rfl, (Option.some.inj h).symm⟩
/-! ### joining ways -/
theorem if_cut {b : Bool} {ta tb : TE} {σ : L2.St} {H : Hp} {Q : V → Hp → Prop} (G : V → Hp → Prop) (hT : b = true → ∀ Q' : V → Hp → Prop, (∀ v H', G v H' → Q' v H') → ta σ H Q') (hF : b = false → ∀ Q' : V → Hp → Prop, (∀ v H', G v H' → Q' v H') → tb σ H Q')
    (k : ∀ v H', G v H' → Q v H') : if b = true then ta σ H Q else tb σ H Q := by
  cases b with
  | true => rw [if_pos rfl]; exact hT rfl Q k
  | false => rw [if_neg (by decide)]; exact hF rfl Q k
theorem ifs_cut {b : Bool} {t u : TS} {D : Ends} {σ : L2.St} {H : Hp} (G : L2.St → Hp → Prop) (hT : b = true → ∀ D' : Ends, D'.rt = D.rt → (∀ σ' H', G σ' H' → D'.nx σ' H') → t D' σ H)
    (hF : b = false → ∀ D' : Ends, D'.rt = D.rt → (∀ σ' H', G σ' H' → D'.nx σ' H') → u D' σ H) (k : ∀ σ' H', G σ' H' → D.nx σ' H') : if b = true then t D σ H else u D σ H := by
  cases b with
  | true => rw [if_pos rfl]; exact hT rfl D rfl k
  | false => rw [if_neg (by decide)]; exact hF rfl D rfl k
theorem yes_if {σ : L2.St} {H : Hp} {A B : Hp → Prop} (h : A H) : tYes σ H fun b H3 => if b = true then A H3 else B H3 := by
  show if (true : Bool) = true then A H else B H
  exact iteT h
theorem if_both {b : Bool} {A B : Prop} (hT : b = true → A) (hF : b = false → B) : if b = true then A else B := by
  cases b with
  | true => rw [if_pos rfl]; exact hT rfl
  | false => rw [if_neg (by decide)]; exact hF rfl
/-! ### lists of numbers as data -/
theorem all_ints (K : PySem.W.Frag) (H : Hp) : ∀ ns : List Int, DpAll K H (ns.map V.int) (ns.map PyData.int)
  | [] => .nil
  | x :: r => .cons (.int x) (all_ints K H r)
theorem lay_ints : ∀ ns : List Int, PyData.canLayAll0 (ns.map PyData.int) = true
  | [] => rfl
  | x :: r => by
    show (PyData.canLay0 (.int x) && PyData.canLayAll0 (r.map PyData.int)) = true
    rw [lay_ints r]
    rfl
theorem deep_ints : ∀ ns : List Int, PyData.depthAll (ns.map PyData.int) = 0
  | [] => rfl
  | x :: r => by
    show max (PyData.depth (.int x)) (PyData.depthAll (r.map PyData.int)) = 0
    rw [deep_ints r]
    rfl
theorem shaped_ints (ns : List Int) : SeqAt.shaped (.list (ns.map PyData.int)) = true := by
  have h1 : PyData.canLay0 (.list (ns.map PyData.int)) = true := lay_ints ns
  have h2 : PyData.depth (.list (ns.map PyData.int)) = 1 := by
    show PyData.depthAll (ns.map PyData.int) + 1 = 1
    rw [deep_ints]
  unfold SeqAt.shaped
  rw [h1, h2]
  rfl
theorem eqv_ints : ∀ ns ms : List Int, PyData.eqvAll (ns.map PyData.int) (ms.map PyData.int) = decide (ns = ms)
  | [], [] => rfl
  | [], _ :: _ => rfl
  | _ :: _, [] => rfl
  | x :: r, y :: t => by
    show ((x == y) && PyData.eqvAll (r.map PyData.int) (t.map PyData.int)) = decide (x :: r = y :: t)
    rw [eqv_ints r t]
    by_cases h : x = y <;> by_cases h2 : r = t <;> simp [h, h2]
theorem eqv_lists (ns ms : List Int) : PyData.eqv (.list (ns.map PyData.int)) (.list (ms.map PyData.int)) = decide (ns = ms) := eqv_ints ns ms
theorem Dp.ints {K : PySem.W.Frag} {H : Hp} {a : Addr} {ns : List Int} (h : SqL K H a (ns.map V.int)) : Dp K H (.ref a) (.list (ns.map PyData.int)) := .lst h (all_ints K H ns)
theorem set_ints (ns : List Int) (j : Nat) (z : Int) : (ns.map V.int).set j (.int z) = (ns.set j z).map V.int := by rw [List.map_set]
/-! ### a def as its callers see it -/
structure Cal (P : Program) (w : World) (K : PySem.W.Frag) (mg : Str → Option Value) (base : Heap) (k : Nat) (x : Str) (ps : List Str) (sp : Sp) : Prop where
  ex : ∃ (f : Addr) (fd : FuncData), FnOk P w K mg base CX0 k f fd ps sp ∧ mg x = some (.ref f) ∧ PySem.W.keepIn K (.ref f) = true ∧ Binds K fd ps []
theorem Cal.mk' {P : Program} {w : World} {K : PySem.W.Frag} {mg : Str → Option Value} {base : Heap} {k : Nat} {x : Str} {ps : List Str} {sp : Sp} {f : Addr} {fd : FuncData} (F : FnOk P w K mg base CX0 k f fd ps sp) (m : mg x = some (.ref f)) (kp : PySem.W.keepIn K (.ref f) = true)
    (b : Binds K fd ps []) : Cal P w K mg base k x ps sp := ⟨f, fd, F, m, kp, b⟩
theorem Cal.mono {P : Program} {w : World} {K : PySem.W.Frag} {mg : Str → Option Value} {base : Heap} {j k : Nat} {x : Str} {ps : List Str} {sp : Sp} (C : Cal P w K mg base j x ps sp) (h : j ≤ k) : Cal P w K mg base k x ps sp := by
  obtain ⟨f, fd, F, m, kp, b⟩ := C.ex
  exact ⟨f, fd, F.mono h, m, kp, b⟩
def tCal (sp : Sp) (t : TA) : TE := fun σ H Q => t σ H fun vs H1 => sp vs H1 Q fun _ _ _ => False
theorem pe_cal {X : Cx} {x : Str} {e : Expr} {es : List Expr} {p pos : Pos} {k : Nat} {ps : List Str} {sp : Sp} {t : TA} (C : Cal X.prog X.w X.K X.mg X.base k x ps sp) (hr : Room k X.A) (ha : PA X (e :: es) t) (hg : Gl X x := by rfl)
    (hdb : (x == ("__debug__" : Str)) = false := by decide) (he : starEach (e :: es) X.env = (false, eval e X.env) :: starEach es X.env := by rfl) (hpl : (backTo pos (starEach es X.env)).any (·.1) = false := by rfl) :
    PE X (.Call (.Name x p) (e :: es) [] pos) (tCal sp t) := by
  obtain ⟨f, fd, F, m, kp, b⟩ := C.ex
  have r := pe_call (p := p) (pos := pos) (E := fun _ _ _ => False) F hr hg m kp b .nil pass0 ha hdb he hpl
  have q : (tCall sp [] (fun _ _ _ => False) t) = tCal sp t := by
    funext σ H Q
    show (t σ H fun vs H1 => sp (vs ++ []) H1 Q fun _ _ _ => False) = _
    simp only [List.append_nil]
    rfl
  rw [q] at r
  exact r
/-- which names of the top are the built-ins still -/
structure Bl (mg : Str → Option Value) : Prop where
  len : mg "len" = none
  list : mg "list" = none
  max : mg "max" = none
  min : mg "min" = none
  tuple : mg "tuple" = none
  range : mg "range" = none
/-! ### rows as data -/
inductive Rw where
  | put (b n : Int) | move (b c : Int) | add (b c d : Int) | take (b c d : Int) | times (b c d : Int) | get (b c : Int) | set (c d : Int) | say (c : Int) | rest | go (r : Int) | iff (c r : Int) | stop
def Rw.vals : Rw → List V
  | .put b n => [.str "put", .int b, .int n]
  | .move b c => [.str "move", .int b, .int c]
  | .add b c d => [.str "add", .int b, .int c, .int d]
  | .take b c d => [.str "take", .int b, .int c, .int d]
  | .times b c d => [.str "times", .int b, .int c, .int d]
  | .get b c => [.str "get", .int b, .int c]
  | .set c d => [.str "set", .int c, .int d]
  | .say c => [.str "say", .int c]
  | .rest => [.str "rest"]
  | .go r => [.str "go", .int r]
  | .iff c r => [.str "if", .int c, .int r]
  | .stop => [.str "stop"]
def Rw.isGo : Rw → Bool
  | .go _ => true
  | .iff _ _ => true
  | _ => false
def Rw.leaves : Rw → Bool
  | .go _ => true
  | .iff _ _ => true
  | .stop => true
  | _ => false
def Bx (b : Int) : Prop := 0 ≤ b ∧ b < 8
/-- a row of a program of so many rows -/
def Rw.ok (many : Int) : Rw → Prop
  | .put b n => Bx b ∧ 0 ≤ n ∧ n < 1000
  | .move b c => Bx b ∧ Bx c
  | .add b c d => Bx b ∧ Bx c ∧ Bx d
  | .take b c d => Bx b ∧ Bx c ∧ Bx d
  | .times b c d => Bx b ∧ Bx c ∧ Bx d
  | .get b c => Bx b ∧ Bx c
  | .set c d => Bx c ∧ Bx d
  | .say c => Bx c
  | .rest => True
  | .go r => 0 ≤ r ∧ r < many
  | .iff c r => Bx c ∧ 0 ≤ r ∧ r < many
  | .stop => True
/-- a row stands at the value -/
def RowAt (K : PySem.W.Frag) (H : Hp) (v : V) (r : Rw) : Prop := ∃ a, v = .ref a ∧ SqT K H a r.vals
/-- a tuple of rows stands at a -/
def ProgAt (K : PySem.W.Frag) (H : Hp) (a : Addr) (rs : List Rw) : Prop := ∃ vs : List V, SqT K H a vs ∧ vs.length = rs.length ∧ ∀ (i : Nat) (r : Rw), rs[i]? = some r → ∃ v, vs[i]? = some v ∧ RowAt K H v r
theorem same_tup {K : PySem.W.Frag} {a : Addr} {H H' : Hp} {xs : List V} (s : Same H H') (h : SqT K H a xs) : SqT K H' a xs := by
  rcases h with (h | ⟨o, h⟩) | h
  · exact .inl (.inl (s _ _ h))
  · exact .inl (.inr ⟨o, s _ _ h⟩)
  · exact .inr h
theorem keep_row {K : PySem.W.Frag} {p l : Addr} {H H' : Hp} {v : V} {r : Rw} (hh : HAt H p l) (s : Keep p l H H') (h : RowAt K H v r) : RowAt K H' v r := by
  obtain ⟨a, e, q⟩ := h
  exact ⟨a, e, keep_tup hh s q⟩
theorem keep_prog {K : PySem.W.Frag} {p l a : Addr} {H H' : Hp} {rs : List Rw} (hh : HAt H p l) (s : Keep p l H H') (h : ProgAt K H a rs) : ProgAt K H' a rs := by
  obtain ⟨vs, q, hl, g⟩ := h
  refine ⟨vs, keep_tup hh s q, hl, fun i r e => ?_⟩
  obtain ⟨v, e1, e2⟩ := g i r e
  exact ⟨v, e1, keep_row hh s e2⟩
theorem tup_of {K : PySem.W.Frag} {H : Hp} {a : Addr} {xs : List V} (h : H a = some (.tup xs)) : SqT K H a xs := .inl (.inl h)
theorem atI_in {xs : List V} {z : Int} (h0 : 0 ≤ z) (h1 : z < (xs.length : Int)) : ∃ v, xs[z.toNat]? = some v ∧ atI xs z = some v := by
  have hj : z.toNat < xs.length := by omega
  exact ⟨xs[z.toNat], List.getElem?_eq_getElem hj, at_of (j := z.toNat) (by omega) (List.getElem?_eq_getElem hj)⟩
/-! ### a list filled by drawing: D holds what is made so far -/
def Kp3 (p l D : Addr) (Ha Hb : Hp) : Prop := ∀ b o, Ha b = some o → b ≠ p → b ≠ l → b ≠ D → Hb b = some o
structure Acc (p l D : Addr) (H0 : Hp) (F : V → Hp → Prop) (i : Nat) (H : Hp) : Prop where
  ex : ∃ acc : List V, H D = some (.lst acc) ∧ acc.length = i ∧ ∀ v, v ∈ acc → F v H
  at_ : HAt H p l
  keep : Keep p l H0 H
def Fmono (p l D : Addr) (F : V → Hp → Prop) : Prop := ∀ v Ha Hb, HAt Ha p l → (∃ acc, Ha D = some (.lst acc)) → Kp3 p l D Ha Hb → F v Ha → F v Hb
theorem Acc.start {p l D : Addr} {H0 H : Hp} {F : V → Hp → Prop} (h : HAt H p l) (k : Keep p l H0 H) (hD : H D = none) : Acc p l D H0 F 0 (upd H D (.lst [])) :=
  ⟨⟨[], upd_same, rfl, fun v h => by cases h⟩, h.new hD, k.new hD⟩
theorem Acc.step {p l D : Addr} {H0 H H3 : Hp} {F : V → Hp → Prop} {i : Nat} {v : V} (A : Acc p l D H0 F i H) (m : Fmono p l D F) (np : D ≠ p) (nl : D ≠ l) (h0 : H0 D = none) (hi : i ≤ 500) (h3 : HAt H3 p l) (k3 : Keep p l H H3) (new : F v H3) :
    ∃ acc, H3 D = some (.lst acc) ∧ acc.length < sizeLine ∧ Acc p l D H0 F (i + 1) (upd H3 D (.lst (acc ++ [v]))) := by
  obtain ⟨⟨acc, e1, e2, e3⟩, h, k⟩ := A
  have e4 := k3 _ _ e1 np nl
  refine ⟨acc, e4, small1000 (by omega), ⟨acc ++ [v], upd_same, by rw [List.length_append, e2]; rfl, fun x hx => ?_⟩, h3.over np nl, (k.trans k3).over h0⟩
  have up : Kp3 p l D H3 (upd H3 D (.lst (acc ++ [v]))) := fun b o e _ _ n => by rw [upd_ne n]; exact e
  rcases List.mem_append.mp hx with hx | hx
  · exact m x H _ h ⟨acc, e1⟩ (fun b o e n1 n2 n3 => up b o (k3 b o e n1 n2) n1 n2 n3) (e3 x hx)
  · have ex : x = v := by simpa using hx
    subst ex
    exact m x H3 _ h3 ⟨acc, e4⟩ up new
theorem kp3_tup {K : PySem.W.Frag} {p l D a : Addr} {H H' : Hp} {xs : List V} (hh : HAt H p l) (hD : ∃ acc, H D = some (.lst acc)) (s : Kp3 p l D H H') (h : SqT K H a xs) : SqT K H' a xs := by
  obtain ⟨m, t, ns, h1, h2, _⟩ := hh
  obtain ⟨acc, h3⟩ := hD
  rcases h with (h | ⟨o, h⟩) | h
  · refine .inl (.inl (s _ _ h (fun e => ?_) (fun e => ?_) (fun e => ?_)))
    · rw [e, h1] at h; cases h
    · rw [e, h2] at h; cases h
    · rw [e, h3] at h; cases h
  · refine .inl (.inr ⟨o, s _ _ h (fun e => ?_) (fun e => ?_) (fun e => ?_)⟩)
    · rw [e, h1] at h; cases h
    · rw [e, h2] at h; cases h
    · rw [e, h3] at h; cases h
  · exact .inr h
theorem kp3_row {K : PySem.W.Frag} {p l D : Addr} {H H' : Hp} {v : V} {r : Rw} (hh : HAt H p l) (hD : ∃ acc, H D = some (.lst acc)) (s : Kp3 p l D H H') (h : RowAt K H v r) : RowAt K H' v r := by
  obtain ⟨a, e, q⟩ := h
  exact ⟨a, e, kp3_tup hh hD s q⟩
theorem ints_of {P : Int → Prop} : ∀ {acc : List V}, (∀ v, v ∈ acc → ∃ z, v = .int z ∧ P z) → ∃ ns : List Int, acc = ns.map V.int ∧ ∀ z, z ∈ ns → P z
  | [], _ => ⟨[], rfl, fun z h => by cases h⟩
  | v :: r, h => by
    obtain ⟨z, e, hz⟩ := h v (List.mem_cons_self ..)
    obtain ⟨ns, e2, h2⟩ := ints_of (acc := r) fun x hx => h x (List.mem_cons_of_mem _ hx)
    refine ⟨z :: ns, by rw [e, e2]; rfl, fun y hy => ?_⟩
    rcases List.mem_cons.mp hy with q | q
    · rw [q]; exact hz
    · exact h2 y q
theorem fmono_int {p l D : Addr} {P : Int → Prop} : Fmono p l D fun v _ => ∃ z, v = .int z ∧ P z := fun _ _ _ _ _ _ h => h
theorem if_t {b : Bool} {A B : Prop} (e : b = true) (h : A) : if b = true then A else B := by rw [e]; exact iteT h
theorem if_f {b : Bool} {A B : Prop} (e : b = false) (h : B) : if b = true then A else B := by rw [e]; exact iteF h
theorem merge3 (a b c : Str) (x y z : V) (j : Str) : valV (mergeK [] [(Sum.inr a, x), (Sum.inr b, y), (Sum.inr c, z)]) (Sum.inr j) = if j = c then some z else if j = b then some y else if j = a then some x else none := by
  show valV (putK (putK (putK [] (Sum.inr a) x) (Sum.inr b) y) (Sum.inr c) z) (Sum.inr j) = _
  rw [valV_put, valV_put, valV_put, valV_nil]
  simp only [Sum.inr.injEq]
theorem merge2 (a b : Str) (x y : V) (j : Str) : valV (mergeK [] [(Sum.inr a, x), (Sum.inr b, y)]) (Sum.inr j) = if j = b then some y else if j = a then some x else none := by
  show valV (putK (putK [] (Sum.inr a) x) (Sum.inr b) y) (Sum.inr j) = _
  rw [valV_put, valV_put, valV_nil]
  simp only [Sum.inr.injEq]
theorem at4 {α : Type} {a0 a1 a2 a3 : α} {z : Int} (h0 : 0 ≤ z) (h1 : z < 4) : ∃ v, (v = a0 ∨ v = a1 ∨ v = a2 ∨ v = a3) ∧ atI [a0, a1, a2, a3] z = some v := by
  have e : z = 0 ∨ z = 1 ∨ z = 2 ∨ z = 3 := by omega
  rcases e with rfl | rfl | rfl | rfl
  · exact ⟨a0, .inl rfl, rfl⟩
  · exact ⟨a1, .inr (.inl rfl), rfl⟩
  · exact ⟨a2, .inr (.inr (.inl rfl)), rfl⟩
  · exact ⟨a3, .inr (.inr (.inr rfl)), rfl⟩
theorem at3 {α : Type} {a0 a1 a2 : α} {z : Int} (h0 : 0 ≤ z) (h1 : z < 3) : ∃ v, (v = a0 ∨ v = a1 ∨ v = a2) ∧ atI [a0, a1, a2] z = some v := by
  have e : z = 0 ∨ z = 1 ∨ z = 2 := by omega
  rcases e with rfl | rfl | rfl
  · exact ⟨a0, .inl rfl, rfl⟩
  · exact ⟨a1, .inr (.inl rfl), rfl⟩
  · exact ⟨a2, .inr (.inr rfl), rfl⟩
theorem le8_of {x : Int} : 0 ≤ x % 8 ∧ x % 8 < 8 := ⟨Int.emod_nonneg _ (by decide), Int.emod_lt_of_pos _ (by decide)⟩
theorem at15 {α : Type} {a0 a1 a2 a3 a4 a5 a6 a7 a8 a9 aa ab ac ad ae : α} {z : Int} (h0 : 0 ≤ z) (h1 : z < 15) : ∃ v, v ∈ [a0, a1, a2, a3, a4, a5, a6, a7, a8, a9, aa, ab, ac, ad, ae] ∧ atI [a0, a1, a2, a3, a4, a5, a6, a7, a8, a9, aa, ab, ac, ad, ae] z = some v := by
  have hj : z.toNat < [a0, a1, a2, a3, a4, a5, a6, a7, a8, a9, aa, ab, ac, ad, ae].length := by
    show z.toNat < 15
    omega
  refine ⟨_, List.getElem_mem hj, ?_⟩
  have e : z = ((z.toNat : Nat) : Int) := by omega
  have q := atI_nat (List.getElem?_eq_getElem hj)
  rw [← e] at q
  exact q
end LB
namespace LB
open PySem L2
def top (i : Nat) : Stmt := PySem.Challenge.pw_lateboxes_k04_whole_looked_at_by_all_way.main.body.getD i (.Pass ⟨0, 0, 0, 0⟩)
abbrev s_BadProgram___init__ : Stmt := inClass (top 2) 0
abbrev s_BadText___init__ : Stmt := inClass (top 8) 0
abbrev sWhole : Stmt := top 19
abbrev sMost : Stmt := top 20
abbrev sRow : Stmt := top 21
abbrev s_first_flaw : Stmt := top 22
abbrev sChkP : Stmt := top 23
abbrev sChkM : Stmt := top 24
abbrev s_looked_at : Stmt := top 25
abbrev sMade : Stmt := top 26
abbrev sLate : Stmt := top 27
abbrev s_look : Stmt := top 31
abbrev s_met_next : Stmt := top 32
abbrev s_way_to : Stmt := top 33
abbrev s_broken : Stmt := top 34
abbrev s_jumps_badly : Stmt := top 35
abbrev s_places_behind : Stmt := top 36
abbrev s_place_behind : Stmt := top 37
abbrev s_waits_behind : Stmt := top 38
abbrev sMix : Stmt := top 40
abbrev sNext : Stmt := top 41
abbrev sAlike : Stmt := top 42
abbrev sMill : Stmt := top 43
abbrev sNumber : Stmt := top 44
abbrev sBoxes : Stmt := top 45
abbrev sDeed : Stmt := top 46
abbrev sJump : Stmt := top 47
abbrev sPlain : Stmt := top 48
abbrev sLLate : Stmt := top 49
abbrev s__law_looks : Stmt := top 50
abbrev s__law_broken : Stmt := top 51
abbrev s__law_onward : Stmt := top 52
abbrev s__law_look : Stmt := top 53
abbrev s__law_rested : Stmt := top 54
abbrev s__law_kind : Stmt := top 55
abbrev s__law_just : Stmt := top 56
abbrev sLaw : Stmt := top 57
end LB
namespace LB
open PySem L2
section
variable {P : Program} {w : World} {K : PySem.W.Frag} {mg : Str → Option Value} {base : Heap}
def spMix (K : PySem.W.Frag) : Sp := fun vs H Q _ => ∃ (a : Addr) (ns : List Int) (z : Int), vs = [.ref a, .int z] ∧ SqL K H a (ns.map V.int) ∧ ns.length ≤ 63 ∧ 0 ≤ z ∧ z < 1000 ∧
  ∀ p l H', Same H H' → H p = none → H l = none → HAt H' p l → Q (.ref p) H'
theorem scMix : FnScope ["_law_script", "_law_seed", "_law_mixed", "_law_cell"] ["_law_script", "_law_seed"] (defScope sMix) := ⟨rfl, rfl, rfl, by decide +kernel, rfl, by decide +kernel, by decide +kernel⟩
theorem ok_mix {f : Addr} {fd : FuncData} (F : Fun K "_law_mix" "_law_mix" sMix f fd) (mL : mg "list" = none) : FnOk P w K mg base CX0 1 f fd ["_law_script", "_law_seed"] (spMix K) := by
  refine F.ok scMix (fun vs H Q E h => ?_) (fun cdv A outer s H vs Q E hr h => ?_)
  · obtain ⟨a, ns, z, rfl, _⟩ := h
    rfl
  · obtain ⟨a, ns, z, rfl, hS, hlen, hz0, hz1, k⟩ := h
    refine ⟨_, pss_cons (ps_set (i := 2) scMix.nd rfl (Or.inl rfl) (pv 1))
      (pss_cons (ps_for PassesOwn.never rfl (pi_list (pv 0)) (pg_name (i := 3) scMix.nd rfl (Or.inl rfl))
        (pss_one (ps_set (i := 2) scMix.nd rfl (Or.inl rfl) (pe_op op_mod (pe_op op_add (pe_op op_add (pe_op op_mul (pv 2) pe_int) (pe_op op_mod (pv 3) pe_int)) pe_int) pe_int))))
      (pss_one (ps_ret (pe_lst (pa_cons (pv 2) (pa_cons (pe_callTy call_list_of (by rfl) mL (by decide +kernel) (pa_cons (pv 0) pa_nil)) (pa_cons pe_int pa_nil))))))), ?_⟩
    refine ⟨_, rfl, _, rfl, a, rfl, ⟨_, hS⟩, for_list (K := K) (a := a) (xs := ns.map V.int) (fun i σ H' => ∃ (m : Int) (v : Option V), σ = [some (.ref a), some (.int z), some (.int m), v] ∧ H' = H ∧ 0 ≤ m ∧ m < 2147483647)
      ⟨z, none, rfl, rfl, hz0, by omega⟩ (fun i σ H' _ ⟨_, _, _, e, _⟩ => by rw [e]; exact hS) ?_ ?_⟩
    · rintro i y σ H' hi ⟨m, v, rfl, rfl, h0, h1⟩
      obtain ⟨u, _, rfl⟩ := map_get hi
      refine ⟨_, rfl, _, _, rfl, rfl, .inl ⟨by omega, by omega⟩, _, rfl, _, _, rfl, rfl, (by show (0 : Int) < 2147483629; decide), _, _, rfl, rfl, _, _, rfl, rfl, _, _, rfl, rfl, (by show (0 : Int) < 2147483647; decide), ?_⟩
      exact ⟨_, _, rfl, rfl, Int.emod_nonneg _ (by decide), Int.emod_lt_of_pos _ (by decide)⟩
    · rintro σ H' ⟨m, v, rfl, rfl, h0, h1⟩
      refine ⟨_, rfl, _, rfl, a, _, rfl, .inl hS, fun l hl => ?_⟩
      refine ⟨by show 3 ≤ sizeLine; decide, fun p hp => ?_⟩
      have npl : p ≠ l := (ne_of_none upd_same hp).symm
      have hp0 : H' p = none := by rw [upd_ne npl] at hp; exact hp
      exact k p l _ ((same_new hl _).trans (same_new hp _)) hp0 hl ⟨m, 0, ns, upd_same, by rw [upd_ne npl.symm, upd_same], h0, h1, hlen⟩
def spNext : Sp := fun vs H Q _ => ∃ (p l : Addr) (many : Int), vs = [.ref p, .int many] ∧ HAt H p l ∧ 0 < many ∧ many ≤ 100000 ∧
  ∀ k H', 0 ≤ k → k < many → HAt H' p l → Keep p l H H' → Q (.int k) H'
theorem scNext : FnScope ["_law_h", "_law_many", "_law_at", "_law_cell"] ["_law_h", "_law_many"] (defScope sNext) := ⟨rfl, rfl, rfl, by decide +kernel, rfl, by decide +kernel, by decide +kernel⟩
theorem ok_next {f : Addr} {fd : FuncData} (F : Fun K "_law_next" "_law_next" sNext f fd) (mM : mg "max" = none) (mL : mg "len" = none) : FnOk P w K mg base CX0 1 f fd ["_law_h", "_law_many"] spNext := by
  refine F.ok scNext (fun vs H Q E h => ?_) (fun cdv A outer s H vs Q E hr h => ?_)
  · obtain ⟨p, l, many, rfl, _⟩ := h
    rfl
  · obtain ⟨p, l, many, rfl, hH, hm0, hm1, k⟩ := h
    obtain ⟨m, t, ns, h1, h2, h3, h4, h5⟩ := id hH
    have npl := hH.ne
    refine ⟨_, pss_cons (ps_set (i := 2) scNext.nd rfl (Or.inl rfl) (pe_op op_modN (pe_ix ix_list (pv 0) pe_int (fun _ _ => rfl)) (pe_callB (call_max2 rfl) (by rfl) mM (by decide +kernel) (pa_cons pe_int (pa_cons (pe_callB call_len_seq (by rfl) mL PySem.boot_len (pa_cons (pe_ix ix_list (pv 0) pe_int (fun _ _ => rfl)) pa_nil)) pa_nil)))))
      (pss_cons (ps_set (i := 3) scNext.nd rfl (Or.inl rfl) (pe_ifExp (pt_cmpR (op_neD hr.units) (pe_ix ix_list (pv 0) pe_int (fun _ _ => rfl)) (pe_lst pa_nil) (nomark _)) (pe_ix ix_list (pe_ix ix_list (pv 0) pe_int (fun _ _ => rfl)) (pv 2) (fun _ _ => rfl)) pe_int))
      (pss_cons (ps_if (pt_cmpR op_ge (pv 3) (pe_op op_pow pe_int pe_int) (nomark _))
        (pss_cons (ps_asg (pe_op op_fdivN (pv 3) (pv 1)) (pg_sub (pe_ix ix_list (pv 0) pe_int (fun _ _ => rfl)) (pv 2) set_list))
        (pss_one (ps_ret (pe_op op_modN (pv 3) (pv 1))))) pss_nil)
      (pss_cons (ps_asg (pe_op op_mod (pe_op op_add (pe_op op_add (pe_op op_mul (pe_ix ix_list (pv 0) pe_int (fun _ _ => rfl)) pe_int) (pe_op op_mul (pv 3) pe_int)) pe_int) pe_int) (pg_sub (pv 0) pe_int set_list))
      (pss_cons (ps_asg (pe_op op_add (pe_ix ix_list (pv 0) pe_int (fun _ _ => rfl)) pe_int) (pg_sub (pv 0) pe_int set_list))
      (pss_one (ps_ret (pe_op op_modN (pe_op op_fdiv (pe_ix ix_list (pv 0) pe_int (fun _ _ => rfl)) pe_int) (pv 1)))))))), ?_⟩
    have i0 : atI [V.int m, V.ref l, V.int t] 0 = some (V.int m) := rfl
    have i1 : atI [V.int m, V.ref l, V.int t] 1 = some (V.ref l) := rfl
    have i2 : atI [V.int m, V.ref l, V.int t] 2 = some (V.int t) := rfl
    -- _law_at
    have hlen : (if (((ns.map V.int).length : Nat) : Int) > 1 then (((ns.map V.int).length : Nat) : Int) else 1) > 0 := by split <;> omega
    generalize hg : (if (((ns.map V.int).length : Nat) : Int) > 1 then (((ns.map V.int).length : Nat) : Int) else 1) = g at hlen
    refine ⟨_, rfl, p, _, _, _, rfl, rfl, SqL.of h1, i2, _, rfl, p, _, _, _, rfl, rfl, SqL.of h1, i1, l, _, rfl, .inl (SqL.of h2), _, _, rfl, ?_⟩
    rw [hg]
    refine ⟨_, _, rfl, rfl, by omega, ?_⟩
    have q0 : 0 ≤ t.fmod g := by rw [Int.fmod_eq_emod_of_nonneg _ (by omega)]; exact Int.emod_nonneg _ (by omega)
    have q1 : t.fmod g < g := by rw [Int.fmod_eq_emod_of_nonneg _ (by omega)]; exact Int.emod_lt_of_pos _ (by omega)
    -- _law_cell
    refine ⟨_, rfl, p, _, _, _, rfl, rfl, SqL.of h1, i1, by show 0 ≤ sizeLine; decide, fun n hn => ?_⟩
    have sn := same_new hn (.lst [])
    have h1' := sn _ _ h1
    have h2' := sn _ _ h2
    have kn : Keep p l H (upd H n (.lst [])) := .of_same sn
    refine ⟨_, _, Dp.ints (SqL.of h2'), Dp.ints (ns := []) (SqL.of upd_same), shaped_ints ns, shaped_ints [], _, rfl, ?_⟩
    refine if_cut (fun v H' => H' = upd H n (.lst []) ∧ ∃ c : Int, v = .int c ∧ (c ≥ 10 ^ 18 → (t.fmod g).toNat < ns.length)) (fun e Q' k' => ?_) (fun e Q' k' => ?_) ?_
    · rw [eqv_lists] at e
      have e' : ns ≠ [] := by simpa using e
      have hl : 0 < ns.length := List.length_pos_iff.mpr e'
      have hj : (t.fmod g).toNat < ns.length := by
        rw [List.length_map] at hg
        split at hg <;> omega
      refine ⟨_, rfl, p, _, _, _, rfl, rfl, SqL.of h1', i1, _, rfl, l, _, _, _, rfl, rfl, SqL.of h2', at_of (j := (t.fmod g).toNat) (v := V.int ns[(t.fmod g).toNat]) (by omega) (by rw [List.getElem?_map, List.getElem?_eq_getElem hj]; rfl), ?_⟩
      exact k' _ _ ⟨rfl, _, rfl, fun _ => hj⟩
    · exact k' _ _ ⟨rfl, 0, rfl, fun h => absurd h (by decide)⟩
    rintro v _ ⟨rfl, c, rfl, hc⟩
    -- if _law_cell >= 10 ** 18
    refine ⟨_, rfl, _, _, rfl, rfl, ⟨by decide, by decide, by decide⟩, _, _, rfl, rfl, _, rfl, if_both (fun e => ?_) (fun e => ?_)⟩
    · have hj := hc (of_decide_eq_true e)
      refine ⟨_, rfl, _, rfl, _, _, rfl, rfl, ⟨by omega, by omega⟩, _, rfl, p, _, _, _, rfl, rfl, SqL.of h1', i1, _, rfl, l, _, _, (t.fmod g).toNat, rfl, rfl, h2', ?_, ?_⟩
      · unfold ixN
        rw [List.length_map, if_pos q0, if_pos (by omega)]
      · refine ⟨_, rfl, _, rfl, _, _, rfl, rfl, by omega, ?_⟩
        refine k _ _ (by rw [Int.fmod_eq_emod_of_nonneg _ (by omega)]; exact Int.emod_nonneg _ (by omega)) (by rw [Int.fmod_eq_emod_of_nonneg _ (by omega)]; exact Int.emod_lt_of_pos _ (by omega)) ⟨m, t, _, by rw [upd_ne npl]; exact h1', by rw [upd_same, set_ints], h3, h4, by rw [List.length_set]; exact h5⟩ ?_
        exact fun b o e1 n1 n2 => by rw [upd_ne n2]; exact sn _ _ e1
    · refine ⟨_, rfl, p, _, _, _, rfl, rfl, SqL.of h1', i0, _, _, rfl, rfl, .inr ⟨by decide, by decide⟩, _, rfl, _, _, rfl, rfl, .inr ⟨by decide, by decide⟩, _, _, rfl, rfl, _, _, rfl, rfl, _, _, rfl, rfl, (by show (0 : Int) < 2147483647; decide), _, rfl, p, _, _, 0, rfl, rfl, h1', rfl, ?_⟩
      have b0 : 0 ≤ (m * 48271 + c * 69621 + 11) % 2147483647 := by exact Int.emod_nonneg _ (by decide)
      have b1 : (m * 48271 + c * 69621 + 11) % 2147483647 < 2147483647 := by exact Int.emod_lt_of_pos _ (by decide)
      refine ⟨_, rfl, p, _, _, _, rfl, rfl, SqL.of upd_same, (rfl : atI [V.int ((m * 48271 + c * 69621 + 11) % 2147483647), V.ref l, V.int t] 2 = some (V.int t)), _, _, rfl, rfl, _, rfl, p, _, _, 2, rfl, rfl, upd_same, rfl, ?_⟩
      refine ⟨_, rfl, p, _, _, _, rfl, rfl, SqL.of upd_same, (rfl : atI [V.int ((m * 48271 + c * 69621 + 11) % 2147483647), V.ref l, V.int (t + 1)] 0 = some (V.int ((m * 48271 + c * 69621 + 11) % 2147483647))), _, _, rfl, rfl, ⟨by decide, by decide⟩, _, rfl, _, _, rfl, rfl, by omega, ?_⟩
      refine k _ _ (by rw [Int.fmod_eq_emod_of_nonneg _ (by omega)]; exact Int.emod_nonneg _ (by omega)) (by rw [Int.fmod_eq_emod_of_nonneg _ (by omega)]; exact Int.emod_lt_of_pos _ (by omega)) ⟨_, t + 1, ns, upd_same, by rw [upd_ne npl.symm, upd_ne npl.symm]; exact h2', b0, b1, h5⟩ ?_
      exact fun b o e1 n1 n2 => by rw [upd_ne n1, upd_ne n1]; exact sn _ _ e1
end
end LB
namespace LB
open PySem L2
section
variable {P : Program} {w : World} {K : PySem.W.Frag} {mg : Str → Option Value} {base : Heap}
abbrev psN : List Str := ["_law_h", "_law_many"]
/-- a number drawn -/
def spNumber : Sp := fun vs H Q _ => ∃ (p l : Addr), vs = [.ref p] ∧ HAt H p l ∧ ∀ k H', 0 ≤ k → k < 1000 → HAt H' p l → Keep p l H H' → Q (.int k) H'
theorem scNumber : FnScope ["_law_h"] ["_law_h"] (defScope sNumber) := ⟨rfl, rfl, rfl, by decide +kernel, rfl, by decide +kernel, by decide +kernel⟩
theorem ok_number {f : Addr} {fd : FuncData} (F : Fun K "_law_number" "_law_number" sNumber f fd) (N : Cal P w K mg base 1 "_law_next" psN spNext) : FnOk P w K mg base CX0 2 f fd ["_law_h"] spNumber := by
  refine F.ok scNumber (fun vs H Q E h => ?_) (fun cdv A outer s H vs Q E hr h => ?_)
  · obtain ⟨p, l, rfl, _⟩ := h
    rfl
  · obtain ⟨p, l, rfl, hH, k⟩ := h
    refine ⟨_, pss_one (ps_ret (pe_ix ix_list (pe_lst (pa_cons (pe_cal N hr (pa_cons (pv 0) (pa_cons pe_int pa_nil))) (pa_cons (pe_cal N hr (pa_cons (pv 0) (pa_cons pe_int pa_nil))) pa_nil))) (pe_cal N hr (pa_cons (pv 0) (pa_cons pe_int pa_nil))) (fun _ _ => rfl))), ?_⟩
    refine ⟨_, rfl, p, l, 4, rfl, hH, by decide, by decide, fun a H1 a0 a1 h1 k1 => ?_⟩
    refine ⟨_, rfl, p, l, 1000, rfl, h1, by decide, by decide, fun b H2 b0 b1 h2 k2 => ?_⟩
    refine ⟨by show 2 ≤ sizeLine; decide, fun d hd => ?_⟩
    refine ⟨_, rfl, p, l, 2, rfl, h2.new hd, by decide, by decide, fun c H3 c0 c1 h3 k3 => ?_⟩
    have hd3 : H3 d = some (.lst [.int a, .int b]) := k3 _ _ upd_same (fun e => by obtain ⟨m, t, ns, q, _⟩ := h2; rw [e, q] at hd; cases hd) (fun e => by obtain ⟨m, t, ns, _, q, _⟩ := h2; rw [e, q] at hd; cases hd)
    have kk : Keep p l H H3 := (k1.trans k2).trans ((Keep.of_same (same_new hd _)).trans k3)
    by_cases e : c = 0
    · subst e
      exact ⟨d, _, _, .int a, rfl, rfl, SqL.of hd3, rfl, k a H3 a0 (by omega) h3 kk⟩
    · have e : c = 1 := by omega
      subst e
      exact ⟨d, _, _, .int b, rfl, rfl, SqL.of hd3, rfl, k b H3 b0 b1 h3 kk⟩
/-- a mill drawn -/
def MillAt (K : PySem.W.Frag) (H : Hp) (a : Addr) (ms : List Int) : Prop := SqT K H a (ms.map V.int)
def MillOk (ms : List Int) : Prop := ∃ p g t j : Int, ms = [p, g, t, j] ∧ (0 ≤ p ∧ p ≤ 2) ∧ (0 ≤ g ∧ g ≤ 4) ∧ (0 ≤ t ∧ t ≤ 4) ∧ (0 ≤ j ∧ j ≤ 3)
def spMill (K : PySem.W.Frag) : Sp := fun vs H Q _ => ∃ (p l : Addr), vs = [.ref p] ∧ HAt H p l ∧ ∀ a ms H', MillAt K H' a ms → MillOk ms → HAt H' p l → Keep p l H H' → Q (.ref a) H'
theorem scMill : FnScope ["_law_h", "_law_turn", "_law_most"] ["_law_h"] (defScope sMill) := ⟨rfl, rfl, rfl, by decide +kernel, rfl, by decide +kernel, by decide +kernel⟩
theorem ok_mill {f : Addr} {fd : FuncData} (F : Fun K "_law_mill" "_law_mill" sMill f fd) (N : Cal P w K mg base 1 "_law_next" psN spNext) (B : Bl mg) : FnOk P w K mg base CX0 2 f fd ["_law_h"] (spMill K) := by
  refine F.ok scMill (fun vs H Q E h => ?_) (fun cdv A outer s H vs Q E hr h => ?_)
  · obtain ⟨p, l, rfl, _⟩ := h
    rfl
  · obtain ⟨p, l, rfl, hH, k⟩ := h
    refine ⟨_, pss_cons (ps_set (i := 1) scMill.nd rfl (Or.inl rfl) (pe_cal N hr (pa_cons (pv 0) (pa_cons pe_int pa_nil))))
      (pss_cons (ps_if (pt_cmpR op_lt (pv 1) pe_int (nomark _)) (pss_one (ps_ret (pe_ix ix_list (pe_lst (pa_cons (pe_tup (pa_cons pe_int (pa_cons pe_int (pa_cons pe_int (pa_cons pe_int pa_nil))))) (pa_cons (pe_tup (pa_cons pe_int (pa_cons pe_int (pa_cons pe_int (pa_cons pe_int pa_nil))))) pa_nil))) (pv 1) (fun _ _ => rfl)))) pss_nil)
      (pss_one (ps_ret (pe_callTy call_tuple_of (by rfl) B.tuple (by decide +kernel) (pa_cons
        (pe_lc (own := [("_law_most", 2)]) (g := gName 2) (by rfl) scMill.nd (pi_tup (pe_tup (pa_cons pe_int (pa_cons pe_int (pa_cons pe_int (pa_cons pe_int pa_nil)))))) (blkOk_by (own := [("_law_most", 2)]) (N := ["_law_h", "_law_turn", "_law_most"]) (sc := defScope sMill) (by decide +kernel))
          (fun _ _ _ _ _ => pg_name (i := 2) scMill.nd rfl (Or.inl rfl)) (fun _ _ _ _ _ => pts_nil) (fun _ _ _ _ _ => pe_cal N hr (pa_cons (pv 0) (pa_cons (pe_op op_add (pv 2) pe_int) pa_nil)))) pa_nil))))), ?_⟩
    refine ⟨_, rfl, p, l, 9, rfl, hH, by decide, by decide, fun c H1 c0 c1 h1 k1 => ?_⟩
    refine ⟨_, rfl, _, _, rfl, rfl, _, rfl, if_both (fun e => ?_) (fun e => ?_)⟩
    · have e' : c < 2 := of_decide_eq_true e
      refine ⟨by show 4 ≤ sizeLine; decide, fun a ha => ⟨by show 4 ≤ sizeLine; decide, fun b hb => ⟨by show 2 ≤ sizeLine; decide, fun d hd => ?_⟩⟩⟩
      have h2 := ((h1.new (o := .tup [.int 0, .int 0, .int 0, .int 0]) ha).new (o := .tup [.int 2, .int 4, .int 4, .int 3]) hb).new (o := .lst [.ref a, .ref b]) hd
      have k2 := ((k1.new (o := .tup [.int 0, .int 0, .int 0, .int 0]) ha).new (o := .tup [.int 2, .int 4, .int 4, .int 3]) hb).new (o := .lst [.ref a, .ref b]) hd
      have ab : a ≠ b := ne_of_none upd_same hb
      have bd : b ≠ d := ne_of_none upd_same hd
      have ad : a ≠ d := ne_of_none (by rw [upd_ne ab, upd_same]) hd
      have ec : c = 0 ∨ c = 1 := by omega
      rcases ec with rfl | rfl
      · refine ⟨_, rfl, d, _, _, .ref a, rfl, rfl, SqL.of upd_same, rfl, k a [0, 0, 0, 0] _ (tup_of (by rw [upd_ne ad, upd_ne ab, upd_same]; rfl)) ⟨0, 0, 0, 0, rfl, by omega, by omega, by omega, by omega⟩ h2 k2⟩
      · refine ⟨_, rfl, d, _, _, .ref b, rfl, rfl, SqL.of upd_same, rfl, k b [2, 4, 4, 3] _ (tup_of (by rw [upd_ne bd, upd_same]; rfl)) ⟨2, 4, 4, 3, rfl, by omega, by omega, by omega, by omega⟩ h2 k2⟩
    · refine ⟨by show 4 ≤ sizeLine; decide, fun a ha => ⟨a, rfl, ⟨_, tup_of upd_same⟩, fun D hD => ?_⟩⟩
      have k2 := k1.new (o := .tup [.int 2, .int 4, .int 4, .int 3]) ha
      have hD1 : H1 D = none := by rw [upd_ne (ne_of_none upd_same hD).symm] at hD; exact hD
      have hD0 : H D = none := k1.free h1 hD1
      have aD : a ≠ D := ne_of_none upd_same hD
      have hp : D ≠ p := (h1.new ha).nep hD
      have hl : D ≠ l := (h1.new ha).nel hD
      refine lc_tup (K := K) (xs := [.int 2, .int 4, .int 4, .int 3]) (fun i H' => ∃ acc : List Int, H' D = some (.lst (acc.map V.int)) ∧ acc.length = i ∧ (∀ (j : Nat) (z m : Int), acc[j]? = some z → [(2 : Int), 4, 4, 3][j]? = some m → 0 ≤ z ∧ z ≤ m) ∧ HAt H' p l ∧ Keep p l H H' ∧ H' a = some (.tup [.int 2, .int 4, .int 4, .int 3]))
        ⟨[], upd_same, rfl, fun j z m e => by simp at e, (h1.new ha).over hp hl, k2.over hD0, by rw [upd_ne aD, upd_same]⟩ (fun i H' _ ⟨_, _, _, _, _, _, q⟩ => tup_of q) ?_ ?_
      · rintro i x H' hx ⟨acc, e1, e2, e3, e4, e5, e6⟩
        obtain ⟨m, hm, rfl, m0, m1⟩ : ∃ m : Int, [(2 : Int), 4, 4, 3][i]? = some m ∧ x = .int m ∧ 0 ≤ m ∧ m < 10 := by
          match i, hx with
          | 0, hx => exact ⟨2, rfl, (Option.some.inj hx).symm, by omega, by omega⟩
          | 1, hx => exact ⟨4, rfl, (Option.some.inj hx).symm, by omega, by omega⟩
          | 2, hx => exact ⟨4, rfl, (Option.some.inj hx).symm, by omega, by omega⟩
          | 3, hx => exact ⟨3, rfl, (Option.some.inj hx).symm, by omega, by omega⟩
        refine ⟨rfl, yes_if ?_⟩
        refine ⟨_, rfl, _, rfl, _, _, rfl, rfl, p, l, m + 1, rfl, e4, by omega, by omega, fun z H3 z0 z1 h3 k3 => ?_⟩
        refine ⟨acc.map V.int, k3 _ _ e1 hp hl, small1000 (by rw [List.length_map]; have := (List.getElem?_eq_some_iff.mp hm).1; simp at this; omega), acc ++ [z], ?_, by rw [List.length_append, e2]; rfl, ?_, h3.over hp hl, (e5.trans k3).over hD0, ?_⟩
        · rw [upd_same, List.map_append]; rfl
        · intro j y m' ey em
          by_cases hj : j < acc.length
          · rw [List.getElem?_append_left hj] at ey
            exact e3 j y m' ey em
          · have hj2 : j = i := by
              have := (List.getElem?_eq_some_iff.mp ey).1
              rw [List.length_append, List.length_singleton] at this
              omega
            subst hj2
            rw [← e2, List.getElem?_concat_length] at ey
            have e8 := Option.some.inj ey
            have e9 := Option.some.inj (em.symm.trans hm)
            omega
        · rw [upd_ne aD]; exact k3 _ _ e6 (h1.nep ha) (h1.nel ha)
      · rintro H' ⟨acc, e1, e2, e3, e4, e5, e6⟩
        refine ⟨D, _, rfl, .inl ⟨SqL.of e1, fun T hT => ?_⟩⟩
        match acc, e2, e3 with
        | [x0, x1, x2, x3], _, e3 =>
          refine k T [x0, x1, x2, x3] _ (tup_of upd_same) ⟨x0, x1, x2, x3, rfl, e3 0 _ _ rfl rfl, e3 1 _ _ rfl rfl, e3 2 _ _ rfl rfl, e3 3 _ _ rfl rfl⟩ (e4.new hT) (e5.new hT)
end
end LB
namespace LB
open PySem L2
section
variable {P : Program} {w : World} {K : PySem.W.Frag} {mg : Str → Option Value} {base : Heap}
/-- which boxes rows use -/
def BxAt (K : PySem.W.Frag) (H : Hp) (e : Addr) : Prop := ∃ c n : Int, SqT K H e [.int c, .int n] ∧ 0 ≤ c ∧ c < 8 ∧ 1 ≤ n ∧ n ≤ 8
def spBoxes (K : PySem.W.Frag) : Sp := fun vs H Q _ => ∃ (p l : Addr), vs = [.ref p] ∧ HAt H p l ∧ ∀ e H', BxAt K H' e → HAt H' p l → Keep p l H H' → Q (.ref e) H'
theorem scBoxes : FnScope ["_law_h"] ["_law_h"] (defScope sBoxes) := ⟨rfl, rfl, rfl, by decide +kernel, rfl, by decide +kernel, by decide +kernel⟩
theorem ok_boxes {f : Addr} {fd : FuncData} (F : Fun K "_law_boxes" "_law_boxes" sBoxes f fd) (N : Cal P w K mg base 1 "_law_next" psN spNext) : FnOk P w K mg base CX0 2 f fd ["_law_h"] (spBoxes K) := by
  refine F.ok scBoxes (fun vs H Q E h => ?_) (fun cdv A outer s H vs Q E hr h => ?_)
  · obtain ⟨p, l, rfl, _⟩ := h
    rfl
  · obtain ⟨p, l, rfl, hH, k⟩ := h
    refine ⟨_, pss_one (ps_ret (pe_tup (pa_cons (pe_cal N hr (pa_cons (pv 0) (pa_cons pe_int pa_nil))) (pa_cons (pe_ix ix_list (pe_lst (pa_cons pe_int (pa_cons pe_int (pa_cons pe_int pa_nil)))) (pe_cal N hr (pa_cons (pv 0) (pa_cons pe_int pa_nil))) (fun _ _ => rfl)) pa_nil)))), ?_⟩
    refine ⟨_, rfl, p, l, 8, rfl, hH, by decide, by decide, fun a H1 a0 a1 h1 k1 => ?_⟩
    refine ⟨by show 3 ≤ sizeLine; decide, fun d hd => ?_⟩
    refine ⟨_, rfl, p, l, 3, rfl, h1.new hd, by decide, by decide, fun c H3 c0 c1 h3 k3 => ?_⟩
    have hd3 : H3 d = some (.lst [.int 2, .int 3, .int 8]) := k3 _ _ upd_same (h1.nep hd) (h1.nel hd)
    have kk : Keep p l H H3 := (k1.new hd).trans k3
    obtain ⟨n, hn, n0, n1⟩ : ∃ n : Int, atI [V.int 2, V.int 3, V.int 8] c = some (.int n) ∧ 1 ≤ n ∧ n ≤ 8 := by
      have ec : c = 0 ∨ c = 1 ∨ c = 2 := by omega
      rcases ec with rfl | rfl | rfl
      · exact ⟨2, rfl, by decide, by decide⟩
      · exact ⟨3, rfl, by decide, by decide⟩
      · exact ⟨8, rfl, by decide, by decide⟩
    refine ⟨d, _, _, _, rfl, rfl, SqL.of hd3, hn, by show 2 ≤ sizeLine; decide, fun t ht => ?_⟩
    exact k t _ ⟨a, n, tup_of upd_same, a0, a1, n0, n1⟩ (h3.new ht) (kk.new ht)
/-- a row that goes nowhere -/
def spDeed (K : PySem.W.Frag) : Sp := fun vs H Q _ => ∃ (p l e : Addr), vs = [.ref p, .ref e] ∧ HAt H p l ∧ BxAt K H e ∧ ∀ v r H', RowAt K H' v r → (∀ many, r.ok many) → r.leaves = false → HAt H' p l → Keep p l H H' → Q v H'
abbrev psD : List Str := ["_law_h", "_law_e"]
abbrev nsDeed : List Str := ["_law_h", "_law_e", "_law_words", "_law_word", "_law_b", "_law_c", "_law_d", "_law_k"]
theorem scDeed : FnScope nsDeed psD (defScope sDeed) := ⟨rfl, rfl, rfl, by decide +kernel, rfl, by decide +kernel, by decide +kernel⟩
abbrev deedWords : List V := [.str "put", .str "put", .str "move", .str "add", .str "add", .str "take", .str "times", .str "times", .str "get", .str "get", .str "set", .str "set", .str "say", .str "say"]
theorem ok_deed {f : Addr} {fd : FuncData} (F : Fun K "_law_deed" "_law_deed" sDeed f fd) (N : Cal P w K mg base 1 "_law_next" psN spNext) (M : Cal P w K mg base 2 "_law_number" ["_law_h"] spNumber) (B : Bl mg) : FnOk P w K mg base CX0 3 f fd psD (spDeed K) := by
  refine F.ok scDeed (fun vs H Q E h => ?_) (fun cdv A outer s H vs Q E hr h => ?_)
  · obtain ⟨p, l, e, rfl, _⟩ := h
    rfl
  · obtain ⟨p, l, e, rfl, hH, hE, k⟩ := h
    have hr1 : Room 1 _ := hr.mono (by decide)
    refine ⟨_, pss_cons (ps_set (i := 2) scDeed.nd rfl (Or.inl rfl) (pe_lst (pa_cons pe_str (pa_cons pe_str (pa_cons pe_str (pa_cons pe_str (pa_cons pe_str (pa_cons pe_str (pa_cons pe_str (pa_cons pe_str (pa_cons pe_str (pa_cons pe_str (pa_cons pe_str (pa_cons pe_str (pa_cons pe_str (pa_cons pe_str pa_nil))))))))))))))))
      (pss_cons (ps_set (i := 3) scDeed.nd rfl (Or.inl rfl) (pe_ix ix_list (pe_op op_cat (pv 2) (pe_lst (pa_cons pe_str pa_nil))) (pe_cal N hr1 (pa_cons (pv 0) (pa_cons pe_int pa_nil))) (fun _ _ => rfl)))
      (pss_cons (ps_asg (pe_lc (own := [("_law_k", 7)]) (g := gName 7) (by rfl) scDeed.nd (pi_range1 (by rfl) B.range (pa_cons pe_int pa_nil)) (blkOk_by (own := [("_law_k", 7)]) (N := nsDeed) (sc := defScope sDeed) (by decide +kernel))
          (fun _ _ _ _ _ => pg_name (i := 7) scDeed.nd rfl (Or.inl rfl)) (fun _ _ _ _ _ => pts_nil) (fun _ _ _ _ _ => pe_op op_mod (pe_op op_add (pe_ix (show IxR _ (rIxT K) from ix_tup) (pv 1) pe_int (fun _ _ => rfl)) (pe_cal N hr1 (pa_cons (pv 0) (pa_cons (pe_ix (show IxR _ (rIxT K) from ix_tup) (pv 1) pe_int (fun _ _ => rfl)) pa_nil)))) pe_int))
          (pg_unl (by rfl) (pgs_cons (pg_name (i := 4) scDeed.nd rfl (Or.inl rfl)) (pgs_cons (pg_name (i := 5) scDeed.nd rfl (Or.inl rfl)) (pgs_cons (pg_name (i := 6) scDeed.nd rfl (Or.inl rfl)) pgs_nil)))))
      (pss_cons (ps_if (pt_cmpR op_in_seq (pv 3) (pe_tup (pa_cons pe_str (pa_cons pe_str (pa_cons pe_str pa_nil)))) (by rfl)) (pss_one (ps_ret (pe_tup (pa_cons (pv 3) (pa_cons (pv 4) (pa_cons (pv 5) (pa_cons (pv 6) pa_nil))))))) pss_nil)
      (pss_one (ps_ret (pe_dget2 (hu_of hr) (pe_disp (pps_cons pe_str (pe_tup (pa_cons (pv 3) (pa_cons (pv 4) (pa_cons (pe_cal M hr (pa_cons (pv 0) pa_nil)) pa_nil)))) (pps_cons pe_str (pe_tup (pa_cons (pv 3) (pa_cons (pv 5) pa_nil))) (pps_cons pe_str (pe_tup (pa_cons (pv 3) pa_nil)) pps_nil))) (by rfl) (by rfl) (fun z => by cases z) (by decide))
          (pv 3) (pe_tup (pa_cons (pv 3) (pa_cons (pv 4) (pa_cons (pv 5) pa_nil)))) ⟨by rfl, by rfl, by rfl, by rfl⟩)))))), ?_⟩
    refine ⟨by show 14 ≤ sizeLine; decide, fun wl hwl => ?_⟩
    have h1 := hH.new (o := .lst deedWords) hwl
    have k1 := (Keep.refl p l H).new (o := .lst deedWords) hwl
    refine ⟨_, rfl, by show 1 ≤ sizeLine; decide, fun rl hrl => ?_⟩
    have h2 := h1.new (o := .lst [.str "rest"]) hrl
    have k2 := k1.new (o := .lst [.str "rest"]) hrl
    have nwr : wl ≠ rl := ne_of_none upd_same hrl
    refine ⟨wl, rl, deedWords, [.str "rest"], rfl, rfl, by rw [upd_ne nwr, upd_same], upd_same, by show 15 ≤ sizeLine; decide, fun cl hcl => ?_⟩
    have h3 := h2.new (o := .lst (deedWords ++ [.str "rest"])) hcl
    have k3 := k2.new (o := .lst (deedWords ++ [.str "rest"])) hcl
    refine ⟨_, rfl, p, l, 15, rfl, h3, by decide, by decide, fun wi H4 w0 w1 h4 k4 => ?_⟩
    have kk4 := k3.trans k4
    have hc4 : H4 cl = some (.lst (deedWords ++ [.str "rest"])) := k4 _ _ upd_same (h2.nep hcl) (h2.nel hcl)
    obtain ⟨wv, hwv, hat⟩ := at15 (a0 := V.str "put") (a1 := V.str "put") (a2 := V.str "move") (a3 := V.str "add") (a4 := V.str "add") (a5 := V.str "take") (a6 := V.str "times") (a7 := V.str "times") (a8 := V.str "get") (a9 := V.str "get") (aa := V.str "set") (ab := V.str "set") (ac := V.str "say") (ad := V.str "say") (ae := V.str "rest") w0 w1
    refine ⟨cl, _, _, wv, rfl, rfl, SqL.of hc4, hat, ?_⟩
    have hE4 : BxAt K H4 e := by
      obtain ⟨c, n, q, h⟩ := hE
      exact ⟨c, n, keep_tup hH kk4 q, h⟩
    -- _law_b, _law_c, _law_d
    refine ⟨3, rfl, by decide, by decide, fun D hD => ?_⟩
    have np := h4.nep hD
    have nl := h4.nel hD
    have hD0 : H D = none := kk4.free h4 hD
    refine lc_range (lo := 0) (n := 3) (fun i H' => Acc p l D H (fun v _ => ∃ z, v = .int z ∧ Bx z) i H') (Acc.start h4 kk4 hD) ?_ ?_
    · intro i H' hi A
      obtain ⟨c, n, q, c0, c1, n0, n1⟩ := hE
      have q' := keep_tup hH A.keep q
      refine ⟨rfl, yes_if ?_⟩
      refine ⟨_, rfl, e, _, _, _, rfl, rfl, q', (rfl : atI [V.int c, V.int n] 0 = some (V.int c)), ?_⟩
      refine ⟨_, rfl, _, rfl, e, _, _, _, rfl, rfl, q', (rfl : atI [V.int c, V.int n] 1 = some (V.int n)), p, l, n, rfl, A.at_, by omega, by omega, fun z H5 z0 z1 h5 k5 => ?_⟩
      refine ⟨_, _, rfl, rfl, _, _, rfl, rfl, (by show (0 : Int) < 8; decide), ?_⟩
      exact A.step fmono_int np nl hD0 (by omega) h5 k5 ⟨_, rfl, le8_of⟩
    intro H5 A
    obtain ⟨acc, e1, e2, e3⟩ := A.ex
    obtain ⟨ns, rfl, e4⟩ := ints_of e3
    have h5 := A.at_
    have k5 := A.keep
    match ns, e2, e4 with
    | [b, c, d], _, e4 =>
    have hb : Bx b := e4 b (by simp)
    have hc : Bx c := e4 c (by simp)
    have hd : Bx d := e4 d (by simp)
    refine ⟨D, _, rfl, SqL.of e1, rfl, ?_⟩
    refine ⟨.int b, [.int c, .int d], rfl, .int c, [.int d], rfl, .int d, [], rfl, rfl, ?_⟩
    have ret : ∀ (t : Addr) (r : Rw) (H6 : Hp), Keep p l H5 H6 → HAt H6 p l → H6 t = none → (∀ many, r.ok many) → r.leaves = false → Q (.ref t) (upd H6 t (.tup r.vals)) := fun t r H6 k6 h6 ht hr hlv => k (.ref t) r _ ⟨t, rfl, tup_of upd_same⟩ hr hlv (h6.new ht) ((k5.trans k6).new ht)
    have hw : (wv = .str "add" ∨ wv = .str "take" ∨ wv = .str "times") ∨ ∃ u : Str, wv = .str u ∧ (u = "put" ∨ u = "say" ∨ u = "rest" ∨ u = "move" ∨ u = "get" ∨ u = "set") := by
      simp only [List.mem_cons, List.not_mem_nil, or_false] at hwv
      rcases hwv with h | h | h | h | h | h | h | h | h | h | h | h | h | h | h
      · exact .inr ⟨_, h, .inl rfl⟩
      · exact .inr ⟨_, h, .inl rfl⟩
      · exact .inr ⟨_, h, .inr (.inr (.inr (.inl rfl)))⟩
      · exact .inl (.inl h)
      · exact .inl (.inl h)
      · exact .inl (.inr (.inl h))
      · exact .inl (.inr (.inr h))
      · exact .inl (.inr (.inr h))
      · exact .inr ⟨_, h, .inr (.inr (.inr (.inr (.inl rfl))))⟩
      · exact .inr ⟨_, h, .inr (.inr (.inr (.inr (.inl rfl))))⟩
      · exact .inr ⟨_, h, .inr (.inr (.inr (.inr (.inr rfl))))⟩
      · exact .inr ⟨_, h, .inr (.inr (.inr (.inr (.inr rfl))))⟩
      · exact .inr ⟨_, h, .inr (.inl rfl)⟩
      · exact .inr ⟨_, h, .inr (.inl rfl)⟩
      · exact .inr ⟨_, h, .inr (.inr (.inl rfl))⟩
    rcases hw with (rfl | rfl | rfl) | ⟨u, rfl, hu⟩
    · refine ⟨_, rfl, by show 3 ≤ sizeLine; decide, fun T hT => ⟨T, _, rfl, .inr (tup_of upd_same), rfl, rfl, _, rfl, if_t (by decide +kernel) ?_⟩⟩
      refine ⟨_, rfl, _, rfl, _, rfl, _, rfl, by show 4 ≤ sizeLine; decide, fun t ht => ?_⟩
      exact ret t (.add b c d) _ ((Keep.refl _ _ _).new hT) (h5.new hT) ht (fun _ => ⟨hb, hc, hd⟩) rfl
    · refine ⟨_, rfl, by show 3 ≤ sizeLine; decide, fun T hT => ⟨T, _, rfl, .inr (tup_of upd_same), rfl, rfl, _, rfl, if_t (by decide +kernel) ?_⟩⟩
      refine ⟨_, rfl, _, rfl, _, rfl, _, rfl, by show 4 ≤ sizeLine; decide, fun t ht => ?_⟩
      exact ret t (.take b c d) _ ((Keep.refl _ _ _).new hT) (h5.new hT) ht (fun _ => ⟨hb, hc, hd⟩) rfl
    · refine ⟨_, rfl, by show 3 ≤ sizeLine; decide, fun T hT => ⟨T, _, rfl, .inr (tup_of upd_same), rfl, rfl, _, rfl, if_t (by decide +kernel) ?_⟩⟩
      refine ⟨_, rfl, _, rfl, _, rfl, _, rfl, by show 4 ≤ sizeLine; decide, fun t ht => ?_⟩
      exact ret t (.times b c d) _ ((Keep.refl _ _ _).new hT) (h5.new hT) ht (fun _ => ⟨hb, hc, hd⟩) rfl
    · have nu : inV (.str u) [.str "add", .str "take", .str "times"] = false := by rcases hu with rfl | rfl | rfl | rfl | rfl | rfl <;> decide +kernel
      refine ⟨_, rfl, by show 3 ≤ sizeLine; decide, fun T hT => ⟨T, _, rfl, .inr (tup_of upd_same), rfl, rfl, _, rfl, if_f nu ?_⟩⟩
      have h6 := h5.new (o := .tup [.str "add", .str "take", .str "times"]) hT
      have k6 := (Keep.refl p l H5).new (o := .tup [.str "add", .str "take", .str "times"]) hT
      intro dd hdd
      have nd1 := h6.nep hdd
      have nd2 := h6.nel hdd
      refine ⟨_, rfl, _, rfl, _, rfl, p, l, rfl, h6.new hdd, fun n H8 n0 n1 h8 k8 => ⟨by show 3 ≤ sizeLine; decide, fun t1 ht1 => ⟨_, rfl, _, rfl, by show 2 ≤ sizeLine; decide, fun t2 ht2 => ⟨_, rfl, by show 1 ≤ sizeLine; decide, fun t3 ht3 => ?_⟩⟩⟩⟩
      have d8 : H8 dd = some (.dK []) := k8 _ _ upd_same nd1 nd2
      have d1 : dd ≠ t1 := ne_of_none d8 ht1
      have d8' : (upd H8 t1 (.tup [.str u, .int b, .int n])) dd = some (.dK []) := by rw [upd_ne d1]; exact d8
      have d2 : dd ≠ t2 := ne_of_none d8' ht2
      have d8'' : (upd (upd H8 t1 (.tup [.str u, .int b, .int n])) t2 (.tup [.str u, .int c])) dd = some (.dK []) := by rw [upd_ne d2]; exact d8'
      have d3 : dd ≠ t3 := ne_of_none d8'' ht3
      have h9 := ((h8.new (o := .tup [.str u, .int b, .int n]) ht1).new (o := .tup [.str u, .int c]) ht2).new (o := .tup [.str u]) ht3
      have k9 : Keep p l H5 _ := ((((k6.new (o := .dK []) hdd).trans k8).new (o := .tup [.str u, .int b, .int n]) ht1).new (o := .tup [.str u, .int c]) ht2).new (o := .tup [.str u]) ht3
      have nt12 : t1 ≠ t2 := ne_of_none upd_same ht2
      have nt23 : t2 ≠ t3 := ne_of_none upd_same ht3
      have nt13 : t1 ≠ t3 := ne_of_none (by rw [upd_ne nt12, upd_same]) ht3
      have hd5 : H5 dd = none := by
        have q := hdd
        rw [upd_ne (ne_of_none upd_same hdd).symm] at q
        exact q
      refine ⟨by rw [upd_ne d3]; exact d8'', [(Sum.inr "put", .ref t1), (Sum.inr "say", .ref t2), (Sum.inr "rest", .ref t3)], rfl, by show 3 ≤ 15; decide, ?_⟩
      refine ⟨dd, rfl, .inl ⟨_, .inl upd_same⟩, _, rfl, _, rfl, _, rfl, _, rfl, by show 3 ≤ sizeLine; decide, fun t4 ht4 => ?_⟩
      have nd4 : dd ≠ t4 := ne_of_none upd_same ht4
      refine ⟨_, DGet.k (k := Sum.inr u) (by rw [upd_ne nd4, upd_same]), ?_⟩
      rw [merge3]
      have fin : ∀ (t : Addr) (r : Rw), upd (upd (upd (upd (upd H8 t1 (.tup [.str u, .int b, .int n])) t2 (.tup [.str u, .int c])) t3 (.tup [.str u])) dd (.dK (mergeK [] [(Sum.inr "put", .ref t1), (Sum.inr "say", .ref t2), (Sum.inr "rest", .ref t3)]))) t4 (.tup [.str u, .int b, .int c]) t = some (.tup r.vals) → (∀ many, r.ok many) → r.leaves = false → _ := fun t r e ho hlv =>
        k (.ref t) r _ ⟨t, rfl, tup_of e⟩ ho hlv ((h9.over (o := .dK (mergeK [] [(Sum.inr "put", .ref t1), (Sum.inr "say", .ref t2), (Sum.inr "rest", .ref t3)])) nd1 nd2).new ht4) ((k5.trans (k9.over hd5)).new ht4)
      have f1 : upd (upd (upd (upd H8 t1 (.tup [.str u, .int b, .int n])) t2 (.tup [.str u, .int c])) t3 (.tup [.str u])) dd (.dK (mergeK [] [(Sum.inr "put", .ref t1), (Sum.inr "say", .ref t2), (Sum.inr "rest", .ref t3)])) t1 = some (.tup [.str u, .int b, .int n]) := by
        rw [upd_ne d1.symm, upd_ne nt13, upd_ne nt12, upd_same]
      have f2 : upd (upd (upd (upd H8 t1 (.tup [.str u, .int b, .int n])) t2 (.tup [.str u, .int c])) t3 (.tup [.str u])) dd (.dK (mergeK [] [(Sum.inr "put", .ref t1), (Sum.inr "say", .ref t2), (Sum.inr "rest", .ref t3)])) t2 = some (.tup [.str u, .int c]) := by
        rw [upd_ne d2.symm, upd_ne nt23, upd_same]
      have f3 : upd (upd (upd (upd H8 t1 (.tup [.str u, .int b, .int n])) t2 (.tup [.str u, .int c])) t3 (.tup [.str u])) dd (.dK (mergeK [] [(Sum.inr "put", .ref t1), (Sum.inr "say", .ref t2), (Sum.inr "rest", .ref t3)])) t3 = some (.tup [.str u]) := by
        rw [upd_ne d3.symm, upd_same]
      rcases hu with rfl | rfl | rfl | rfl | rfl | rfl
      · rw [if_neg (by decide +kernel), if_neg (by decide +kernel), if_pos rfl]
        exact fin t1 (.put b n) (by rw [upd_ne (ne_of_none f1 ht4)]; exact f1) (fun _ => ⟨hb, n0, n1⟩) rfl
      · rw [if_neg (by decide +kernel), if_pos rfl]
        exact fin t2 (.say c) (by rw [upd_ne (ne_of_none f2 ht4)]; exact f2) (fun _ => hc) rfl
      · rw [if_pos rfl]
        exact fin t3 .rest (by rw [upd_ne (ne_of_none f3 ht4)]; exact f3) (fun _ => trivial) rfl
      · rw [if_neg (by decide +kernel), if_neg (by decide +kernel), if_neg (by decide +kernel)]
        exact fin t4 (.move b c) upd_same (fun _ => ⟨hb, hc⟩) rfl
      · rw [if_neg (by decide +kernel), if_neg (by decide +kernel), if_neg (by decide +kernel)]
        exact fin t4 (.get b c) upd_same (fun _ => ⟨hb, hc⟩) rfl
      · rw [if_neg (by decide +kernel), if_neg (by decide +kernel), if_neg (by decide +kernel)]
        exact fin t4 (.set b c) upd_same (fun _ => ⟨hb, hc⟩) rfl
end
end LB
namespace LB
open PySem L2
section
variable {P : Program} {w : World} {K : PySem.W.Frag} {mg : Str → Option Value} {base : Heap}
/-- a row that goes, or stops -/
def spJump (K : PySem.W.Frag) : Sp := fun vs H Q _ => ∃ (p l e : Addr) (at_ rows : Int), vs = [.ref p, .ref e, .int at_, .int rows] ∧ HAt H p l ∧ BxAt K H e ∧ 0 ≤ at_ ∧ at_ < rows ∧ rows ≤ 1000 ∧ ∀ v r H', RowAt K H' v r → r.ok rows → HAt H' p l → Keep p l H H' → Q v H'
abbrev psJ : List Str := ["_law_h", "_law_e", "_law_at", "_law_rows"]
theorem scJump : FnScope ["_law_h", "_law_e", "_law_at", "_law_rows", "_law_goal", "_law_box"] psJ (defScope sJump) := ⟨rfl, rfl, rfl, by decide +kernel, rfl, by decide +kernel, by decide +kernel⟩
theorem ok_jump {f : Addr} {fd : FuncData} (F : Fun K "_law_jump" "_law_jump" sJump f fd) (N : Cal P w K mg base 1 "_law_next" psN spNext) (B : Bl mg) : FnOk P w K mg base CX0 2 f fd psJ (spJump K) := by
  refine F.ok scJump (fun vs H Q E h => ?_) (fun cdv A outer s H vs Q E hr h => ?_)
  · obtain ⟨p, l, e, a, r, rfl, _⟩ := h
    rfl
  · obtain ⟨p, l, e, a, rows, rfl, hH, hE, a0, a1, r1, k⟩ := h
    refine ⟨_, pss_cons (ps_set (i := 4) scJump.nd rfl (Or.inl rfl) (pe_callB (call_min2 rfl) (by rfl) B.min (by decide +kernel) (pa_cons (pe_op op_sub (pv 3) pe_int) (pa_cons (pe_op op_add (pe_op op_add (pv 2) pe_int) (pe_cal N hr (pa_cons (pv 0) (pa_cons (pe_op op_sub (pv 3) (pv 2)) pa_nil)))) pa_nil))))
      (pss_cons (ps_if (pt_cmpR op_eq (pe_cal N hr (pa_cons (pv 0) (pa_cons pe_int pa_nil))) pe_int (nomark _)) (pss_one (ps_set (i := 4) scJump.nd rfl (Or.inl rfl) (pe_cal N hr (pa_cons (pv 0) (pa_cons (pv 3) pa_nil))))) pss_nil)
      (pss_cons (ps_set (i := 5) scJump.nd rfl (Or.inl rfl) (pe_op op_mod (pe_op op_add (pe_ix ix_tup (pv 1) pe_int (fun _ _ => rfl)) (pe_cal N hr (pa_cons (pv 0) (pa_cons (pe_ix ix_tup (pv 1) pe_int (fun _ _ => rfl)) pa_nil)))) pe_int))
      (pss_one (ps_ret (pe_ix ix_list (pe_lst (pa_cons (pe_tup (pa_cons pe_str (pa_cons (pv 4) pa_nil))) (pa_cons (pe_tup (pa_cons pe_str (pa_cons (pv 5) (pa_cons (pv 4) pa_nil)))) (pa_cons (pe_tup (pa_cons pe_str (pa_cons (pv 5) (pa_cons (pv 4) pa_nil)))) (pa_cons (pe_tup (pa_cons pe_str pa_nil)) pa_nil)))))
          (pe_cal N hr (pa_cons (pv 0) (pa_cons pe_int pa_nil))) (fun _ _ => rfl)))))), ?_⟩
    refine ⟨_, rfl, _, _, rfl, rfl, _, rfl, _, _, rfl, rfl, _, rfl, _, rfl, _, rfl, _, _, rfl, rfl, p, l, rows - a, rfl, hH, by omega, by omega, fun n H1 n0 n1 h1 k1 => ?_⟩
    refine ⟨_, _, rfl, rfl, _, _, rfl, ?_⟩
    refine ⟨_, rfl, p, l, 4, rfl, h1, by decide, by decide, fun m H2 m0 m1 h2 k2 => ⟨rfl, _, rfl, ?_⟩⟩
    have kk2 := k1.trans k2
    refine ifs_cut (fun σ' H' => ∃ g : Int, σ' = [some (.ref p), some (.ref e), some (.int a), some (.int rows), some (.int g), none] ∧ 0 ≤ g ∧ g < rows ∧ HAt H' p l ∧ Keep p l H H') (fun _ D' _ k' => ?_) (fun _ D' _ k' => ?_) ?_
    · refine ⟨_, rfl, _, rfl, p, l, rows, rfl, h2, by omega, by omega, fun g H3 g0 g1 h3 k3 => ?_⟩
      exact k' _ _ ⟨g, rfl, g0, g1, h3, kk2.trans k3⟩
    · refine k' _ _ ⟨_, rfl, ?_, ?_, h2, kk2⟩
      · show (0 : Int) ≤ if a + 1 + n < rows - 1 then a + 1 + n else rows - 1
        split <;> omega
      · show (if a + 1 + n < rows - 1 then a + 1 + n else rows - 1) < rows
        split <;> omega
    rintro σ' H3 ⟨g, rfl, g0, g1, h3, k3⟩
    obtain ⟨c, bn, q, c0, c1, b0, b1⟩ := hE
    have q3 := keep_tup hH k3 q
    refine ⟨_, rfl, e, _, _, _, rfl, rfl, q3, (rfl : atI [V.int c, V.int bn] 0 = some (V.int c)), ?_⟩
    refine ⟨_, rfl, _, rfl, e, _, _, _, rfl, rfl, q3, (rfl : atI [V.int c, V.int bn] 1 = some (V.int bn)), p, l, bn, rfl, h3, by omega, by omega, fun z H4 z0 z1 h4 k4 => ?_⟩
    refine ⟨_, _, rfl, rfl, _, _, rfl, rfl, (by show (0 : Int) < 8; decide), ?_⟩
    have hx : Bx ((c + z) % 8) := le8_of
    refine ⟨_, rfl, by show 2 ≤ sizeLine; decide, fun t1 ht1 => ⟨_, rfl, _, rfl, by show 3 ≤ sizeLine; decide, fun t2 ht2 => ⟨_, rfl, _, rfl, by show 3 ≤ sizeLine; decide, fun t3 ht3 => ⟨by show 1 ≤ sizeLine; decide, fun t4 ht4 => ⟨by show 4 ≤ sizeLine; decide, fun d hd => ?_⟩⟩⟩⟩⟩
    have hh := ((((h4.new (o := .tup (Rw.go g).vals) ht1).new (o := .tup (Rw.iff ((c + z) % 8) g).vals) ht2).new (o := .tup (Rw.iff ((c + z) % 8) g).vals) ht3).new (o := .tup Rw.stop.vals) ht4).new (o := .lst [.ref t1, .ref t2, .ref t3, .ref t4]) hd
    have hk := (((((k3.trans k4).new (o := .tup (Rw.go g).vals) ht1).new (o := .tup (Rw.iff ((c + z) % 8) g).vals) ht2).new (o := .tup (Rw.iff ((c + z) % 8) g).vals) ht3).new (o := .tup Rw.stop.vals) ht4).new (o := .lst [.ref t1, .ref t2, .ref t3, .ref t4]) hd
    refine ⟨_, rfl, p, l, 4, rfl, hh, by decide, by decide, fun y H5 y0 y1 h5 k5 => ?_⟩
    have s1 := same_new ht2 (.tup (Rw.iff ((c + z) % 8) g).vals)
    have s2 := s1.trans (same_new ht3 (.tup (Rw.iff ((c + z) % 8) g).vals))
    have s3 := s2.trans (same_new ht4 (.tup Rw.stop.vals))
    have s4 := s3.trans (same_new hd (.lst [.ref t1, .ref t2, .ref t3, .ref t4]))
    have p1 := ((h4.new (o := .tup (Rw.go g).vals) ht1).new (o := .tup (Rw.iff ((c + z) % 8) g).vals) ht2)
    have p2 := p1.new (o := .tup (Rw.iff ((c + z) % 8) g).vals) ht3
    have p3 := p2.new (o := .tup Rw.stop.vals) ht4
    have e1 := k5 t1 _ (s4 _ _ upd_same) (h4.nep ht1) (h4.nel ht1)
    have e2 := k5 t2 _ (((same_new ht3 (.tup (Rw.iff ((c + z) % 8) g).vals)).trans ((same_new ht4 (.tup Rw.stop.vals)).trans (same_new hd (.lst [.ref t1, .ref t2, .ref t3, .ref t4])))) _ _ upd_same) ((h4.new ht1).nep ht2) ((h4.new ht1).nel ht2)
    have e3 := k5 t3 _ (((same_new ht4 (.tup Rw.stop.vals)).trans (same_new hd (.lst [.ref t1, .ref t2, .ref t3, .ref t4]))) _ _ upd_same) (p1.nep ht3) (p1.nel ht3)
    have e4 := k5 t4 _ ((same_new hd (.lst [.ref t1, .ref t2, .ref t3, .ref t4])) _ _ upd_same) (p2.nep ht4) (p2.nel ht4)
    have ed := k5 d _ upd_same (p3.nep hd) (p3.nel hd)
    obtain ⟨v, hv, hat⟩ := at4 (a0 := V.ref t1) (a1 := V.ref t2) (a2 := V.ref t3) (a3 := V.ref t4) y0 y1
    refine ⟨d, _, _, v, rfl, rfl, SqL.of ed, hat, ?_⟩
    rcases hv with rfl | rfl | rfl | rfl
    · exact k _ (.go g) H5 ⟨t1, rfl, tup_of e1⟩ ⟨g0, g1⟩ h5 (hk.trans k5)
    · exact k _ (.iff _ g) H5 ⟨t2, rfl, tup_of e2⟩ ⟨hx, g0, g1⟩ h5 (hk.trans k5)
    · exact k _ (.iff _ g) H5 ⟨t3, rfl, tup_of e3⟩ ⟨hx, g0, g1⟩ h5 (hk.trans k5)
    · exact k _ .stop H5 ⟨t4, rfl, tup_of e4⟩ trivial h5 (hk.trans k5)
/-- a program -/
def spPlain (K : PySem.W.Frag) : Sp := fun vs H Q _ => ∃ (p l : Addr) (most : Int), vs = [.ref p, .int most] ∧ HAt H p l ∧ 0 < most ∧ most ≤ 200 ∧ ∀ (a : Addr) (rs : List Rw) (H' : Hp), ProgAt K H' a rs → 1 ≤ rs.length → rs.length ≤ 200 → (∀ r, r ∈ rs → r.ok rs.length) → HAt H' p l → Keep p l H H' → Q (.ref a) H'
abbrev nsPlain : List Str := ["_law_h", "_law_most", "_law_e", "_law_rows", "_law_often", "_law_at"]
theorem scPlain : FnScope nsPlain ["_law_h", "_law_most"] (defScope sPlain) := ⟨rfl, rfl, rfl, by decide +kernel, rfl, by decide +kernel, by decide +kernel⟩
theorem rows_of {K : PySem.W.Frag} {H : Hp} {F : Rw → Prop} : ∀ {acc : List V}, (∀ v, v ∈ acc → ∃ r, RowAt K H v r ∧ F r) → ∃ rs : List Rw, acc.length = rs.length ∧ (∀ (i : Nat) (r : Rw), rs[i]? = some r → ∃ v, acc[i]? = some v ∧ RowAt K H v r) ∧ ∀ r, r ∈ rs → F r
  | [], _ => ⟨[], rfl, fun i r h => by simp at h, fun r h => by cases h⟩
  | v :: t, h => by
    obtain ⟨r, hr, hf⟩ := h v (List.mem_cons_self ..)
    obtain ⟨rs, e1, e2, e3⟩ := rows_of (acc := t) fun x hx => h x (List.mem_cons_of_mem _ hx)
    refine ⟨r :: rs, by simp [e1], fun i q hq => ?_, fun q hq => ?_⟩
    · cases i with
      | zero => exact ⟨v, rfl, by rw [← Option.some.inj hq]; exact hr⟩
      | succ i => exact e2 i q hq
    · rcases List.mem_cons.mp hq with z | z
      · rw [z]; exact hf
      · exact e3 q z
theorem fmono_row {p l D : Addr} {F : Rw → Prop} : Fmono p l D fun v H => ∃ r, RowAt K H v r ∧ F r := fun v Ha Hb hh hD s ⟨r, q, f⟩ => ⟨r, kp3_row hh hD s q, f⟩
theorem ok_plain {f : Addr} {fd : FuncData} (F : Fun K "_law_plain" "_law_plain" sPlain f fd) (N : Cal P w K mg base 1 "_law_next" psN spNext) (X : Cal P w K mg base 2 "_law_boxes" ["_law_h"] (spBoxes K)) (D : Cal P w K mg base 3 "_law_deed" psD (spDeed K)) (J : Cal P w K mg base 2 "_law_jump" psJ (spJump K)) (B : Bl mg) : FnOk P w K mg base CX0 4 f fd ["_law_h", "_law_most"] (spPlain K) := by
  refine F.ok scPlain (fun vs H Q E h => ?_) (fun cdv A outer s H vs Q E hr h => ?_)
  · obtain ⟨p, l, m, rfl, _⟩ := h
    rfl
  · obtain ⟨p, l, most, rfl, hH, m0, m1, k⟩ := h
    have hr1 : Room 1 _ := hr.mono (by decide)
    have hr2 : Room 2 _ := hr.mono (by decide)
    refine ⟨_, pss_cons (ps_set (i := 2) scPlain.nd rfl (Or.inr rfl) (pe_cal X hr2 (pa_cons (pv 0) pa_nil)))
      (pss_cons (ps_set (i := 3) scPlain.nd rfl (Or.inr rfl) (pe_op op_add pe_int (pe_cal N hr1 (pa_cons (pv 0) (pa_cons (pv 1) pa_nil)))))
      (pss_cons (ps_set (i := 4) scPlain.nd rfl (Or.inr rfl) (pe_ix ix_list (pe_lst (pa_cons pe_int (pa_cons pe_int (pa_cons pe_int pa_nil)))) (pe_cal N hr1 (pa_cons (pv 0) (pa_cons pe_int pa_nil))) (fun _ _ => rfl)))
      (pss_one (ps_ret (pe_callTy call_tuple_of (by rfl) B.tuple (by decide +kernel) (pa_cons
        (pe_lc (own := [("_law_at", 5)]) (g := gName 5) (by rfl) scPlain.nd (pi_range1 (by rfl) B.range (pa_cons (pv 3) pa_nil)) (blkOk_by (own := [("_law_at", 5)]) (N := nsPlain) (sc := defScope sPlain) (by decide +kernel))
          (fun _ _ _ _ _ => pg_name (i := 5) scPlain.nd rfl (Or.inl rfl)) (fun _ _ _ _ _ => pts_nil)
          (fun _ _ _ _ _ => pe_ifExp (pt_cmpR op_eq (pe_cal N hr1 (pa_cons (pv 0) (pa_cons (pv 4) pa_nil))) pe_int (nomark _)) (pe_cal J hr2 (pa_cons (pv 0) (pa_cons (pv 2) (pa_cons (pv 5) (pa_cons (pv 3) pa_nil))))) (pe_cal D hr (pa_cons (pv 0) (pa_cons (pv 2) pa_nil))))) pa_nil)))))), ?_⟩
    refine ⟨_, rfl, p, l, rfl, hH, fun e H1 hE h1 k1 => ?_⟩
    refine ⟨_, rfl, _, rfl, p, l, most, rfl, h1, m0, by omega, fun n H2 n0 n1 h2 k2 => ⟨_, _, rfl, rfl, ?_⟩⟩
    refine ⟨by show 3 ≤ sizeLine; decide, fun d hd => ⟨_, rfl, p, l, 3, rfl, h2.new hd, by decide, by decide, fun c H3 c0 c1 h3 k3 => ?_⟩⟩
    have hd3 : H3 d = some (.lst [.int 3, .int 5, .int 12]) := k3 _ _ upd_same (h2.nep hd) (h2.nel hd)
    obtain ⟨v, hv, hat⟩ := at3 (a0 := V.int 3) (a1 := V.int 5) (a2 := V.int 12) c0 c1
    obtain ⟨o, rfl, o0, o1⟩ : ∃ o : Int, v = .int o ∧ 0 < o ∧ o < 100 := by
      rcases hv with rfl | rfl | rfl
      · exact ⟨3, rfl, by decide, by decide⟩
      · exact ⟨5, rfl, by decide, by decide⟩
      · exact ⟨12, rfl, by decide, by decide⟩
    refine ⟨d, _, _, _, rfl, rfl, SqL.of hd3, hat, ?_⟩
    have kE : Keep p l H1 H3 := (k2.new hd).trans k3
    have kk : Keep p l H H3 := k1.trans kE
    refine ⟨_, rfl, 1 + n, rfl, by omega, by omega, fun C hC => ?_⟩
    have np := h3.nep hC
    have nl := h3.nel hC
    have hC0 : H C = none := kk.free h3 hC
    have hC1 : H1 C = none := kE.free h3 hC
    refine lc_range (lo := 0) (n := (1 + n).toNat) (fun i H' => Acc p l C H (fun v H' => ∃ r, RowAt K H' v r ∧ r.ok (1 + n)) i H' ∧ Keep p l H1 H') ⟨Acc.start h3 kk hC, kE.new hC⟩ ?_ ?_
    · rintro i H' hi ⟨A, kA⟩
      refine ⟨rfl, yes_if ?_⟩
      refine ⟨_, rfl, _, rfl, p, l, o, rfl, A.at_, by omega, by omega, fun z H4 z0 z1 h4 k4 => ⟨rfl, _, rfl, ?_⟩⟩
      have hE4 : BxAt K H4 e := by
        obtain ⟨c, n, q, h⟩ := hE
        exact ⟨c, n, keep_tup h1 (kA.trans k4) q, h⟩
      refine if_both (fun _ => ?_) (fun _ => ?_)
      · refine ⟨_, rfl, _, rfl, _, rfl, _, rfl, p, l, e, _, 1 + n, rfl, h4, hE4, by omega, by omega, by omega, fun v r H5 hv hr h5 k5 => ?_⟩
        obtain ⟨acc, a1, a2, a3⟩ := A.step fmono_row np nl hC0 (by omega) h5 (k4.trans k5) ⟨r, hv, hr⟩
        exact ⟨acc, a1, a2, a3, (kA.trans (k4.trans k5)).over hC1⟩
      · refine ⟨_, rfl, _, rfl, p, l, e, rfl, h4, hE4, fun v r H5 hv hr _ h5 k5 => ?_⟩
        obtain ⟨acc, a1, a2, a3⟩ := A.step fmono_row np nl hC0 (by omega) h5 (k4.trans k5) ⟨r, hv, hr _⟩
        exact ⟨acc, a1, a2, a3, (kA.trans (k4.trans k5)).over hC1⟩
    · rintro H' ⟨A, _⟩
      obtain ⟨acc, e1, e2, e3⟩ := A.ex
      obtain ⟨rs, f1, f2, f3⟩ := rows_of e3
      refine ⟨C, _, rfl, .inl ⟨SqL.of e1, fun T hT => ?_⟩⟩
      have el : (rs.length : Int) = 1 + n := by omega
      refine k T rs _ ⟨acc, tup_of upd_same, f1, fun i r hi => ?_⟩ (by omega) (by omega) (fun r hm => by rw [el]; exact f3 r hm) (A.at_.new hT) (A.keep.new hT)
      obtain ⟨v, g1, a, g2, g3⟩ := f2 i r hi
      exact ⟨v, g1, a, g2, same_tup (same_new hT _) g3⟩
end
end LB
/-! enumerate(a tuple), zip(a text, a tuple): what is walked, and that a loop may walk it. Own text, over the library's draws. -/
namespace LB
open PySem PySem.Spec PyProof.Rows L2
/-- the tuple at a, each item with its number in a new pair -/
def ItET (K : PySem.W.Frag) (a : Addr) : It where
  go i H := ∃ (xs : List V) (x : V), SqT K H a xs ∧ xs[i]? = some x
  yld i H v H' := ∃ (T : Addr) (x : V), v = .ref T ∧ H T = none ∧ H' = upd H T (.tup [.int (i : Nat), x]) ∧ ∀ xs, SqT K H a xs → xs[i]? = some x
  stop i H := ∃ xs : List V, SqT K H a xs ∧ i = xs.length
/-- a text's signs and the items of the tuple at b -/
def ItST (K : PySem.W.Frag) (z : Str) (b : Addr) : It where
  go i H := ∃ (ys : List V) (y : V), SqT K H b ys ∧ ys[i]? = some y ∧ i < z.cps.size
  yld i H v H' := ∃ (T : Addr) (c : Nat) (y : V), v = .ref T ∧ H T = none ∧ H' = upd H T (.tup [.str ⟨#[c]⟩, y]) ∧ z.cps[i]? = some c ∧ ∀ ys, SqT K H b ys → ys[i]? = some y
  stop i H := ∃ ys : List V, SqT K H b ys ∧ i = z.cps.size ∧ i = ys.length
section
variable {P : Program} {w : World} {K : PySem.W.Frag}
theorem turnET {elts : List Expr} {kk : Nat} {tpos : Pos} (a e it : Addr) : Turn P w K (.Tuple elts kk tpos) (ItET K a) [e, it] e (fun i h => (∃ old, IsEnum h e it ((i : Nat) : Int) old) ∧ h.IsTupleIter it a i ∧ e ≠ it) := by
  refine ⟨by simp, ?_, ?_, ?_, ?_, ?_⟩
  · rintro i h ⟨⟨old, he⟩, ⟨o, ho, hc, hd⟩, _⟩ b hb
    rcases (by simpa using hb : b = e ∨ b = it) with rfl | rfl
    · exact ⟨_, he, fun v q => by cases q⟩
    · exact ⟨o, ho, fun v q => by rw [hd] at q; cases q⟩
  · rintro i h h' ⟨⟨old, he⟩, hi, hne⟩ k
    exact ⟨⟨old, k e (by simp) _ he⟩, hi.at fun o q => k it (by simp) o q, hne⟩
  · intro X hP hw hK hc i pins s σ H E I hf st hg
    subst hP hw hK
    obtain ⟨⟨old, he⟩, hit, hne⟩ := st
    obtain ⟨xs, x, hq, hx⟩ := hg
    obtain ⟨its, rv, p, hz⟩ := I.tuple hq
    obtain ⟨u, hu, ru⟩ := rv.get hx
    have hel := Heap.lt_size he
    have hil : it < s.heap.objs.size := by obtain ⟨_, q, _⟩ := hit; exact Heap.lt_size q
    have hat : a ≠ it := fun q => by
      obtain ⟨o1, e1, c1, _⟩ := id p
      obtain ⟨o2, e2, c2, _⟩ := hit
      rw [q, e2] at e1
      cases e1
      rw [c2] at c1
      injection c1 with c1
      exact absurd c1 (by decide)
    have hae : a ≠ e := fun q => by
      obtain ⟨o1, e1, c1, _⟩ := id p
      rw [q, he] at e1
      cases e1
      injection c1 with c1
      exact absurd c1 (by decide)
    have ult : i < its.toArray.size := by
      have := (List.getElem?_eq_some_iff.mp hu).1
      simpa using this
    refine wpAny_pyNext_enum_itemD (Draws.tuple (A := X.A.in1) (show X.A.in1.handled = none from I.ok.hd hc) it a hat its.toArray) he ⟨hit, p⟩ ult hne (by simp [hne, hae.symm]) fun x1 h' tk hp1 ho st' hT hsz hk => ?_
    have ex : x1 = u := by
      have q : its.toArray[i]? = some u := by simpa using hu
      exact Option.some.inj (hp1.symm.trans q)
    subst ex
    refine ⟨_, rfl, wpAny_letOwnedTupleGo_enum ho fun h'' he' sb => ?_⟩
    have hT2 := (sb.2 _ (Nat.ne_of_gt hel)).trans hT
    have new : ObjOk X.prog X.w (upd H s.heap.objs.size (.tup [.int (i : Nat), x])) h'' s.heap.objs.size (.tup [.int (i : Nat), x]) := by
      refine ⟨by show 2 ≤ sizeLine; decide, [.int i tk, x1], .cons ⟨_, rfl⟩ (.cons ru .nil), ⟨_, hT2, rfl, _, rfl⟩⟩
    have I1 : Inv X pins σ (upd H s.heap.objs.size (.tup [.int (i : Nat), x])) { s with heap := h'', toks := tk + 1 } := by
      refine I.turnedNew (ch := [e, it]) (fun b ob hb q => ?_) hf (Nat.le_refl _) new
      have n1 : b ≠ e := fun z => hb (by simp [z])
      have n2 : b ≠ it := fun z => hb (by simp [z])
      exact (sb.2 b n1).trans (hk b ob n1 n2 q)
    refine ⟨.ref s.heap.objs.size, _, I1, rfl, ⟨_, x, rfl, I.hok.fresh (Nat.le_refl _), rfl, fun ys hy => ?_⟩, ⟨⟨x1, ?_⟩, ?_, hne⟩, fun b hb => ?_⟩
    · rw [I.tuple_inj hy hq]
      exact hx
    · have e1 : ((i + 1 : Nat) : Int) = (i : Int) + 1 := by omega
      rw [e1]
      exact he'
    · exact st'.1.at fun o q => (sb.2 it hne.symm).trans q
    · have hb' : b < s.heap.objs.size := by
        rcases (by simpa using hb : b = e ∨ b = it) with rfl | rfl
        · exact hel
        · exact hil
      rw [upd_ne (Nat.ne_of_lt hb')]
      exact (hf b hb).1
  · intro X hP hw hK hc i pins s σ H E I hf st hg
    subst hP hw hK
    obtain ⟨⟨old, he⟩, hit, hne⟩ := st
    obtain ⟨xs, hq, hx⟩ := hg
    obtain ⟨its, rv, p, hz⟩ := I.tuple hq
    have hat : a ≠ it := fun q => by
      obtain ⟨o1, e1, c1, _⟩ := id p
      obtain ⟨o2, e2, c2, _⟩ := hit
      rw [q, e2] at e1
      cases e1
      rw [c2] at c1
      injection c1 with c1
      exact absurd c1 (by decide)
    have es : its.toArray.size = i := by
      have := rv.length
      simp
      omega
    refine wpAny_pyNext_enum_endD (Draws.tuple (A := X.A.in1) (show X.A.in1.handled = none from I.ok.hd hc) it a hat its.toArray) he (by rw [es]; exact ⟨hit, p⟩) fun h' eb => ⟨rfl, ?_⟩
    refine I.turnedL (t' := s.toks) (ch := [e, it]) (fun b ob hb q => eb b ob (fun z => hb (by simp [z])) q) hf
  · rintro A i s Q E ⟨⟨old, he⟩, _⟩ h
    exact wpAny_pyIter_enum he h
/-- enumerate(v) of anything whose iterator begins as a new object -/
theorem meets_enum1 {v : Value} {o : Obj} {H : Heap → Prop} (B : Begins v o H) :
    Meets (Builtin.«enumerate.__new__» ⟨[.type "enumerate", v], []⟩) (fun _ R s => H s.heap ∧
      R (.ok (.ret (.ref (s.heap.push o).objs.size))) { s with heap := (s.heap.push o).push { cls := .type "enumerate", data := .fields #[.none, .bool false, .ref s.heap.objs.size, rawInt 0, .none, .none] } }) :=
  .of_wp fun prog w A R s hh => by
    obtain ⟨hp, g, dd, tk, os⟩ := s
    obtain ⟨hb, hfin⟩ := hh
    have isub := sub_enumerate
    have beg : ∀ {A1 : Around} {E1 : Value → Shared → Prop} {Q1 : Value → Shared → Prop}, Q1 (.ref hp.objs.size) ⟨hp.push o, g, dd, tk, os⟩ → wpAny (model prog w) A1 (pyIter v) Q1 E1 ⟨hp, g, dd, tk, os⟩ := by
      intro A1 E1 Q1 q
      exact B.iter prog w A1 E1 ⟨hp, g, dd, tk, os⟩ Q1 hb q
    wp_walk using beg
    refine wpAny_stack_any fun frames => wpAny_pure ?_
    split
    · rename_i c _ _ _ _ _
      cases (c == Value.type "enumerate")
      · wp_walk using beg
        exact ⟨_, rfl, hfin⟩
      · wp_walk using beg
        exact ⟨_, rfl, hfin⟩
    · wp_walk using beg
      exact ⟨_, rfl, hfin⟩
theorem call_enum1 {A : Around} {E : Value → Shared → Prop} {s : Shared} {v : Value} {o : Obj} {H : Heap → Prop} {Q : Value → Shared → Prop} (B : Begins v o H) (h1 : H s.heap)
    (h : ∀ h', IsEnum h' (s.heap.objs.size + 1) s.heap.objs.size 0 .none → h'.get? s.heap.objs.size = some o → (∀ b u, s.heap.get? b = some u → h'.get? b = some u) → Q (.ref (s.heap.objs.size + 1)) { s with heap := h' }) :
    wpAny (model P w) A (call (.type "enumerate") [v]) Q E s := by
  refine callType_new F.called_enumerate (by decide) (F.typeCall_enumerate_1 _) (F.newCall_enumerate_1 _) (fun obj => F.args_object_init_2 obj _) F.entry_enumerate_new (meets_enum1 B) ⟨h1, ?_⟩
  have z1 : (s.heap.push o).objs.size = s.heap.objs.size + 1 := Heap.size_push ..
  show _ ∧ _
  rw [z1]
  have ie : IsEnum ((s.heap.push o).push { cls := .type "enumerate", data := .fields #[.none, .bool false, .ref s.heap.objs.size, rawInt 0, .none, .none] }) (s.heap.objs.size + 1) s.heap.objs.size 0 .none := by
    have q := Heap.get?_push_size (s.heap.push o) (o := { cls := .type "enumerate", data := .fields #[.none, .bool false, .ref s.heap.objs.size, rawInt 0, .none, .none] }) rfl
    rw [z1] at q
    exact q
  exact ⟨⟨_, ie, rfl⟩, h _ ie (Heap.get?_push_of_some _ (Heap.get?_push_size _ B.free)) fun b u x => Heap.get?_push_of_some _ (Heap.get?_push_of_some _ x)⟩
def iEnumT (K : PySem.W.Frag) (ta : TA) : TI := fun σ H R => ta σ H fun vs H1 => ∃ a xs, vs = [.ref a] ∧ SqT K H1 a xs ∧ R (ItET K a) H1
theorem pi_enumT {X : Cx} {e : Expr} {ta : TA} {p pos tpos : Pos} {elts : List Expr} {kk : Nat} (hg : Gl X "enumerate") (hm : X.mg "enumerate" = none) (ha : PA X [e] ta) (hs : starEach [e] X.env = [(false, eval e X.env)] := by rfl) :
    PI X (.Tuple elts kk tpos) (.Call (.Name "enumerate" p) [e] [] pos) (iEnumT X.K ta) := by
  refine ⟨fun pins s σ H R I h => ?_⟩
  refine Call_ (ld_blt I hg hm boot_enumerate (PyProof.Rows.callWith_type1 (thn (ha.run pos pins s σ H _ I h) fun us s1 ⟨vs, H1, I1, r1, q1⟩ => ?_) hs rfl))
  obtain ⟨a, xs, ex, hq, q⟩ := q1
  subst ex
  cases r1 with
  | cons r rr =>
    cases rr
    cases r
    obtain ⟨its, rv, p', hz⟩ := I1.tuple hq
    refine call_enum1 (begins_tuple a its.toArray) p' fun h' he hit hk => wpAny_pyIter_enum he ?_
    have I2 : Inv X pins σ H1 { s1 with heap := h' } := I1.kept (t' := s1.toks) hk
    refine ⟨s1.heap.objs.size + 1, [s1.heap.objs.size + 1, s1.heap.objs.size], _, _, H1, rfl, I2, turnET a (s1.heap.objs.size + 1) s1.heap.objs.size, ⟨⟨.none, he⟩, ⟨_, hit, rfl, rfl⟩, Nat.succ_ne_self _⟩, fun b hb => ?_, q⟩
    have hle : s1.heap.objs.size ≤ b := by
      rcases (by simpa using hb : b = s1.heap.objs.size + 1 ∨ b = s1.heap.objs.size) with z | z
      · rw [z]; exact Nat.le_succ _
      · rw [z]; exact Nat.le_refl _
    exact I1.fpOk hle (I1.hok.fresh hle)
/-- a for over it -/
theorem walkET {K : PySem.W.Frag} {a : Addr} {xs : List V} : Walk (ItET K a) xs.length (fun H => SqT K H a xs) (YPair (fun i => some (.int (i : Nat))) (fun i => xs[i]?)) := by
  refine ⟨fun i _ hi q => ⟨xs, xs[i], q, by simp [hi]⟩, fun _ q => ⟨xs, q, rfl⟩, fun i H v H' _ q y => ?_⟩
  obtain ⟨T, x, h1, h2, h3, h4⟩ := y
  exact ⟨T, .int (i : Nat), x, h1, h2, h3, rfl, h4 xs q⟩
/-! ### zip(a text, a tuple) -/
abbrev tnST (x : Str) (b z TI TO i1 i2 : Addr) (i : Nat) (h : Heap) : Prop :=
  IsZip h z TI TO .none ∧ IsTupOf2 h TI (.ref i1) (.ref i2) ∧ (∃ a1 a2, IsTupOf2 h TO a1 a2) ∧ (∃ t, h.IsStrIter i1 (strIterType x) x t i) ∧ h.IsTupleIter i2 b i
theorem turnST {elts : List Expr} {kk : Nat} {tpos : Pos} {x : Str} {b z TI TO i1 i2 : Addr} (S : ZipSep2 z TI TO i1 i2 [i1] [i2, b]) (hb2 : b ≠ i2) : Turn P w K (.Tuple elts kk tpos) (ItST K x b) [z, TI, TO, i1, i2] z (tnST x b z TI TO i1 i2) := by
  have five : ∀ c, c ∈ [z, TI, TO, i1, i2] → c = z ∨ c = TI ∨ c = TO ∨ c = i1 ∨ c = i2 := fun c hc => by simpa using hc
  refine ⟨by simp, ?_, ?_, ?_, ?_, ?_⟩
  · rintro i h ⟨hz, hTI, ⟨a1, a2, hTO⟩, ⟨t, o1, e1, _, d1⟩, ⟨o2, e2, _, d2⟩⟩ c hc
    rcases five c hc with rfl | rfl | rfl | rfl | rfl
    · exact ⟨_, hz, fun v q => by cases q⟩
    · exact ⟨_, hTI, fun v q => by cases q⟩
    · exact ⟨_, hTO, fun v q => by cases q⟩
    · exact ⟨o1, e1, fun v q => by rw [d1] at q; cases q⟩
    · exact ⟨o2, e2, fun v q => by rw [d2] at q; cases q⟩
  · rintro i h h' ⟨hz, hTI, ⟨a1, a2, hTO⟩, ⟨t, o1, e1, r1⟩, h2⟩ k
    exact ⟨k z (by simp) _ hz, k TI (by simp) _ hTI, ⟨a1, a2, k TO (by simp) _ hTO⟩, ⟨t, o1, k i1 (by simp) _ e1, r1⟩, h2.at fun o q => k i2 (by simp) o q⟩
  · intro X hP hw hK hc i pins s σ H E I hf st hg
    subst hP hw hK
    obtain ⟨hz, hTI, ⟨a1, a2, hTO⟩, ⟨t, h1⟩, h2⟩ := st
    obtain ⟨ys, y, hq, hy, hi⟩ := hg
    obtain ⟨its, rv, p, hzz⟩ := I.tuple hq
    obtain ⟨u, hu, ru⟩ := rv.get hy
    have ult : i < its.toArray.size := by
      have := (List.getElem?_eq_some_iff.mp hu).1
      simpa using this
    have hzl := Heap.lt_size hz
    refine wpAny_pyNext_zipD2_item S (Draws.text (A := X.A.in1) (show X.A.in1.handled = none from I.ok.hd hc) i1 x t) (Draws.tuple (A := X.A.in1) (show X.A.in1.handled = none from I.ok.hd hc) i2 b hb2 its.toArray) hz hTI hTO h1 ⟨h2, p⟩ hi ult fun x1 x2 h' tk hp1 hp2 ho hTO' st1 st2 hT hsz hk => ?_
    obtain ⟨c, tc, hcx, rfl⟩ := hp1
    have ex : x2 = u := by
      have q : its.toArray[i]? = some u := by simpa using hu
      exact Option.some.inj (hp2.symm.trans q)
    subst ex
    refine ⟨_, rfl, wpAny_letOwnedTupleGo_zip (s := { s with heap := h', toks := tk }) ho fun h'' hz'' sb => ?_⟩
    have hT2 := (sb.2 _ (Nat.ne_of_gt hzl)).trans hT
    have new : ObjOk X.prog X.w (upd H s.heap.objs.size (.tup [.str ⟨#[c]⟩, y])) h'' s.heap.objs.size (.tup [.str ⟨#[c]⟩, y]) := by
      refine ⟨by show 2 ≤ sizeLine; decide, [.str ⟨#[c]⟩ tc, x2], .cons ⟨_, rfl⟩ (.cons ru .nil), ⟨_, hT2, rfl, _, rfl⟩⟩
    have I1 : Inv X pins σ (upd H s.heap.objs.size (.tup [.str ⟨#[c]⟩, y])) { s with heap := h'', toks := tk } := by
      refine I.turnedNew (ch := [z, TI, TO, i1, i2]) (fun d ob hd q => ?_) hf (Nat.le_refl _) new
      have n1 : d ≠ z := fun q => hd (by simp [q])
      have n2 : d ≠ TO := fun q => hd (by simp [q])
      have n3 : d ≠ i1 := fun q => hd (by simp [q])
      have n4 : d ≠ i2 := fun q => hd (by simp [q])
      exact (sb.2 d n1).trans (hk d ob n1 n2 n3 n4 q)
    refine ⟨.ref s.heap.objs.size, _, I1, rfl, ⟨_, c, y, rfl, I.hok.fresh (Nat.le_refl _), rfl, hcx, fun vs hv => ?_⟩, ⟨hz'', ?_, ⟨.str ⟨#[c]⟩ tc, x2, ?_⟩, ⟨t, ?_⟩, ?_⟩, fun d hd => ?_⟩
    · rw [I.tuple_inj hv hq]
      exact hy
    · exact (sb.2 _ S.TIz).trans (hk _ _ S.TIz S.TITO S.TIi1 S.TIi2 hTI)
    · exact (sb.2 _ S.TOz).trans hTO'
    · obtain ⟨o1, e1, r1⟩ := st1
      exact ⟨o1, (sb.2 _ S.zi1.symm).trans e1, r1⟩
    · exact st2.1.at fun o q => (sb.2 _ S.zi2.symm).trans q
    · have hlt : d < s.heap.objs.size := by
        rcases five d hd with rfl | rfl | rfl | rfl | rfl
        · exact hzl
        · exact Heap.lt_size hTI
        · exact Heap.lt_size hTO
        · obtain ⟨_, q, _⟩ := h1; exact Heap.lt_size q
        · obtain ⟨_, q, _⟩ := h2; exact Heap.lt_size q
      rw [upd_ne (Nat.ne_of_lt hlt)]
      exact (hf d hd).1
  · intro X hP hw hK hc i pins s σ H E I hf st hg
    subst hP hw hK
    obtain ⟨hz, hTI, ⟨a1, a2, hTO⟩, ⟨t, h1⟩, h2⟩ := st
    obtain ⟨ys, hq, ei, ey⟩ := hg
    obtain ⟨its, rv, p, hzz⟩ := I.tuple hq
    have es : i = its.toArray.size := by
      have := rv.length
      simp
      omega
    refine wpAny_pyNext_zipD2_end S (Draws.text (A := X.A.in1) (show X.A.in1.handled = none from I.ok.hd hc) i1 x t) (Draws.tuple (A := X.A.in1) (show X.A.in1.handled = none from I.ok.hd hc) i2 b hb2 its.toArray) hz hTI hTO h1 ⟨h2, p⟩ (Nat.le_of_eq ei) (Nat.le_of_eq es) (.inl ei) fun h' tk hk => ⟨rfl, ?_⟩
    refine I.turnedL (t' := tk) (ch := [z, TI, TO, i1, i2]) (fun d ob hd q => ?_) hf
    exact hk d ob (fun q => hd (by simp [q])) (fun q => hd (by simp [q])) (fun q => hd (by simp [q])) (fun q => hd (by simp [q])) q
  · rintro A i s Q E ⟨hz, _⟩ h
    exact wpAny_pyIter_zip hz h
def iZipST (K : PySem.W.Frag) (ta : TA) : TI := fun σ H R => ta σ H fun vs H1 => ∃ x b ys, vs = [.str x, .ref b] ∧ SqT K H1 b ys ∧ R (ItST K x b) H1
theorem pi_zipST {X : Cx} {e e2 : Expr} {ta : TA} {p pos tpos : Pos} {elts : List Expr} {kk : Nat} (hg : Gl X "zip") (hm : X.mg "zip" = none) (ha : PA X [e, e2] ta)
    (hs : starEach [e, e2] X.env = (false, eval e X.env) :: starEach [e2] X.env := by rfl) (hpl : (backTo pos (starEach [e2] X.env)).any (·.1) = false := by rfl) :
    PI X (.Tuple elts kk tpos) (.Call (.Name "zip" p) [e, e2] [] pos) (iZipST X.K ta) := by
  refine ⟨fun pins s σ H R I h => ?_⟩
  refine Call_ (ld_blt I hg hm PyProof.Rows.boot_zip (PyProof.Rows.callWith_type1 (thn (ha.run pos pins s σ H _ I h) fun us s1 ⟨vs, H1, I1, r1, q1⟩ => ?_) hs hpl))
  obtain ⟨x, b, ys, ex, hq, q⟩ := q1
  subst ex
  cases r1 with
  | cons r rr =>
    cases rr with
    | cons r' rr =>
      cases rr
      cases r'
      obtain ⟨t, rfl⟩ := r
      obtain ⟨its, rv, p', hz⟩ := I1.tuple hq
      refine zip_begins2 (begins_text x t) (begins_tuple b its.toArray) trivial p' fun h' hz hTI hTO h1 h2 hsz hk => wpAny_pyIter_zip hz ?_
      have I2 : Inv X pins σ H1 { s1 with heap := h' } := I1.kept (t' := s1.toks) hk
      have hbl : b < s1.heap.objs.size := by obtain ⟨_, q, _⟩ := p'; exact Heap.lt_size q
      refine ⟨s1.heap.objs.size + 4, [s1.heap.objs.size + 4, s1.heap.objs.size + 2, s1.heap.objs.size + 3, s1.heap.objs.size, s1.heap.objs.size + 1], _, _, H1, rfl, I2,
        turnST (zip_sep2 (fp1 := []) (fp2 := [b]) (by simp) (by simpa using hbl)) (Nat.ne_of_lt (Nat.lt_succ_of_lt hbl)), ⟨hz, hTI, ⟨_, _, hTO⟩, ⟨t, _, h1, rfl, rfl⟩, ⟨_, h2, rfl, rfl⟩⟩, fun c hc => ?_, q⟩
      have hle : s1.heap.objs.size ≤ c := by
        rcases (by simpa using hc : c = s1.heap.objs.size + 4 ∨ c = s1.heap.objs.size + 2 ∨ c = s1.heap.objs.size + 3 ∨ c = s1.heap.objs.size ∨ c = s1.heap.objs.size + 1) with z | z | z | z | z <;> rw [z]
        · exact Nat.le_add_right _ _
        · exact Nat.le_add_right _ _
        · exact Nat.le_add_right _ _
        · exact Nat.le_refl _
        · exact Nat.le_add_right _ _
      exact I1.fpOk hle (I1.hok.fresh hle)
theorem walkST {K : PySem.W.Frag} {x : Str} {b : Addr} {ys : List V} (hn : x.cps.size = ys.length) : Walk (ItST K x b) ys.length (fun H => SqT K H b ys) (YPair (fun i => x.cps[i]?.map fun c => .str ⟨#[c]⟩) (fun i => ys[i]?)) := by
  refine ⟨fun i _ hi q => ⟨ys, ys[i], q, by simp [hi], by omega⟩, fun _ q => ⟨ys, q, hn.symm, rfl⟩, fun i H v H' _ q y => ?_⟩
  obtain ⟨T, c, z, h1, h2, h3, h4, h5⟩ := y
  exact ⟨T, .str ⟨#[c]⟩, z, h1, h2, h3, by simp [h4], h5 ys q⟩
end
end LB
/-! Written tables (dicts with text keys), constants, kinds. Own text. -/
namespace LB
open PySem PySem.Spec PyProof.Rows L2
/-- the value found, or nothing -/
def Rl : Option V → Option Value → Prop
  | some v, some u => RelV v u
  | none, none => True
  | _, _ => False
def EntsAt : List DictEntry → List (Str × V) → Prop
  | [], [] => True
  | e :: r, kv :: t => (∃ tk, e.key = .str kv.1 tk) ∧ RelV kv.2 e.val ∧ EntsAt r t
  | _, _ => False
/-- a written dict whose keys are texts -/
structure WD (K : PySem.W.Frag) (w : World) (d : Addr) (kvs : List (Str × V)) : Prop where
  ex : ∃ es n, KDict K w d es n ∧ EntsAt es.toList kvs
def lk (kvs : List (Str × V)) (z : Str) : Option V := (kvs.find? fun kv => kv.1 == z).map (·.2)
theorem ents_find (z : Str) : ∀ (es : List DictEntry) (kvs : List (Str × V)), EntsAt es kvs →
    (∃ e, es.find? (·.key.isStr z) = some e ∧ Rl (lk kvs z) (some e.val)) ∨ (es.find? (·.key.isStr z) = none ∧ es.any (·.refKey) = false ∧ lk kvs z = none)
  | [], [], _ => .inr ⟨rfl, rfl, rfl⟩
  | e :: r, kv :: t, h => by
    obtain ⟨⟨tk, h1⟩, h2, h3⟩ := h
    have ek : e.key.isStr z = (kv.1 == z) := by rw [h1]; rfl
    cases q : (kv.1 == z) with
    | true =>
      refine .inl ⟨e, ?_, ?_⟩
      · rw [List.find?_cons, ek, q]
      · unfold lk
        rw [List.find?_cons, q]
        exact h2
    | false =>
      have e2 : lk (kv :: t) z = lk t z := by
        unfold lk
        rw [List.find?_cons, q]
      rw [e2, List.find?_cons, ek, q, List.any_cons]
      have e3 : e.refKey = false := by
        unfold DictEntry.refKey
        rw [h1]
      rw [e3, Bool.false_or]
      exact ents_find z r t h3
theorem WD.ns {K : PySem.W.Frag} {w : World} {d : Addr} {kvs : List (Str × V)} (D : WD K w d kvs) (z : Str) : ∃ es n r, KDict K w d es n ∧ PySem.W.nsIn K d z = some r ∧ Rl (lk kvs z) r := by
  obtain ⟨es, n, kd, h⟩ := D.ex
  have q : PySem.W.nsIn K d z = (match es.toList.find? (·.key.isStr z) with
      | some e => some (some e.val)
      | none => if es.toList.any (·.refKey) then none else some none) := by
    unfold PySem.W.nsIn
    rw [kd.at_]
    rfl
  rcases ents_find z _ _ h with ⟨e, h1, h2⟩ | ⟨h1, h2, h3⟩
  · refine ⟨es, n, some e.val, kd, ?_, h2⟩
    rw [q, h1]
  · refine ⟨es, n, none, kd, ?_, by rw [h3]; trivial⟩
    rw [q, h1, h2]
    rfl
section
variable {X : Cx} {d : Addr} {kvs : List (Str × V)}
/-- z in TABLE -/
theorem op_inW (D : WD X.K X.w d kvs) : OpR X (compareOp .In) (fun x y H Q => ∃ z : Str, x = .str z ∧ y = .ref d ∧ Q (.bl (lk kvs z).isSome) H) := by
  intro pins s σ H x y v u Q I rx ry h
  obtain ⟨z, e1, e2, q⟩ := h
  obtain ⟨es, n, r, kd, e, rl⟩ := D.ns z
  have er : (lk kvs z).isSome = r.isSome := by
    cases h1 : lk kvs z <;> cases h2 : r <;> rw [h1, h2] at rl <;> first | rfl | exact rl.elim
  exact op_in_kd kd pins s σ H x y v u Q I rx ry ⟨z, r, e1, e2, e, by rw [← er]; exact q⟩
theorem WD.item (D : WD X.K X.w d kvs) {z : Str} {v : V} (h : lk kvs z = some v) : KDct X.K X.w d z v := by
  obtain ⟨es, n, r, kd, e, rl⟩ := D.ns z
  rw [h] at rl
  cases r with
  | none => exact rl.elim
  | some u => exact ⟨es, n, u, kd.at_, kd.lit, e, rl⟩
/-- TABLE.get(z) -/
theorem pe_getW {o e : Expr} {apos cpos : Pos} {td ty : TE} (D : WD X.K X.w d kvs) (ho : PE X o td) (he : PE X e ty) (m : M1 X o "get" apos e cpos) :
    PE X (.Call (.Attribute o "get" apos) [e] [] cpos) (fun σ H Q => td σ H fun x H1 => x = .ref d ∧ ty σ H1 fun y H2 => ∃ z : Str, y = .str z ∧ Q ((lk kvs z).getD .non) H2) := by
  refine ⟨fun pins s σ H Q I h => ?_⟩
  refine wpAny_Call_method m.base m.few m.line PySem.F.plainAttrs_dict PySem.F.slot_dict_get PySem.F.type_dict_get (thn (ho.run pins s σ H _ I h) fun u s1 ⟨x, H1, I1, rx, ex, q1⟩ => ?_)
  subst ex
  obtain rfl : u = Value.ref d := rx
  obtain ⟨es, n, kd, h0⟩ := D.ex
  refine ⟨kd_type kd I1, fun b q => ?_, ?_⟩
  · cases q
    exact ⟨_, I1.kIn d _ kd.at_, rfl⟩
  rw [m.trees]
  refine Calls.callWith_builtin rfl (Calls.evalArgs_plain (Calls.spliced_cons (thn (he.run pins s1 σ H1 _ I1 q1) fun iv s2 ⟨y, H2, I2, ry, z, ez, q2⟩ => Calls.spliced_nil ?_)))
  subst ez
  obtain ⟨t, rfl⟩ := ry
  obtain ⟨es', n', r, kd', e', rl⟩ := D.ns z
  refine call_meetsIn PySem.F.slot_dict_get (kd_type kd' I2) PySem.F.entry_dict_get (PySem.F.args_dict_get_2 _ _) (meets_dict_get (PySem.strKind X.prog X.w) d (PySem.strKind_is X.prog X.w z t) kd'.low) ⟨_, PySem.W.mapOf_K (prog := X.prog) I2.kIn kd'.at_ kd'.lit, ?_⟩
  rw [PySem.W.find_K kd'.at_ e']
  refine ⟨(lk kvs z).getD .non, H2, I2.tok _, ?_, q2⟩
  cases h1 : lk kvs z <;> cases h2 : r <;> rw [h1, h2] at rl <;> first | exact rl.elim | exact rl | rfl
/-- a constant of the module -/
theorem pe_gint {x : Str} {i : Int} {pos : Pos} (hm : ∃ t, X.mg x = some (.int i t)) (hg : Gl X x := by rfl) (hd : (x == ("__debug__" : Str)) = false := by decide) : PE X (.Name x pos) (tC (.int i)) := by
  obtain ⟨t, hm⟩ := hm
  exact pe_glob hg hm ⟨t, rfl⟩ hd
theorem pe_gref {x : Str} {a : Addr} {pos : Pos} (hm : X.mg x = some (.ref a)) (hg : Gl X x := by rfl) (hd : (x == ("__debug__" : Str)) = false := by decide) : PE X (.Name x pos) (tC (.ref a)) := pe_glob hg hm rfl hd
end
/-- a written tuple -/
def KTup (K : PySem.W.Frag) (a : Addr) (xs : List V) : Prop := ∃ (o : Obj) (its : Array Value) (n : Nat), K.lookup a = some o ∧ o.cls = .type "tuple" ∧ o.data = .seq its n ∧ its.size ≤ sizeLine ∧ Vals xs its.toList
theorem KTup.at_ {K : PySem.W.Frag} {H : Hp} {a : Addr} {xs : List V} (h : KTup K a xs) : SqT K H a xs := .inr h
theorem ty_tup {K : PySem.W.Frag} {H : Hp} {a : Addr} {xs : List V} (h : SqT K H a xs) : TyX K H (.ref a) (.type "tuple") := by
  rcases h with (h | ⟨o, h⟩) | ⟨o, its, n, h, c, _⟩
  · exact .base (.tup h)
  · exact .fTuple h
  · exact .kTuple h c
theorem ty_lst {K : PySem.W.Frag} {H : Hp} {a : Addr} {xs : List V} (h : SqL K H a xs) : TyX K H (.ref a) (.type "list") := by
  rcases h with (h | ⟨o, h⟩) | ⟨o, its, n, h, c, _⟩
  · exact .base (.lst h)
  · exact .base (.frz h)
  · exact .kList h c
theorem kit (a b : String) {K : PySem.W.Frag} {r : Bool} (h : kitB a b = some r) : PySem.W.kitOne K (.type a) (.type b) = some r := h
end LB
namespace LB
open PySem L2
def signsTab : List (Str × V) := [("put", .str "wn"), ("move", .str "wb"), ("add", .str "wbb"), ("take", .str "wbb"), ("times", .str "wbb"), ("get", .str "wb"), ("set", .str "bb"), ("say", .str "b"), ("rest", .str ""), ("go", .str "r"), ("if", .str "br"), ("stop", .str "")]
def lateTab : List (Str × V) := [("put", .int 0), ("move", .int 0), ("add", .int 0), ("take", .int 0), ("get", .int 1), ("times", .int 2)]
/-- what the module's top has bound -/
structure Gb (K : PySem.W.Frag) (w : World) (mg : Str → Option Value) (dS : Addr) : Prop where
  boxes : ∃ t, mg "BOXES" = some (.int 8 t)
  held : ∃ t, mg "MOST_HELD" = some (.int 999 t)
  rows : ∃ t, mg "MOST_ROWS" = some (.int 200 t)
  signs : mg "SIGNS" = some (.ref dS)
  signsAt : WD K w dS signsTab
structure Gs (K : PySem.W.Frag) (w : World) (mg : Str → Option Value) (dS dL tM : Addr) : Prop extends Gb K w mg dS where
  late : mg "LATE_AT" = some (.ref dL)
  lateAt : WD K w dL lateTab
  mostLate : mg "MOST_LATE" = some (.ref tM)
  mostLateAt : KTup K tM [.int 2, .int 4, .int 4, .int 3]
abbrev GC (mg : Str → Option Value) : Prop := ∃ t, mg "CELLS" = some (.int 16 t)
abbrev GJ (mg : Str → Option Value) : Prop := ∃ t, mg "JUMP_AT" = some (.int 3 t)
abbrev GF (mg : Str → Option Value) : Prop := ∃ t, mg "MOST_FUEL" = some (.int 1000 t)
/-- built-ins still, further -/
structure Bl2 (mg : Str → Option Value) : Prop where
  b : Bl mg
  isi : mg "isinstance" = none
  int : mg "int" = none
  bool : mg "bool" = none
  str : mg "str" = none
  all : mg "all" = none
  zip : mg "zip" = none
  enum : mg "enumerate" = none
def Rw.word : Rw → Str
  | .put _ _ => "put" | .move _ _ => "move" | .add _ _ _ => "add" | .take _ _ _ => "take" | .times _ _ _ => "times" | .get _ _ => "get" | .set _ _ => "set" | .say _ => "say" | .rest => "rest" | .go _ => "go" | .iff _ _ => "if" | .stop => "stop"
def Rw.signs : Rw → Str
  | .put _ _ => "wn" | .move _ _ => "wb" | .add _ _ _ => "wbb" | .take _ _ _ => "wbb" | .times _ _ _ => "wbb" | .get _ _ => "wb" | .set _ _ => "bb" | .say _ => "b" | .rest => "" | .go _ => "r" | .iff _ _ => "br" | .stop => ""
def Rw.args : Rw → List Int
  | .put b n => [b, n] | .move b c => [b, c] | .add b c d => [b, c, d] | .take b c d => [b, c, d] | .times b c d => [b, c, d] | .get b c => [b, c] | .set c d => [c, d] | .say c => [c] | .rest => [] | .go r => [r] | .iff c r => [c, r] | .stop => []
theorem Rw.vals_eq (r : Rw) : r.vals = .str r.word :: r.args.map V.int := by cases r <;> rfl
theorem Rw.signs_lk (r : Rw) : lk signsTab r.word = some (.str r.signs) := by cases r <;> rfl
theorem Rw.signs_size (r : Rw) : r.signs.cps.size = r.args.length := by cases r <;> rfl
/-- the greatest number that a sign stands for -/
def mostFor (z : Str) (many : Int) : Int := if z = "n" then 999 else if z = "r" then many - 1 else 7
theorem mf_n (many : Int) : mostFor ⟨#[110]⟩ many = 999 := if_pos (by decide +kernel)
theorem mf_r (many : Int) : mostFor ⟨#[114]⟩ many = many - 1 := by
  unfold mostFor
  rw [if_neg (by decide +kernel), if_pos (by decide +kernel)]
theorem mf_b (many : Int) : mostFor ⟨#[98]⟩ many = 7 := by
  unfold mostFor
  rw [if_neg (by decide +kernel), if_neg (by decide +kernel)]
theorem mf_w (many : Int) : mostFor ⟨#[119]⟩ many = 7 := by
  unfold mostFor
  rw [if_neg (by decide +kernel), if_neg (by decide +kernel)]
theorem Bx.le {b many : Int} (h : Bx b) {c : Nat} (hc : c = 98 ∨ c = 119) : 0 ≤ b ∧ b ≤ mostFor ⟨#[c]⟩ many := by
  obtain ⟨h0, h1⟩ := h
  rcases hc with rfl | rfl
  · rw [mf_b]; omega
  · rw [mf_w]; omega
theorem at_1 {α : Type} {a x : α} {i : Nat} (h : [a][i]? = some x) : i = 0 ∧ x = a := by
  cases i with
  | zero => exact ⟨rfl, (Option.some.inj h).symm⟩
  | succ i => simp at h
theorem at_2 {α : Type} {a b x : α} {i : Nat} (h : [a, b][i]? = some x) : (i = 0 ∧ x = a) ∨ (i = 1 ∧ x = b) := by
  match i, h with
  | 0, h => exact .inl ⟨rfl, (Option.some.inj h).symm⟩
  | 1, h => exact .inr ⟨rfl, (Option.some.inj h).symm⟩
theorem at_3 {α : Type} {a b c x : α} {i : Nat} (h : [a, b, c][i]? = some x) : (i = 0 ∧ x = a) ∨ (i = 1 ∧ x = b) ∨ (i = 2 ∧ x = c) := by
  match i, h with
  | 0, h => exact .inl ⟨rfl, (Option.some.inj h).symm⟩
  | 1, h => exact .inr (.inl ⟨rfl, (Option.some.inj h).symm⟩)
  | 2, h => exact .inr (.inr ⟨rfl, (Option.some.inj h).symm⟩)
theorem sg {a : Str} {i c : Nat} (h : a.cps[i]? = some c) : a.cps.toList[i]? = some c := by
  rw [Array.getElem?_toList]
  exact h
theorem Rw.args_ok {r : Rw} {many : Int} (h : r.ok many) {i c : Nat} {z : Int} (hc : r.signs.cps[i]? = some c) (hz : r.args[i]? = some z) : 0 ≤ z ∧ z ≤ mostFor ⟨#[c]⟩ many := by
  have hc := sg hc
  cases r with
  | put b n =>
    rcases at_2 hz with ⟨rfl, rfl⟩ | ⟨rfl, rfl⟩
    · exact h.1.le (.inr (Option.some.inj hc).symm)
    · have e := Option.some.inj hc
      rw [← e]
      show 0 ≤ z ∧ z ≤ mostFor ⟨#[110]⟩ many
      rw [mf_n]
      have := h.2
      omega
  | move b c =>
    rcases at_2 hz with ⟨rfl, rfl⟩ | ⟨rfl, rfl⟩
    · exact h.1.le (.inr (Option.some.inj hc).symm)
    · exact h.2.le (.inl (Option.some.inj hc).symm)
  | add b c d =>
    rcases at_3 hz with ⟨rfl, rfl⟩ | ⟨rfl, rfl⟩ | ⟨rfl, rfl⟩
    · exact h.1.le (.inr (Option.some.inj hc).symm)
    · exact h.2.1.le (.inl (Option.some.inj hc).symm)
    · exact h.2.2.le (.inl (Option.some.inj hc).symm)
  | take b c d =>
    rcases at_3 hz with ⟨rfl, rfl⟩ | ⟨rfl, rfl⟩ | ⟨rfl, rfl⟩
    · exact h.1.le (.inr (Option.some.inj hc).symm)
    · exact h.2.1.le (.inl (Option.some.inj hc).symm)
    · exact h.2.2.le (.inl (Option.some.inj hc).symm)
  | times b c d =>
    rcases at_3 hz with ⟨rfl, rfl⟩ | ⟨rfl, rfl⟩ | ⟨rfl, rfl⟩
    · exact h.1.le (.inr (Option.some.inj hc).symm)
    · exact h.2.1.le (.inl (Option.some.inj hc).symm)
    · exact h.2.2.le (.inl (Option.some.inj hc).symm)
  | get b c =>
    rcases at_2 hz with ⟨rfl, rfl⟩ | ⟨rfl, rfl⟩
    · exact h.1.le (.inr (Option.some.inj hc).symm)
    · exact h.2.le (.inl (Option.some.inj hc).symm)
  | set c d =>
    rcases at_2 hz with ⟨rfl, rfl⟩ | ⟨rfl, rfl⟩
    · exact h.1.le (.inl (Option.some.inj hc).symm)
    · exact h.2.le (.inl (Option.some.inj hc).symm)
  | say c =>
    obtain ⟨rfl, rfl⟩ := at_1 hz
    exact Bx.le h (.inl (Option.some.inj hc).symm)
  | rest => cases hz
  | go q =>
    obtain ⟨rfl, rfl⟩ := at_1 hz
    have e := Option.some.inj hc
    rw [← e]
    show 0 ≤ z ∧ z ≤ mostFor ⟨#[114]⟩ many
    rw [mf_r]
    have h' : 0 ≤ z ∧ z < many := h
    omega
  | iff c q =>
    rcases at_2 hz with ⟨rfl, rfl⟩ | ⟨rfl, rfl⟩
    · exact h.1.le (.inl (Option.some.inj hc).symm)
    · have e := Option.some.inj hc
      rw [← e]
      show 0 ≤ z ∧ z ≤ mostFor ⟨#[114]⟩ many
      rw [mf_r]
      have := h.2
      omega
  | stop => cases hz
section
variable {P : Program} {w : World} {K : PySem.W.Frag} {mg : Str → Option Value} {base : Heap}
/-! ### is_whole, most_for -/
def spWhole : Sp := fun vs H Q _ => ∃ x m : Int, vs = [.int x, .int m] ∧ Q (.bl (decide (0 ≤ x ∧ x ≤ m))) H
theorem scWhole : FnScope ["x", "most"] ["x", "most"] (defScope sWhole) := ⟨rfl, rfl, rfl, by decide +kernel, rfl, by decide +kernel, by decide +kernel⟩
theorem ok_whole {f : Addr} {fd : FuncData} (F : Fun K "is_whole" "is_whole" sWhole f fd) (B : Bl2 mg) : FnOk P w K mg base CX0 1 f fd ["x", "most"] spWhole := by
  refine F.ok scWhole (fun vs H Q E h => ?_) (fun cdv A outer s H vs Q E hr h => ?_)
  · obtain ⟨x, m, rfl, _⟩ := h
    rfl
  · obtain ⟨x, m, rfl, k⟩ := h
    refine ⟨_, pss_one (ps_ret (pe_and (pe_callB call_isi (by rfl) B.isi (by decide +kernel) (pa_cons (pv 0) (pa_cons (pe_bltn (v := .ty "int") (by rfl) B.int (by decide +kernel) rfl) pa_nil)))
      (pe_and (pe_not (pe_callB call_isi (by rfl) B.isi (by decide +kernel) (pa_cons (pv 0) (pa_cons (pe_bltn (v := .ty "bool") (by rfl) B.bool (by decide +kernel) rfl) pa_nil))))
      (pe_one (pe_chain op_le op_le pe_int (pv 0) (pv 1)))))), ?_⟩
    refine ⟨_, rfl, _, _, _, _, true, rfl, .ty "int", .base (.int x), kit _ _ (by decide +kernel), true, rfl, iteT ?_⟩
    refine ⟨_, rfl, _, _, _, _, false, rfl, .ty "bool", .base (.int x), kit _ _ (by decide +kernel), false, rfl, true, rfl, iteT ?_⟩
    refine ⟨_, rfl, _, _, rfl, rfl, _, rfl, if_both (fun e => ?_) (fun e => ?_)⟩
    · have e' : 0 ≤ x := of_decide_eq_true e
      refine ⟨_, rfl, _, _, rfl, rfl, ?_⟩
      have q : decide (x ≤ m) = decide (0 ≤ x ∧ x ≤ m) := by simp [e']
      show Q (.bl (decide (x ≤ m))) H
      rw [q]
      exact k
    · have e' : ¬ 0 ≤ x := of_decide_eq_false e
      have q : decide (0 ≤ x ∧ x ≤ m) = false := by simp [e']
      show Q (.bl false) H
      rw [← q]
      exact k
def spMost : Sp := fun vs H Q _ => ∃ (z : Str) (many : Int), vs = [.str z, .int many] ∧ Q (.int (mostFor z many)) H
theorem scMost : FnScope ["sign", "many"] ["sign", "many"] (defScope sMost) := ⟨rfl, rfl, rfl, by decide +kernel, rfl, by decide +kernel, by decide +kernel⟩
theorem ok_most {f dS : Addr} {fd : FuncData} (F : Fun K "most_for" "most_for" sMost f fd) (G : Gb K w mg dS) : FnOk P w K mg base CX0 1 f fd ["sign", "many"] spMost := by
  refine F.ok scMost (fun vs H Q E h => ?_) (fun cdv A outer s H vs Q E hr h => ?_)
  · obtain ⟨z, m, rfl, _⟩ := h
    rfl
  · obtain ⟨z, many, rfl, k⟩ := h
    refine ⟨_, pss_cons (ps_if (pt_cmpR op_eq (pv 0) pe_str (nomark _)) (pss_one (ps_ret (pe_gint G.held))) pss_nil)
      (pss_cons (ps_if (pt_cmpR op_eq (pv 0) pe_str (nomark _)) (pss_one (ps_ret (pe_op op_sub (pv 1) pe_int))) pss_nil)
      (pss_one (ps_ret (pe_op op_sub (pe_gint G.boxes) pe_int)))), ?_⟩
    unfold mostFor at k
    refine ⟨_, rfl, rfl, _, rfl, if_both (fun e => ?_) (fun e => ?_)⟩
    · have e' : z = "n" := by have := of_decide_eq_true e; injection this
      rw [if_pos e'] at k
      exact k
    · have e' : ¬ z = "n" := fun q => of_decide_eq_false e (congrArg V.str q)
      rw [if_neg e'] at k
      refine ⟨_, rfl, rfl, _, rfl, if_both (fun e => ?_) (fun e => ?_)⟩
      · have e' : z = "r" := by have := of_decide_eq_true e; injection this
        rw [if_pos e'] at k
        exact ⟨_, rfl, _, _, rfl, rfl, k⟩
      · have e' : ¬ z = "r" := fun q => of_decide_eq_false e (congrArg V.str q)
        rw [if_neg e'] at k
        exact ⟨_, _, rfl, rfl, k⟩
/-! ### is_row: true of a row that can be -/
def spRow (K : PySem.W.Frag) : Sp := fun vs H Q _ => ∃ (v : V) (r : Rw) (many : Int), vs = [v, .int many] ∧ RowAt K H v r ∧ r.ok many ∧ ∀ H', Same H H' → Q (.bl true) H'
abbrev nsRow : List Str := ["row", "many", "signs", "sign", "x"]
theorem scRow : FnScope nsRow ["row", "many"] (defScope sRow) := ⟨rfl, rfl, rfl, by decide +kernel, rfl, by decide +kernel, by decide +kernel⟩
theorem all_true : ∀ n : Nat, (List.replicate n true).all id = true
  | 0 => rfl
  | n + 1 => by
    rw [List.replicate_succ, List.all_cons, all_true n]
    rfl
/-- a list of so many True stands at D, and all that was -/
def Trues (H0 : Hp) (D : Addr) (i : Nat) (H : Hp) : Prop := H D = some (.lst ((List.replicate i true).map V.bl)) ∧ Same H0 H
theorem Trues.step {H0 H : Hp} {D : Addr} {i : Nat} (h : Trues H0 D i H) (h0 : H0 D = none) : Trues H0 D (i + 1) (upd H D (.lst ((List.replicate i true).map V.bl ++ [.bl true]))) := by
  refine ⟨?_, fun b o e => ?_⟩
  · rw [upd_same, List.replicate_succ', List.map_append]
    rfl
  · rw [upd_ne (ne_of_none e h0)]
    exact h.2 b o e
theorem Trues.same {H0 H H' : Hp} {D : Addr} {i : Nat} (h : Trues H0 D i H) (s : Same H H') : Trues H0 D i H' := ⟨s _ _ h.1, h.2.trans s⟩
theorem ok_row {f dS : Addr} {fd : FuncData} (F : Fun K "is_row" "is_row" sRow f fd) (W : Cal P w K mg base 1 "is_whole" ["x", "most"] spWhole) (M : Cal P w K mg base 1 "most_for" ["sign", "many"] spMost) (B : Bl2 mg) (G : Gb K w mg dS) : FnOk P w K mg base CX0 2 f fd ["row", "many"] (spRow K) := by
  refine F.ok scRow (fun vs H Q E h => ?_) (fun cdv A outer s H vs Q E hr h => ?_)
  · obtain ⟨v, r, m, rfl, _⟩ := h
    rfl
  · obtain ⟨v, r, many, rfl, ⟨a, rfl, hT⟩, hok, k⟩ := h
    refine ⟨_, pss_cons (ps_if (PW.pt (pw_or (pt_not (pt_val (pe_callB call_isi (by rfl) B.isi (by decide +kernel) (pa_cons (pv 0) (pa_cons (pe_bltn (v := .ty "tuple") (by rfl) B.b.tuple (by decide +kernel) rfl) pa_nil)))))
        (pw_or (pt_not (pt_truth (pv 0) (by intro _; rfl)))
          (pw_or1 (pt_not (pt_val (pe_callB call_isi (by rfl) B.isi (by decide +kernel) (pa_cons (pe_ix ix_tup (pv 0) pe_int (fun _ _ => rfl)) (pa_cons (pe_bltn (v := .ty "str") (by rfl) B.str (by decide +kernel) rfl) pa_nil)))))))))
        (pss_one (ps_ret pe_bl)) pss_nil)
      (pss_cons (ps_set (i := 2) scRow.nd rfl (Or.inl rfl) (pe_getW G.signsAt (pe_gref G.signs) (pe_ix ix_tup (pv 0) pe_int (fun _ _ => rfl)) ⟨by rfl, by rfl, by rfl, by rfl⟩))
      (pss_cons (ps_if (PW.pt (pw_or (pt_cmpR op_isN (pv 2) pe_non (nomark _)) (pw_or1 (pt_cmpR op_ne (pe_callB call_len_seq (by rfl) B.b.len PySem.boot_len (pa_cons (pv 0) pa_nil)) (pe_op op_add (pe_callB call_len_str (by rfl) B.b.len PySem.boot_len (pa_cons (pv 2) pa_nil)) pe_int) (nomark _))))) (pss_one (ps_ret pe_bl)) pss_nil)
      (pss_one (ps_ret (pe_callB (cr_all rfl) (by rfl) B.all (by decide +kernel) (pa_cons
        (pe_lc (own := [("sign", 3), ("x", 4)]) (g := gTup K 2 (gCons (gName 3) (gCons (gName 4) gNil))) (by rfl) scRow.nd (pi_zipST (by rfl) B.zip (pa_cons (pv 2) (pa_cons (pe_slice sl_tupA (pv 0) (po_some pe_int) po_none) pa_nil)))
          (blkOk_by (own := [("sign", 3), ("x", 4)]) (N := nsRow) (sc := defScope sRow) (by decide +kernel))
          (fun _ _ _ _ _ => pg_tup rfl (pgs_cons (pg_name (i := 3) scRow.nd rfl (Or.inl rfl)) (pgs_cons (pg_name (i := 4) scRow.nd rfl (Or.inl rfl)) pgs_nil))) (fun _ _ _ _ _ => pts_nil)
          (fun _ _ _ _ _ => pe_cal W hr (pa_cons (pv 4) (pa_cons (pe_cal M hr (pa_cons (pv 3) (pa_cons (pv 1) pa_nil))) pa_nil)))) pa_nil)))))), ?_⟩
    have hv := r.vals_eq
    have hlen : r.vals.length = r.args.length + 1 := by rw [hv, List.length_cons, List.length_map]
    have h0 : atI r.vals 0 = some (.str r.word) := by rw [hv]; exact atI_nat (j := 0) rfl
    have hle : r.args.length ≤ 3 := by cases r <;> simp [Rw.args]
    refine ⟨_, rfl, _, _, _, _, true, rfl, .ty "tuple", ty_tup hT, kit _ _ (by decide +kernel), true, rfl, iteF ?_⟩
    refine ⟨_, rfl, true, .inr (.inl ⟨r.vals, hT, by rw [hv]; rfl⟩), iteF ?_⟩
    refine ⟨_, rfl, a, _, _, _, rfl, rfl, hT, h0, _, _, _, _, true, rfl, .ty "str", .base (.str _), kit _ _ (by decide +kernel), true, rfl, iteF ?_⟩
    refine ⟨rfl, _, rfl, a, _, _, _, rfl, rfl, hT, h0, _, rfl, ?_⟩
    rw [r.signs_lk]
    refine ⟨_, rfl, rfl, ?_⟩
    refine ⟨_, rfl, if_f (by rfl) ?_⟩
    have hsz : r.signs.length ≤ sizeLine := by
      show r.signs.cps.size ≤ sizeLine
      rw [r.signs_size]
      exact small (by omega)
    refine ⟨_, rfl, a, _, rfl, .inr hT, _, rfl, _, rfl, hsz, _, _, rfl, rfl, rfl, _, rfl, ?_⟩
    have ne1 : (!decide (V.int (r.vals.length : Int) = V.int ((r.signs.length : Int) + 1))) = false := by
      have e : V.int (r.vals.length : Int) = V.int ((r.signs.length : Int) + 1) := by
        show V.int (r.vals.length : Int) = V.int ((r.signs.cps.size : Int) + 1)
        rw [hlen, r.signs_size]
        exact congrArg V.int (by omega)
      rw [decide_eq_true e]
      rfl
    refine if_f ne1 ?_
    refine ⟨_, rfl, _, rfl, 1, rfl, a, r.vals, rfl, hT, fun hw => ?_, fun _ p hp => ?_⟩
    · have h1 := hw.1
      have h2 : HT.sIx r.vals.length 0 (some (1 : Int)) = min 1 r.vals.length := HT.sIx_nat _ _ 1
      rw [h2, hlen] at h1
      omega
    have hcut : cutV r.vals (some 1) none = r.args.map V.int := by
      unfold cutV
      rw [show HT.sIx r.vals.length 0 (some (1 : Int)) = min 1 r.vals.length from HT.sIx_nat _ _ 1, HT.sIx_none, hlen, show min 1 (r.args.length + 1) = 1 by omega, hv]
      show List.take (r.args.length + 1 - 1) (r.args.map V.int) = r.args.map V.int
      exact List.take_of_length_le (by rw [List.length_map]; omega)
    have s1 := same_new hp (.tup (cutV r.vals (some 1) none))
    refine ⟨r.signs, p, r.args.map V.int, rfl, tup_of (by rw [upd_same, hcut]), fun D hD => ?_⟩
    have hD1 : H D = none := s1.free hD
    have npD : p ≠ D := ne_of_none upd_same hD
    refine lc_it (walkST (K := K) (x := r.signs) (b := p) (ys := r.args.map V.int) (by rw [r.signs_size, List.length_map])) (fun i H' => Trues H D i H' ∧ H' p = some (.tup (r.args.map V.int)))
      ⟨⟨upd_same, s1.trans (same_new hD _)⟩, by rw [upd_ne npD, upd_same, hcut]⟩ (fun i H' _ h => tup_of h.2) ?_ ?_
    · rintro i x H1 H2 hi ⟨hT1, hp1⟩ ⟨T, c, y, rfl, nT, rfl, hc, hy⟩
      obtain ⟨c0, hc0, rfl⟩ := Option.map_eq_some_iff.mp hc
      obtain ⟨z, hz, rfl⟩ := map_get hy
      obtain ⟨z0, z1⟩ := Rw.args_ok hok hc0 hz
      refine ⟨T, [.str ⟨#[c0]⟩, .int z], rfl, tup_of upd_same, rfl, .str ⟨#[c0]⟩, [.int z], rfl, .int z, [], rfl, rfl, rfl, yes_if ?_⟩
      refine ⟨_, rfl, _, rfl, _, rfl, ⟨#[c0]⟩, many, rfl, z, mostFor ⟨#[c0]⟩ many, rfl, ?_⟩
      have sT := same_new nT (.tup [.str ⟨#[c0]⟩, .int z])
      have e1 : decide (0 ≤ z ∧ z ≤ mostFor ⟨#[c0]⟩ many) = true := decide_eq_true ⟨z0, z1⟩
      refine ⟨_, sT _ _ hT1.1, ?_, ?_, ?_⟩
      · rw [List.length_map, List.length_replicate]
        rw [List.length_map] at hi
        exact small1000 (by omega)
      · rw [e1]
        exact (hT1.same sT).step hD1
      · rw [upd_ne npD]
        exact sT _ _ hp1
    · rintro H' ⟨⟨h1, h2⟩, _⟩
      refine ⟨D, _, rfl, SqL.of h1, ?_⟩
      rw [all_true]
      exact k H' h2
end
end LB
namespace LB
open PySem L2
theorem walk_zipT {K : PySem.W.Frag} {a b : Addr} {xs ys : List V} (hl : xs.length = ys.length) : Walk (RZ.ItzT K a b) xs.length (fun H => SqT K H a xs ∧ SqT K H b ys) (YPair (fun i => xs[i]?) (fun i => ys[i]?)) := by
  refine ⟨fun i _ hi q => ?_, fun _ q => ⟨xs, ys, q.1, q.2, by omega⟩, fun i H v H' _ q y => ?_⟩
  · have h2 : i < ys.length := by omega
    exact ⟨xs, ys, xs[i], ys[i], q.1, q.2, by simp [hi], by simp [h2]⟩
  · obtain ⟨T, x, z, h1, h2, h3, h4, h5⟩ := y
    exact ⟨T, x, z, h1, h2, h3, h4 xs q.1, h5 ys q.2⟩
theorem same_prog {K : PySem.W.Frag} {a : Addr} {H H' : Hp} {rs : List Rw} (s : Same H H') (h : ProgAt K H a rs) : ProgAt K H' a rs := by
  obtain ⟨vs, q, hl, g⟩ := h
  refine ⟨vs, same_tup s q, hl, fun i r e => ?_⟩
  obtain ⟨v, e1, b, e2, e3⟩ := g i r e
  exact ⟨v, e1, b, e2, same_tup s e3⟩
/-- a drawn program -/
def RsOk (rs : List Rw) : Prop := 1 ≤ rs.length ∧ rs.length ≤ 200 ∧ ∀ r, r ∈ rs → r.ok rs.length
end LB
namespace LB
open PySem L2
theorem keys_tup {K : PySem.W.Frag} {H : Hp} {t : Addr} {xs : List V} (h : SqT K H t xs) (n : xs.length ≤ 9) : True := trivial
/-- which number of a mill tells how late a row's worth comes -/
def Rw.lix : Rw → Option Int
  | .put _ _ => some 0 | .move _ _ => some 0 | .add _ _ _ => some 0 | .take _ _ _ => some 0 | .times _ _ _ => some 2 | .get _ _ => some 1 | _ => none
/-- the box that a row's worth comes into -/
def Rw.box : Rw → Option Int
  | .put b _ => some b | .move b _ => some b | .add b _ _ => some b | .take b _ _ => some b | .times b _ _ => some b | .get b _ => some b | _ => none
theorem Rw.late_lk (r : Rw) : lk lateTab r.word = r.lix.map V.int := by cases r <;> rfl
theorem Rw.box_at {r : Rw} {b : Int} (h : r.box = some b) : r.args[0]? = some b := by cases r <;> first | exact h | cases h
theorem Rw.box_lix (r : Rw) : r.box.isSome = r.lix.isSome := by cases r <;> rfl
/-- how late a row's worth comes on a mill -/
def lateOf (ms : List Int) (r : Rw) : Nat := match r.lix with
  | some i => (ms.getD i.toNat 0).toNat
  | none => 0
def jumpOf (ms : List Int) : Int := ms.getD 3 0
def Rw.stops : Rw → Bool
  | .stop => true
  | _ => false
section
variable {P : Program} {w : World} {K : PySem.W.Frag} {mg : Str → Option Value} {base : Heap}
def spMade (K : PySem.W.Frag) : Sp := fun vs H Q _ => ∃ (v : V) (r : Rw), vs = [v] ∧ RowAt K H v r ∧ Q ((r.box.map V.int).getD .non) H
theorem scMade : FnScope ["row"] ["row"] (defScope sMade) := ⟨rfl, rfl, rfl, by decide +kernel, rfl, by decide +kernel, by decide +kernel⟩
theorem ok_made {f dS dL tM : Addr} {fd : FuncData} (F : Fun K "made_in" "made_in" sMade f fd) (G : Gs K w mg dS dL tM) : FnOk P w K mg base CX0 1 f fd ["row"] (spMade K) := by
  refine F.ok scMade (fun vs H Q E h => ?_) (fun cdv A outer s H vs Q E hr h => ?_)
  · obtain ⟨v, r, rfl, _⟩ := h
    rfl
  · obtain ⟨v, r, rfl, ⟨a, rfl, hT⟩, k⟩ := h
    refine ⟨_, pss_one (ps_ret (pe_ifExp (pt_cmpR (op_inW G.lateAt) (pe_ix ix_tup (pv 0) pe_int (fun _ _ => rfl)) (pe_gref G.late) (by rfl)) (pe_ix ix_tup (pv 0) pe_int (fun _ _ => rfl)) pe_non)), ?_⟩
    have h0 : atI r.vals 0 = some (.str r.word) := by rw [r.vals_eq]; exact atI_nat (j := 0) rfl
    refine ⟨_, rfl, a, _, _, _, rfl, rfl, hT, h0, _, rfl, rfl, _, rfl, ?_⟩
    have hl : (lk lateTab r.word).isSome = r.box.isSome := by rw [r.late_lk, r.box_lix, Option.isSome_map]
    rw [hl]
    cases e : r.box with
    | none =>
      rw [e] at k
      exact iteF k
    | some b =>
      rw [e] at k
      refine iteT ⟨_, rfl, a, _, _, .int b, rfl, rfl, hT, ?_, k⟩
      rw [r.vals_eq]
      refine atI_nat (j := 1) ?_
      show (r.args.map V.int)[0]? = some (.int b)
      rw [List.getElem?_map, Rw.box_at e]
      rfl
def spLate (K : PySem.W.Frag) : Sp := fun vs H Q _ => ∃ (v : V) (r : Rw) (m : Addr) (ms : List Int), vs = [v, .ref m] ∧ RowAt K H v r ∧ MillAt K H m ms ∧ MillOk ms ∧ Q (.int (lateOf ms r)) H
theorem scLate : FnScope ["row", "mill"] ["row", "mill"] (defScope sLate) := ⟨rfl, rfl, rfl, by decide +kernel, rfl, by decide +kernel, by decide +kernel⟩
theorem late_at {ms : List Int} {r : Rw} {i : Int} (hM : MillOk ms) (h : r.lix = some i) : atI (ms.map V.int) i = some (.int (lateOf ms r)) := by
  obtain ⟨p, g, t, j, rfl, h1, h2, h3, h4⟩ := hM
  unfold lateOf
  rw [h]
  have hi : i = 0 ∨ i = 1 ∨ i = 2 := by
    cases r <;> first | (cases h; decide) | cases h
  rcases hi with rfl | rfl | rfl
  · show some (V.int p) = some (V.int (p.toNat : Int))
    rw [Int.toNat_of_nonneg h1.1]
  · show some (V.int g) = some (V.int (g.toNat : Int))
    rw [Int.toNat_of_nonneg h2.1]
  · show some (V.int t) = some (V.int (t.toNat : Int))
    rw [Int.toNat_of_nonneg h3.1]
theorem ok_late {f dS dL tM : Addr} {fd : FuncData} (F : Fun K "lateness" "lateness" sLate f fd) (G : Gs K w mg dS dL tM) : FnOk P w K mg base CX0 1 f fd ["row", "mill"] (spLate K) := by
  refine F.ok scLate (fun vs H Q E h => ?_) (fun cdv A outer s H vs Q E hr h => ?_)
  · obtain ⟨v, r, m, ms, rfl, _⟩ := h
    rfl
  · obtain ⟨v, r, m, ms, rfl, ⟨a, rfl, hT⟩, hM, hMo, k⟩ := h
    refine ⟨_, pss_one (ps_ret (pe_ifExp (pt_cmpR (op_inW G.lateAt) (pe_ix ix_tup (pv 0) pe_int (fun _ _ => rfl)) (pe_gref G.late) (by rfl)) (pe_ix ix_tup (pv 1) (pe_ix ix_kdict (pe_gref G.late) (pe_ix ix_tup (pv 0) pe_int (fun _ _ => rfl)) (fun _ _ => rfl)) (fun _ _ => rfl)) pe_int)), ?_⟩
    have h0 : atI r.vals 0 = some (.str r.word) := by rw [r.vals_eq]; exact atI_nat (j := 0) rfl
    refine ⟨_, rfl, a, _, _, _, rfl, rfl, hT, h0, _, rfl, rfl, _, rfl, ?_⟩
    have hl : (lk lateTab r.word).isSome = r.lix.isSome := by rw [r.late_lk, Option.isSome_map]
    rw [hl]
    cases e : r.lix with
    | none =>
      have z : lateOf ms r = 0 := by unfold lateOf; rw [e]
      rw [z] at k
      exact iteF k
    | some i =>
      refine iteT ⟨_, rfl, _, rfl, a, _, _, _, rfl, rfl, hT, h0, _, _, .int i, rfl, rfl, G.lateAt.item (X := _) (by rw [r.late_lk, e]; rfl), m, _, _, _, rfl, rfl, hM, late_at hMo e, k⟩
/-! ### the other checks -/
def spChkM (K : PySem.W.Frag) : Sp := fun vs H Q _ => ∃ (m : Addr) (ms : List Int), vs = [.ref m] ∧ MillAt K H m ms ∧ MillOk ms ∧ ∀ H', Same H H' → Q .non H'
abbrev nsChkM : List Str := ["mill", "x", "most"]
theorem scChkM : FnScope nsChkM ["mill"] (defScope sChkM) := ⟨rfl, rfl, rfl, by decide +kernel, rfl, by decide +kernel, by decide +kernel⟩
theorem mill_le {ms : List Int} (h : MillOk ms) {i : Nat} {x y : V} (hx : (ms.map V.int)[i]? = some x) (hy : [V.int 2, V.int 4, V.int 4, V.int 3][i]? = some y) : ∃ a b : Int, x = .int a ∧ y = .int b ∧ 0 ≤ a ∧ a ≤ b := by
  obtain ⟨p, g, t, j, rfl, h1, h2, h3, h4⟩ := h
  match i, hx, hy with
  | 0, hx, hy => exact ⟨p, 2, (Option.some.inj hx).symm, (Option.some.inj hy).symm, h1.1, h1.2⟩
  | 1, hx, hy => exact ⟨g, 4, (Option.some.inj hx).symm, (Option.some.inj hy).symm, h2.1, h2.2⟩
  | 2, hx, hy => exact ⟨t, 4, (Option.some.inj hx).symm, (Option.some.inj hy).symm, h3.1, h3.2⟩
  | 3, hx, hy => exact ⟨j, 3, (Option.some.inj hx).symm, (Option.some.inj hy).symm, h4.1, h4.2⟩
theorem ok_chkM {f dS dL tM : Addr} {fd : FuncData} (F : Fun K "check_mill" "check_mill" sChkM f fd) (W : Cal P w K mg base 1 "is_whole" ["x", "most"] spWhole) (B : Bl2 mg) (G : Gs K w mg dS dL tM) : FnOk P w K mg base CX0 2 f fd ["mill"] (spChkM K) := by
  refine F.ok scChkM (fun vs H Q E h => ?_) (fun cdv A outer s H vs Q E hr h => ?_)
  · obtain ⟨m, ms, rfl, _⟩ := h
    rfl
  · obtain ⟨m, ms, rfl, hM, hMo, k⟩ := h
    have hml : ms.length = 4 := by obtain ⟨_, _, _, _, rfl, _⟩ := hMo; rfl
    refine ⟨_, pss_cons (ps_if (pt_cmpR op_ne (pe_callB call_len_seq (by rfl) B.b.len PySem.boot_len (pa_cons (pv 0) pa_nil)) (pe_callB call_len_seq (by rfl) B.b.len PySem.boot_len (pa_cons (pe_gref G.mostLate) pa_nil)) (nomark _)) (pss_one ps_never) pss_nil)
      (pss_one (ps_if (pt_not (pt_val (pe_callB (cr_all rfl) (by rfl) B.all (by decide +kernel) (pa_cons
        (pe_lc (own := [("x", 1), ("most", 2)]) (g := gTup K 2 (gCons (gName 1) (gCons (gName 2) gNil))) (by rfl) scChkM.nd (RZ.pi_zipA (by rfl) B.zip (pa_cons (pv 0) (pa_cons (pe_gref G.mostLate) pa_nil)))
          (blkOk_by (own := [("x", 1), ("most", 2)]) (N := nsChkM) (sc := defScope sChkM) (by decide +kernel))
          (fun _ _ _ _ _ => pg_tup rfl (pgs_cons (pg_name (i := 1) scChkM.nd rfl (Or.inl rfl)) (pgs_cons (pg_name (i := 2) scChkM.nd rfl (Or.inl rfl)) pgs_nil))) (fun _ _ _ _ _ => pts_nil)
          (fun _ _ _ _ _ => pe_cal W hr (pa_cons (pv 1) (pa_cons (pv 2) pa_nil)))) pa_nil)))) (pss_one ps_never) pss_nil)), ?_⟩
    have ne1 : (!decide (V.int ((ms.map V.int).length : Int) = V.int (([V.int 2, V.int 4, V.int 4, V.int 3] : List V).length : Int))) = false := by
      rw [List.length_map, hml]
      rfl
    refine ⟨_, rfl, m, _, rfl, .inr hM, tM, _, rfl, .inr G.mostLateAt.at_, rfl, _, rfl, if_f ne1 ?_⟩
    refine ⟨_, rfl, m, tM, _, _, rfl, .inr ⟨hM, G.mostLateAt.at_, fun D hD => ?_⟩⟩
    refine lc_it (walk_zipT (K := K) (a := m) (b := tM) (xs := ms.map V.int) (ys := [.int 2, .int 4, .int 4, .int 3]) (by rw [List.length_map, hml]; rfl)) (fun i H' => Trues H D i H')
      ⟨upd_same, same_new hD _⟩ (fun i H' _ h => ⟨same_tup h.2 hM, G.mostLateAt.at_⟩) ?_ ?_
    · rintro i x H1 H2 hi hT1 ⟨T, x1, y1, rfl, nT, rfl, hx, hy⟩
      obtain ⟨a, b, rfl, rfl, a0, a1⟩ := mill_le hMo hx hy
      refine ⟨T, [.int a, .int b], rfl, tup_of upd_same, rfl, .int a, [.int b], rfl, .int b, [], rfl, rfl, rfl, yes_if ?_⟩
      refine ⟨_, rfl, _, rfl, a, b, rfl, ?_⟩
      have sT := same_new nT (.tup [.int a, .int b])
      refine ⟨_, sT _ _ hT1.1, ?_, ?_⟩
      · rw [List.length_map, List.length_replicate]
        rw [List.length_map, hml] at hi
        exact small1000 (by omega)
      · rw [decide_eq_true (⟨a0, a1⟩ : 0 ≤ a ∧ a ≤ b)]
        exact (hT1.same sT).step hD
    · rintro H' ⟨h1, h2⟩
      refine ⟨D, _, rfl, SqL.of h1, _, rfl, ?_⟩
      rw [all_true]
      exact iteF (k H' h2)
end
end LB
namespace LB
open PySem L2
/-- data of so many lists within one another, not too long -/
inductive Sm : Nat → PyData → Prop
  | non (n : Nat) : Sm n .none
  | bl (n : Nat) (b : Bool) : Sm n (.bool b)
  | int (n : Nat) (i : Int) : Sm n (.int i)
  | str (n : Nat) (x : Str) : Sm n (.str x)
  | lst {n : Nat} {ds : List PyData} (h : ds.length ≤ 5000) (a : ∀ e, e ∈ ds → Sm n e) : Sm (n + 1) (.list ds)
  | tup {n : Nat} {ds : List PyData} (h : ds.length ≤ 5000) (a : ∀ e, e ∈ ds → Sm n e) : Sm (n + 1) (.tuple ds)
section
variable {P : Program} {w : World} {K : PySem.W.Frag} {mg : Str → Option Value} {base : Heap}
def spA (K : PySem.W.Frag) : Nat → Sp
  | 0 => fun _ _ _ _ => False
  | n + 1 => fun vs H Q _ => ∃ (x y : V) (d : PyData), vs = [x, y] ∧ Dp K H x d ∧ Dp K H y d ∧ Sm n d ∧ ∀ H', Same H H' → Q (.bl true) H'
abbrev nsAlike : List Str := ["_law_found", "_law_due", "_law_k"]
abbrev psAlike : List Str := ["_law_found", "_law_due"]
theorem scAlike : FnScope nsAlike psAlike (defScope sAlike) := ⟨rfl, rfl, rfl, by decide +kernel, rfl, by decide +kernel, by decide +kernel⟩
theorem same_lst {K : PySem.W.Frag} {H H' : Hp} {a : Addr} {xs : List V} (s : Same H H') (h : SqL K H a xs) : SqL K H' a xs := s.seq h
mutual
theorem dp_same {K : PySem.W.Frag} {H H' : Hp} (s : Same H H') : ∀ {d : PyData} {x : V}, Dp K H x d → Dp K H' x d
  | .none, _, h => by cases h; exact .non
  | .bool b, _, h => by cases h; exact .bl b
  | .int i, _, h => by cases h; exact .int i
  | .str z, _, h => by cases h; exact .str z
  | .list ds, _, h => by
    cases h with
    | lst h a => exact .lst (s.seq h) (dpAll_same s a)
  | .tuple ds, _, h => by
    cases h with
    | tup h a => exact .tup (same_tup s h) (dpAll_same s a)
  | .dict _, _, h => by cases h
theorem dpAll_same {K : PySem.W.Frag} {H H' : Hp} (s : Same H H') : ∀ {ds : List PyData} {xs : List V}, DpAll K H xs ds → DpAll K H' xs ds
  | [], _, h => by cases h; exact .nil
  | d :: ds, _, h => by
    cases h with
    | cons h a => exact .cons (dp_same s h) (dpAll_same s a)
end
theorem dpAll_get {K : PySem.W.Frag} {H : Hp} : ∀ {ds : List PyData} {xs : List V} {i : Nat} {d : PyData}, DpAll K H xs ds → ds[i]? = some d → ∃ x, xs[i]? = some x ∧ Dp K H x d
  | [], _, _, _, _, e => by simp at e
  | d0 :: ds, _, i, d, h, e => by
    cases h with
    | cons h a =>
      cases i with
      | zero => exact ⟨_, rfl, by rw [← Option.some.inj e]; exact h⟩
      | succ i =>
        obtain ⟨x, e1, e2⟩ := dpAll_get (i := i) a e
        exact ⟨x, e1, e2⟩
theorem dpAll_len {K : PySem.W.Frag} {H : Hp} : ∀ {ds : List PyData} {xs : List V}, DpAll K H xs ds → xs.length = ds.length
  | [], _, h => by cases h; rfl
  | d :: ds, _, h => by
    cases h with
    | cons h a => simp [dpAll_len a]
theorem ok_alike {n : Nat} {f : Addr} {fd : FuncData} (F : Fun K "_law_alike" "_law_alike" sAlike f fd) (G : Cal P w K mg base n "_law_alike" psAlike (spA K n)) (B : Bl2 mg) : FnOk P w K mg base CX0 (n + 1) f fd psAlike (spA K (n + 1)) := by
  refine F.ok scAlike (fun vs H Q E h => ?_) (fun cdv A outer s H vs Q E hr h => ?_)
  · obtain ⟨x, y, d, rfl, _⟩ := h
    rfl
  · obtain ⟨x, y, d, rfl, hx, hy, hd, k⟩ := h
    refine ⟨_, (pss_cons (ps_if (pt_val (pe_callB call_isiT (by rfl) B.isi (by decide +kernel) (pa_cons (pv 1) (pa_cons (pe_tup (pa_cons (pe_bltn (v := .ty "tuple") (by rfl) B.b.tuple (by decide +kernel) rfl) (pa_cons (pe_bltn (v := .ty "list") (by rfl) B.b.list (by decide +kernel) rfl) pa_nil))) pa_nil)))) (pss_cons (ps_if (PW.pt (pw_or (pt_not (pt_val (pe_callB call_isiT (by rfl) B.isi (by decide +kernel) (pa_cons (pv 0) (pa_cons (pe_tup (pa_cons (pe_bltn (v := .ty "tuple") (by rfl) B.b.tuple (by decide +kernel) rfl) (pa_cons (pe_bltn (v := .ty "list") (by rfl) B.b.list (by decide +kernel) rfl) pa_nil))) pa_nil))))) (pw_or1 (pt_cmpR op_ne (pe_callB call_isi (by rfl) B.isi (by decide +kernel) (pa_cons (pv 0) (pa_cons (pe_bltn (v := .ty "list") (by rfl) B.b.list (by decide +kernel) rfl) pa_nil))) (pe_callB call_isi (by rfl) B.isi (by decide +kernel) (pa_cons (pv 1) (pa_cons (pe_bltn (v := .ty "list") (by rfl) B.b.list (by decide +kernel) rfl) pa_nil))) (nomark _))))) (pss_one (ps_ret pe_bl)) pss_nil) (pss_cons (ps_if (pt_cmpR op_ne (pe_callB call_len_seq (by rfl) B.b.len PySem.boot_len (pa_cons (pv 0) pa_nil)) (pe_callB call_len_seq (by rfl) B.b.len PySem.boot_len (pa_cons (pv 1) pa_nil)) (nomark _)) (pss_one (ps_ret pe_bl)) pss_nil) (pss_one (ps_ret (pe_cmpR (op_eqD hr.units) (pe_lc (own := [("_law_k", 2)]) (g := gName 2) (by rfl) scAlike.nd (pi_range1 (by rfl) B.b.range (pa_cons (pe_callB call_len_seq (by rfl) B.b.len PySem.boot_len (pa_cons (pv 1) pa_nil)) pa_nil)) (blkOk_by (own := [("_law_k", 2)]) (N := nsAlike) (sc := defScope sAlike) (by decide +kernel)) (fun _ _ _ _ _ => (pg_name (i := 2) scAlike.nd rfl (Or.inl rfl))) (fun _ _ _ _ _ => pts_one (pt_not (pt_val (pe_cal G hr (pa_cons (pe_ix (show IxR _ (rIx K) from ix_seq) (pv 0) (pv 2) (fun _ _ => rfl)) (pa_cons (pe_ix (show IxR _ (rIx K) from ix_seq) (pv 1) (pv 2) (fun _ _ => rfl)) pa_nil)))))) (fun _ _ _ _ _ => (pv 2))) (pe_lst pa_nil) (nomark _)))))) pss_nil) (pss_cons (ps_if (pt_cmpR op_isN (pv 1) pe_non (nomark _)) (pss_one (ps_ret (pe_cmpR op_isN (pv 0) pe_non (nomark _)))) pss_nil) (pss_cons (ps_if (pt_val (pe_callB call_isi (by rfl) B.isi (by decide +kernel) (pa_cons (pv 1) (pa_cons (pe_bltn (v := .ty "str") (by rfl) B.str (by decide +kernel) rfl) pa_nil)))) (pss_one (ps_ret (pe_and (pe_callB call_isi (by rfl) B.isi (by decide +kernel) (pa_cons (pv 0) (pa_cons (pe_bltn (v := .ty "str") (by rfl) B.str (by decide +kernel) rfl) pa_nil))) (pe_one (pe_cmpR op_eq (pv 0) (pv 1) (nomark _)))))) pss_nil) (pss_cons (ps_if (PW.pt (pw_or (pt_val (pe_callB call_isi (by rfl) B.isi (by decide +kernel) (pa_cons (pv 1) (pa_cons (pe_bltn (v := .ty "bool") (by rfl) B.bool (by decide +kernel) rfl) pa_nil)))) (pw_or1 (pt_val (pe_callB call_isi (by rfl) B.isi (by decide +kernel) (pa_cons (pv 0) (pa_cons (pe_bltn (v := .ty "bool") (by rfl) B.bool (by decide +kernel) rfl) pa_nil))))))) (pss_one (ps_ret (pe_and (pe_callB call_isi (by rfl) B.isi (by decide +kernel) (pa_cons (pv 1) (pa_cons (pe_bltn (v := .ty "bool") (by rfl) B.bool (by decide +kernel) rfl) pa_nil))) (pe_and (pe_callB call_isi (by rfl) B.isi (by decide +kernel) (pa_cons (pv 0) (pa_cons (pe_bltn (v := .ty "bool") (by rfl) B.bool (by decide +kernel) rfl) pa_nil))) (pe_one (pe_cmpR op_eq (pv 0) (pv 1) (nomark _))))))) pss_nil) (pss_one (ps_ret (pe_and (pe_callB call_isi (by rfl) B.isi (by decide +kernel) (pa_cons (pv 0) (pa_cons (pe_bltn (v := .ty "int") (by rfl) B.int (by decide +kernel) rfl) pa_nil))) (pe_one (pe_cmpR op_eq (pv 0) (pv 1) (nomark _)))))))))), ?_⟩
    -- what both are
    have tyT : ∀ (T : String), PySem.W.kitAny K (.type T) [.type "tuple", .type "list"] = (kitB T "tuple").bind fun b => if b then some true else (kitB T "list").bind fun c => some c := by
      intro T
      unfold PySem.W.kitAny
      rw [show PySem.W.kitOne K (.type T) (.type "tuple") = kitB T "tuple" from rfl]
      cases kitB T "tuple" with
      | none => rfl
      | some b =>
        cases b with
        | true => rfl
        | false =>
          unfold PySem.W.kitAny
          rw [show PySem.W.kitOne K (.type T) (.type "list") = kitB T "list" from rfl]
          cases kitB T "list" with
          | none => rfl
          | some b => cases b <;> rfl
    cases d with
    | dict _ => cases hx
    | none =>
      cases hx
      cases hy
      refine ⟨_, rfl, by show 2 ≤ sizeLine; decide, fun T hT => ⟨_, T, _, .type "NoneType", _, false, rfl, upd_same, .cons (.ty "tuple") (.cons (.ty "list") .nil), .base .non, (tyT "NoneType").trans (by decide +kernel), false, rfl, iteF ?_⟩⟩
      refine ⟨_, rfl, rfl, _, rfl, if_t (by rfl) ?_⟩
      exact ⟨_, rfl, rfl, k _ (same_new hT _)⟩
    | bool b =>
      cases hx
      cases hy
      refine ⟨_, rfl, by show 2 ≤ sizeLine; decide, fun T hT => ⟨_, T, _, .type "bool", _, false, rfl, upd_same, .cons (.ty "tuple") (.cons (.ty "list") .nil), .base (.bl b), (tyT "bool").trans (by decide +kernel), false, rfl, iteF ?_⟩⟩
      refine ⟨_, rfl, rfl, _, rfl, if_f (by rfl) ?_⟩
      refine ⟨_, rfl, _, _, _, _, false, rfl, .ty "str", .base (.bl b), kit _ _ (by decide +kernel), false, rfl, iteF ?_⟩
      refine ⟨_, rfl, _, _, _, _, true, rfl, .ty "bool", .base (.bl b), kit _ _ (by decide +kernel), true, rfl, iteT (iteT ?_)⟩
      refine ⟨_, rfl, _, _, _, _, true, rfl, .ty "bool", .base (.bl b), kit _ _ (by decide +kernel), true, rfl, iteT ⟨_, rfl, _, _, _, _, true, rfl, .ty "bool", .base (.bl b), kit _ _ (by decide +kernel), true, rfl, iteT ⟨_, rfl, _, rfl, rfl, ?_⟩⟩⟩
      show Q (.bl (decide (V.bl b = V.bl b))) _
      rw [decide_eq_true rfl]
      exact k _ (same_new hT _)
    | int z =>
      cases hx
      cases hy
      refine ⟨_, rfl, by show 2 ≤ sizeLine; decide, fun T hT => ⟨_, T, _, .type "int", _, false, rfl, upd_same, .cons (.ty "tuple") (.cons (.ty "list") .nil), .base (.int z), (tyT "int").trans (by decide +kernel), false, rfl, iteF ?_⟩⟩
      refine ⟨_, rfl, rfl, _, rfl, if_f (by rfl) ?_⟩
      refine ⟨_, rfl, _, _, _, _, false, rfl, .ty "str", .base (.int z), kit _ _ (by decide +kernel), false, rfl, iteF ?_⟩
      refine ⟨_, rfl, _, _, _, _, false, rfl, .ty "bool", .base (.int z), kit _ _ (by decide +kernel), false, rfl, iteF ⟨_, rfl, _, _, _, _, false, rfl, .ty "bool", .base (.int z), kit _ _ (by decide +kernel), false, rfl, iteF ?_⟩⟩
      refine ⟨_, rfl, _, _, _, _, true, rfl, .ty "int", .base (.int z), kit _ _ (by decide +kernel), true, rfl, iteT ⟨_, rfl, _, rfl, rfl, ?_⟩⟩
      show Q (.bl (decide (V.int z = V.int z))) _
      rw [decide_eq_true rfl]
      exact k _ (same_new hT _)
    | str z =>
      cases hx
      cases hy
      refine ⟨_, rfl, by show 2 ≤ sizeLine; decide, fun T hT => ⟨_, T, _, .type "str", _, false, rfl, upd_same, .cons (.ty "tuple") (.cons (.ty "list") .nil), .base (.str z), (tyT "str").trans (by decide +kernel), false, rfl, iteF ?_⟩⟩
      refine ⟨_, rfl, rfl, _, rfl, if_f (by rfl) ?_⟩
      refine ⟨_, rfl, _, _, _, _, true, rfl, .ty "str", .base (.str z), kit _ _ (by decide +kernel), true, rfl, iteT ?_⟩
      refine ⟨_, rfl, _, _, _, _, true, rfl, .ty "str", .base (.str z), kit _ _ (by decide +kernel), true, rfl, iteT ⟨_, rfl, _, rfl, rfl, ?_⟩⟩
      show Q (.bl (decide (V.str z = V.str z))) _
      rw [decide_eq_true rfl]
      exact k _ (same_new hT _)
    | list ds =>
      cases hx with
      | lst hp ap =>
      cases hy with
      | lst hq aq =>
      rename_i p xs q ys
      cases hd with
      | lst hlen hall =>
      rename_i m
      have lx := dpAll_len ap
      have ly := dpAll_len aq
      refine ⟨_, rfl, by show 2 ≤ sizeLine; decide, fun T hT => ⟨_, T, _, .type "list", _, true, rfl, upd_same, .cons (.ty "tuple") (.cons (.ty "list") .nil), ty_lst (same_lst (same_new hT _) hq), (tyT "list").trans (by decide +kernel), true, rfl, iteT ?_⟩⟩
      have s1 := same_new hT (.tup [.ty "tuple", .ty "list"])
      refine ⟨_, rfl, by show 2 ≤ sizeLine; decide, fun T2 hT2 => ⟨_, T2, _, .type "list", _, true, rfl, upd_same, .cons (.ty "tuple") (.cons (.ty "list") .nil), ty_lst (same_lst (s1.trans (same_new hT2 _)) hp), (tyT "list").trans (by decide +kernel), true, rfl, iteF ?_⟩⟩
      have s2 := s1.trans (same_new hT2 (.tup [.ty "tuple", .ty "list"]))
      refine ⟨_, rfl, _, _, _, _, true, rfl, .ty "list", ty_lst (same_lst s2 hp), kit _ _ (by decide +kernel), _, rfl, _, _, _, _, true, rfl, .ty "list", ty_lst (same_lst s2 hq), kit _ _ (by decide +kernel), rfl, _, rfl, if_f (by rfl) ?_⟩
      have e1 : (!decide (V.int (xs.length : Int) = V.int (ys.length : Int))) = false := by
        rw [lx, ly, decide_eq_true rfl]
        rfl
      refine ⟨_, rfl, p, _, rfl, .inl (same_lst s2 hp), _, rfl, q, _, rfl, .inl (same_lst s2 hq), rfl, _, rfl, if_f e1 ?_⟩
      refine ⟨_, rfl, q, _, rfl, .inl (same_lst s2 hq), (ys.length : Int), rfl, by omega, by omega, fun D hD => ?_⟩
      have hD0 : H D = none := s2.free hD
      refine lc_range (lo := 0) (n := (ys.length : Int).toNat) (fun i H' => H' D = some (.lst []) ∧ Same H H') ⟨upd_same, s2.trans (same_new hD _)⟩ ?_ ?_
      · rintro i H1 hi ⟨hD1, sm⟩
        have hi' : i < ds.length := by rw [Int.toNat_natCast, ly] at hi; exact hi
        obtain ⟨x1, hx1, dx1⟩ := dpAll_get ap (List.getElem?_eq_getElem hi')
        obtain ⟨y1, hy1, dy1⟩ := dpAll_get aq (List.getElem?_eq_getElem hi')
        refine ⟨rfl, _, rfl, _, rfl, .inl ⟨p, _, _, x1, rfl, rfl, same_lst sm hp, at_of (j := i) (by omega) hx1, _, rfl, _, rfl, .inl ⟨q, _, _, y1, rfl, rfl, same_lst sm hq, at_of (j := i) (by omega) hy1, ?_⟩⟩⟩
        refine ⟨x1, y1, ds[i], rfl, dp_same sm dx1, dp_same sm dy1, hall _ (List.getElem_mem hi'), fun H2 sm2 => ⟨true, rfl, iteF ⟨sm2 _ _ hD1, sm.trans sm2⟩⟩⟩
      · rintro H1 ⟨hD1, sm⟩
        refine ⟨by show 0 ≤ sizeLine; decide, fun E0 hE0 => ?_⟩
        have s3 := same_new hE0 (.lst [])
        refine ⟨_, _, Dp.ints (ns := []) (SqL.of (s3 _ _ hD1)), Dp.ints (ns := []) (SqL.of upd_same), shaped_ints [], shaped_ints [], ?_⟩
        exact k _ (sm.trans s3)
    | tuple ds =>
      cases hx with
      | tup hp ap =>
      cases hy with
      | tup hq aq =>
      rename_i p xs q ys
      cases hd with
      | tup hlen hall =>
      rename_i m
      have lx := dpAll_len ap
      have ly := dpAll_len aq
      refine ⟨_, rfl, by show 2 ≤ sizeLine; decide, fun T hT => ⟨_, T, _, .type "tuple", _, true, rfl, upd_same, .cons (.ty "tuple") (.cons (.ty "list") .nil), ty_tup (same_tup (same_new hT _) hq), (tyT "tuple").trans (by decide +kernel), true, rfl, iteT ?_⟩⟩
      have s1 := same_new hT (.tup [.ty "tuple", .ty "list"])
      refine ⟨_, rfl, by show 2 ≤ sizeLine; decide, fun T2 hT2 => ⟨_, T2, _, .type "tuple", _, true, rfl, upd_same, .cons (.ty "tuple") (.cons (.ty "list") .nil), ty_tup (same_tup (s1.trans (same_new hT2 _)) hp), (tyT "tuple").trans (by decide +kernel), true, rfl, iteF ?_⟩⟩
      have s2 := s1.trans (same_new hT2 (.tup [.ty "tuple", .ty "list"]))
      refine ⟨_, rfl, _, _, _, _, false, rfl, .ty "list", ty_tup (same_tup s2 hp), kit _ _ (by decide +kernel), _, rfl, _, _, _, _, false, rfl, .ty "list", ty_tup (same_tup s2 hq), kit _ _ (by decide +kernel), rfl, _, rfl, if_f (by rfl) ?_⟩
      have e1 : (!decide (V.int (xs.length : Int) = V.int (ys.length : Int))) = false := by
        rw [lx, ly, decide_eq_true rfl]
        rfl
      refine ⟨_, rfl, p, _, rfl, .inr (same_tup s2 hp), _, rfl, q, _, rfl, .inr (same_tup s2 hq), rfl, _, rfl, if_f e1 ?_⟩
      refine ⟨_, rfl, q, _, rfl, .inr (same_tup s2 hq), (ys.length : Int), rfl, by omega, by omega, fun D hD => ?_⟩
      have hD0 : H D = none := s2.free hD
      refine lc_range (lo := 0) (n := (ys.length : Int).toNat) (fun i H' => H' D = some (.lst []) ∧ Same H H') ⟨upd_same, s2.trans (same_new hD _)⟩ ?_ ?_
      · rintro i H1 hi ⟨hD1, sm⟩
        have hi' : i < ds.length := by rw [Int.toNat_natCast, ly] at hi; exact hi
        obtain ⟨x1, hx1, dx1⟩ := dpAll_get ap (List.getElem?_eq_getElem hi')
        obtain ⟨y1, hy1, dy1⟩ := dpAll_get aq (List.getElem?_eq_getElem hi')
        refine ⟨rfl, _, rfl, _, rfl, .inr (.inl ⟨p, _, _, x1, rfl, rfl, same_tup sm hp, at_of (j := i) (by omega) hx1, _, rfl, _, rfl, .inr (.inl ⟨q, _, _, y1, rfl, rfl, same_tup sm hq, at_of (j := i) (by omega) hy1, ?_⟩)⟩)⟩
        refine ⟨x1, y1, ds[i], rfl, dp_same sm dx1, dp_same sm dy1, hall _ (List.getElem_mem hi'), fun H2 sm2 => ⟨true, rfl, iteF ⟨sm2 _ _ hD1, sm.trans sm2⟩⟩⟩
      · rintro H1 ⟨hD1, sm⟩
        refine ⟨by show 0 ≤ sizeLine; decide, fun E0 hE0 => ?_⟩
        have s3 := same_new hE0 (.lst [])
        refine ⟨_, _, Dp.ints (ns := []) (SqL.of (s3 _ _ hD1)), Dp.ints (ns := []) (SqL.of upd_same), shaped_ints [], shaped_ints [], ?_⟩
        exact k _ (sm.trans s3)
theorem alike_all {f : Addr} {fd : FuncData} (F : Fun K "_law_alike" "_law_alike" sAlike f fd) (m : mg "_law_alike" = some (.ref f)) (b : Binds K fd psAlike []) (B : Bl2 mg) : ∀ n : Nat, FnOk P w K mg base CX0 n f fd psAlike (spA K n)
  | 0 => ⟨fun _ _ _ _ h => h.elim, fun _ _ _ _ _ _ _ _ _ _ _ _ _ h => h.elim⟩
  | n + 1 => ok_alike F (Cal.mk' (alike_all F m b B n) m F.kp b) B
end
end LB
namespace LB
open PySem L2
/-- the boxes that a row looks at -/
def Rw.looks : Rw → List Int
  | .move _ c => [c] | .add _ c d => [c, d] | .take _ c d => [c, d] | .times _ c d => [c, d] | .get _ c => [c] | .set c d => [c, d] | .say c => [c] | .iff c _ => [c] | _ => []
def lkTake (r : Rw) (i : Nat) : List Int := ((r.signs.cps.toList.zip r.args).take i).filterMap fun p => if p.1 = 98 then some p.2 else none
theorem lkTake_all (r : Rw) : lkTake r r.args.length = r.looks := by cases r <;> rfl
theorem lkTake_succ {r : Rw} {i c : Nat} {z : Int} (hc : r.signs.cps[i]? = some c) (hz : r.args[i]? = some z) : lkTake r (i + 1) = lkTake r i ++ (if c = 98 then [z] else []) := by
  have hc' : r.signs.cps.toList[i]? = some c := sg hc
  have hp : (r.signs.cps.toList.zip r.args)[i]? = some (c, z) := by
    rw [List.getElem?_zip_eq_some]
    exact ⟨hc', hz⟩
  unfold lkTake
  rw [List.take_add_one, hp, List.filterMap_append]
  by_cases e : c = 98 <;> simp [e]
theorem sign_b (c : Nat) : decide (V.str ⟨#[c]⟩ = V.str "b") = decide (c = 98) := by
  by_cases e : c = 98
  · rw [e]
    have : decide (V.str ⟨#[98]⟩ = V.str "b") = true := by decide +kernel
    rw [this]
    rfl
  · rw [decide_eq_false e]
    refine decide_eq_false fun h => e ?_
    have h1 : (⟨#[c]⟩ : Str) = "b" := by injection h
    have h2 : (#[c] : Array Nat) = #[98] := congrArg Str.cps h1
    have h3 := congrArg (fun a : Array Nat => a[0]?) h2
    simpa using h3
section
variable {P : Program} {w : World} {K : PySem.W.Frag} {mg : Str → Option Value} {base : Heap}
def spLooked (K : PySem.W.Frag) : Sp := fun vs H Q _ => ∃ (v : V) (r : Rw), vs = [v] ∧ RowAt K H v r ∧ ∀ (D : Addr) (H' : Hp), H D = none → Same H H' → H' D = some (.lst (r.looks.map V.int)) → Q (.ref D) H'
theorem scLooked : FnScope ["row", "sign", "box"] ["row"] (defScope s_looked_at) := ⟨rfl, rfl, rfl, by decide +kernel, rfl, by decide +kernel, by decide +kernel⟩
theorem ok_looked {f dS dL tM : Addr} {fd : FuncData} (F : Fun K "looked_at" "looked_at" s_looked_at f fd) (B : Bl2 mg) (G : Gs K w mg dS dL tM) : FnOk P w K mg base CX0 1 f fd ["row"] (spLooked K) := by
  refine F.ok scLooked (fun vs H Q E h => ?_) (fun cdv A outer s H vs Q E hr h => ?_)
  · obtain ⟨v, r, rfl, _⟩ := h
    rfl
  · obtain ⟨v, r, rfl, ⟨a, rfl, hT⟩, k⟩ := h
    refine ⟨_, (pss_one (ps_ret (pe_lc (own := [("sign", 1), ("box", 2)]) (g := gTup K 2 (gCons (gName 1) (gCons (gName 2) gNil))) (by rfl) scLooked.nd (pi_zipST (by rfl) B.zip (pa_cons (pe_ix ix_kdict (pe_gref G.signs) (pe_ix ix_tup (pv 0) pe_int (fun _ _ => rfl)) (fun _ _ => rfl)) (pa_cons (pe_slice sl_tupA (pv 0) (po_some pe_int) po_none) pa_nil))) (blkOk_by (own := [("sign", 1), ("box", 2)]) (N := ["row", "sign", "box"]) (sc := defScope s_looked_at) (by decide +kernel)) (fun _ _ _ _ _ => (pg_tup rfl (pgs_cons (pg_name (i := 1) scLooked.nd rfl (Or.inl rfl)) (pgs_cons (pg_name (i := 2) scLooked.nd rfl (Or.inl rfl)) pgs_nil)))) (fun _ _ _ _ _ => pts_one (pt_cmpR op_eq (pv 1) pe_str (nomark _))) (fun _ _ _ _ _ => (pv 2))))), ?_⟩
    have hv := r.vals_eq
    have hlen : r.vals.length = r.args.length + 1 := by rw [hv, List.length_cons, List.length_map]
    have h0 : atI r.vals 0 = some (.str r.word) := by rw [hv]; exact atI_nat (j := 0) rfl
    have hle : r.args.length ≤ 3 := by cases r <;> simp [Rw.args]
    refine ⟨_, rfl, a, _, _, _, rfl, rfl, hT, h0, _, _, .str r.signs, rfl, rfl, G.signsAt.item (X := _) r.signs_lk, _, rfl, 1, rfl, a, r.vals, rfl, hT, fun hw => ?_, fun _ p hp => ?_⟩
    · have h1 := hw.1
      have h2 : HT.sIx r.vals.length 0 (some (1 : Int)) = min 1 r.vals.length := HT.sIx_nat _ _ 1
      rw [h2, hlen] at h1
      omega
    have hcut : cutV r.vals (some 1) none = r.args.map V.int := by
      unfold cutV
      rw [show HT.sIx r.vals.length 0 (some (1 : Int)) = min 1 r.vals.length from HT.sIx_nat _ _ 1, HT.sIx_none, hlen, show min 1 (r.args.length + 1) = 1 by omega, hv]
      show List.take (r.args.length + 1 - 1) (r.args.map V.int) = r.args.map V.int
      exact List.take_of_length_le (by rw [List.length_map]; omega)
    have s1 := same_new hp (.tup (cutV r.vals (some 1) none))
    refine ⟨r.signs, p, r.args.map V.int, rfl, tup_of (by rw [upd_same, hcut]), fun D hD => ?_⟩
    have hD1 : H D = none := s1.free hD
    have npD : p ≠ D := ne_of_none upd_same hD
    refine lc_it (walkST (K := K) (x := r.signs) (b := p) (ys := r.args.map V.int) (by rw [r.signs_size, List.length_map])) (fun i H' => Same H H' ∧ H' D = some (.lst ((lkTake r i).map V.int)) ∧ H' p = some (.tup (r.args.map V.int)))
      ⟨s1.trans (same_new hD _), upd_same, by rw [upd_ne npD, upd_same, hcut]⟩ (fun i H' _ h => tup_of h.2.2) ?_ ?_
    · rintro i x H1 H2 hi ⟨sm, hT1, hp1⟩ ⟨T, c, y, rfl, nT, rfl, hc, hy⟩
      obtain ⟨c0, hc0, rfl⟩ := Option.map_eq_some_iff.mp hc
      obtain ⟨z, hz, rfl⟩ := map_get hy
      have sT := same_new nT (.tup [.str ⟨#[c0]⟩, .int z])
      have hstep := lkTake_succ hc0 hz
      refine ⟨T, [.str ⟨#[c0]⟩, .int z], rfl, tup_of upd_same, rfl, .str ⟨#[c0]⟩, [.int z], rfl, .int z, [], rfl, rfl, rfl, ?_⟩
      refine ⟨_, rfl, rfl, _, rfl, ?_⟩
      have eb := sign_b c0
      by_cases e : c0 = 98
      · rw [decide_eq_true e] at eb
        rw [if_pos e] at hstep
        refine if_t eb ⟨_, rfl, _, sT _ _ hT1, ?_, ?_, ?_, ?_⟩
        · rw [List.length_map]
          have hl : (lkTake r i).length ≤ i := by
            unfold lkTake
            refine Nat.le_trans (List.length_filterMap_le _ _) ?_
            rw [List.length_take]
            exact Nat.min_le_left _ _
          rw [List.length_map] at hi
          exact small1000 (by omega)
        · exact fun b o z => by
            rw [upd_ne (ne_of_none z hD1)]
            exact sT _ _ (sm _ _ z)
        · rw [upd_same, hstep, List.map_append]
          rfl
        · rw [upd_ne npD]
          exact sT _ _ hp1
      · rw [decide_eq_false e] at eb
        rw [if_neg e, List.append_nil] at hstep
        refine if_f eb ⟨sm.trans sT, ?_, sT _ _ hp1⟩
        rw [hstep]
        exact sT _ _ hT1
    · rintro H' ⟨sm, h1, _⟩
      rw [List.length_map, lkTake_all] at h1
      exact k D H' hD1 sm h1
end
end LB
namespace LB
open PySem PySem.Spec PyProof.Rows L2
/-! ### the law's looks -/
def Rw.isA : Rw → Bool
  | .set _ _ => true
  | .say _ => true
  | _ => false
def Rw.isB : Rw → Bool
  | .iff _ _ => true
  | _ => false
def Rw.isC : Rw → Bool
  | .move _ _ => true
  | .add _ _ _ => true
  | .take _ _ _ => true
  | .times _ _ _ => true
  | .get _ _ => true
  | _ => false
theorem Rw.isA_in (r : Rw) : inV (.str r.word) [.str "set", .str "say"] = r.isA := by
  cases r with
  | put b n => show inV (.str "put") [.str "set", .str "say"] = false; decide +kernel
  | move b c => show inV (.str "move") [.str "set", .str "say"] = false; decide +kernel
  | add b c d => show inV (.str "add") [.str "set", .str "say"] = false; decide +kernel
  | take b c d => show inV (.str "take") [.str "set", .str "say"] = false; decide +kernel
  | times b c d => show inV (.str "times") [.str "set", .str "say"] = false; decide +kernel
  | get b c => show inV (.str "get") [.str "set", .str "say"] = false; decide +kernel
  | set c d => show inV (.str "set") [.str "set", .str "say"] = true; decide +kernel
  | say c => show inV (.str "say") [.str "set", .str "say"] = true; decide +kernel
  | rest => show inV (.str "rest") [.str "set", .str "say"] = false; decide +kernel
  | go q => show inV (.str "go") [.str "set", .str "say"] = false; decide +kernel
  | iff c q => show inV (.str "if") [.str "set", .str "say"] = false; decide +kernel
  | stop => show inV (.str "stop") [.str "set", .str "say"] = false; decide +kernel
theorem Rw.isB_eq (r : Rw) : decide (V.str r.word = V.str "if") = r.isB := by
  cases r with
  | put b n => show decide (V.str "put" = V.str "if") = false; decide +kernel
  | move b c => show decide (V.str "move" = V.str "if") = false; decide +kernel
  | add b c d => show decide (V.str "add" = V.str "if") = false; decide +kernel
  | take b c d => show decide (V.str "take" = V.str "if") = false; decide +kernel
  | times b c d => show decide (V.str "times" = V.str "if") = false; decide +kernel
  | get b c => show decide (V.str "get" = V.str "if") = false; decide +kernel
  | set c d => show decide (V.str "set" = V.str "if") = false; decide +kernel
  | say c => show decide (V.str "say" = V.str "if") = false; decide +kernel
  | rest => show decide (V.str "rest" = V.str "if") = false; decide +kernel
  | go q => show decide (V.str "go" = V.str "if") = false; decide +kernel
  | iff c q => show decide (V.str "if" = V.str "if") = true; decide +kernel
  | stop => show decide (V.str "stop" = V.str "if") = false; decide +kernel
theorem Rw.isC_in (r : Rw) : inV (.str r.word) [.str "move", .str "add", .str "take", .str "times", .str "get"] = r.isC := by
  cases r with
  | put b n => show inV (.str "put") [.str "move", .str "add", .str "take", .str "times", .str "get"] = false; decide +kernel
  | move b c => show inV (.str "move") [.str "move", .str "add", .str "take", .str "times", .str "get"] = true; decide +kernel
  | add b c d => show inV (.str "add") [.str "move", .str "add", .str "take", .str "times", .str "get"] = true; decide +kernel
  | take b c d => show inV (.str "take") [.str "move", .str "add", .str "take", .str "times", .str "get"] = true; decide +kernel
  | times b c d => show inV (.str "times") [.str "move", .str "add", .str "take", .str "times", .str "get"] = true; decide +kernel
  | get b c => show inV (.str "get") [.str "move", .str "add", .str "take", .str "times", .str "get"] = true; decide +kernel
  | set c d => show inV (.str "set") [.str "move", .str "add", .str "take", .str "times", .str "get"] = false; decide +kernel
  | say c => show inV (.str "say") [.str "move", .str "add", .str "take", .str "times", .str "get"] = false; decide +kernel
  | rest => show inV (.str "rest") [.str "move", .str "add", .str "take", .str "times", .str "get"] = false; decide +kernel
  | go q => show inV (.str "go") [.str "move", .str "add", .str "take", .str "times", .str "get"] = false; decide +kernel
  | iff c q => show inV (.str "if") [.str "move", .str "add", .str "take", .str "times", .str "get"] = false; decide +kernel
  | stop => show inV (.str "stop") [.str "move", .str "add", .str "take", .str "times", .str "get"] = false; decide +kernel
theorem Rw.isA_cut {r : Rw} (h : r.isA = true) : cutV r.vals (some 1) none = r.looks.map V.int ∧ 2 ≤ r.vals.length := by
  cases r <;> first | exact ⟨rfl, Nat.le_add_left 2 _⟩ | cases h
theorem Rw.isC_cut {r : Rw} (h : r.isC = true) : cutV r.vals (some 2) none = r.looks.map V.int ∧ 3 ≤ r.vals.length := by
  cases r <;> first | exact ⟨rfl, Nat.le_add_left 3 _⟩ | cases h
theorem Rw.isB_at {r : Rw} (h : r.isB = true) : ∃ c, atI r.vals 1 = some (.int c) ∧ r.looks = [c] := by
  cases r <;> first | exact ⟨_, rfl, rfl⟩ | cases h
theorem Rw.no_looks {r : Rw} (a : r.isA = false) (b : r.isB = false) (c : r.isC = false) : r.looks = [] := by
  cases r <;> first | rfl | (cases a; done) | (cases b; done) | (cases c; done)
section
variable {P : Program} {w : World} {K : PySem.W.Frag} {mg : Str → Option Value} {base : Heap}
theorem scLLk : FnScope ["_law_row"] ["_law_row"] (defScope s__law_looks) := ⟨rfl, rfl, rfl, by decide +kernel, rfl, by decide +kernel, by decide +kernel⟩
theorem ok_llooks {f : Addr} {fd : FuncData} (F : Fun K "_law_looks" "_law_looks" s__law_looks f fd) (B : Bl2 mg) : FnOk P w K mg base CX0 1 f fd ["_law_row"] (spLooked K) := by
  refine F.ok scLLk (fun vs H Q E h => ?_) (fun cdv A outer s H vs Q E hr h => ?_)
  · obtain ⟨v, r, rfl, _⟩ := h
    rfl
  · obtain ⟨v, r, rfl, ⟨a, rfl, hT⟩, k⟩ := h
    refine ⟨_, (pss_cons (ps_if (pt_cmpR op_in_seq (pe_ix ix_tup (pv 0) pe_int (fun _ _ => rfl)) (pe_tup (pa_cons pe_str (pa_cons pe_str pa_nil))) (by rfl)) (pss_one (ps_ret (pe_callTy call_list_of (by rfl) B.b.list (by decide +kernel) (pa_cons (pe_slice sl_tupA (pv 0) (po_some pe_int) po_none) pa_nil)))) pss_nil) (pss_cons (ps_if (pt_cmpR op_eq (pe_ix ix_tup (pv 0) pe_int (fun _ _ => rfl)) pe_str (nomark _)) (pss_one (ps_ret (pe_lst (pa_cons (pe_ix ix_tup (pv 0) pe_int (fun _ _ => rfl)) pa_nil)))) pss_nil) (pss_one (ps_ret (pe_ifExp (pt_cmpR op_in_seq (pe_ix ix_tup (pv 0) pe_int (fun _ _ => rfl)) (pe_tup (pa_cons pe_str (pa_cons pe_str (pa_cons pe_str (pa_cons pe_str (pa_cons pe_str pa_nil)))))) (by rfl)) (pe_callTy call_list_of (by rfl) B.b.list (by decide +kernel) (pa_cons (pe_slice sl_tupA (pv 0) (po_some pe_int) po_none) pa_nil)) (pe_lst pa_nil)))))), ?_⟩
    have h0 : atI r.vals 0 = some (.str r.word) := by rw [r.vals_eq]; exact atI_nat (j := 0) rfl
    have eA := r.isA_in
    have eB := r.isB_eq
    have eC := r.isC_in
    refine ⟨_, rfl, a, _, _, _, rfl, rfl, hT, h0, by show 2 ≤ sizeLine; decide, fun T1 hT1 => ⟨T1, _, rfl, .inr (tup_of upd_same), rfl, rfl, _, rfl, ?_⟩⟩
    have s1 := same_new hT1 (.tup [.str "set", .str "say"])
    rw [eA]
    refine if_both (fun e => ?_) (fun e => ?_)
    · obtain ⟨hc, hl⟩ := Rw.isA_cut e
      refine ⟨_, rfl, 1, rfl, a, r.vals, rfl, same_tup s1 hT, fun hw => ?_, fun _ p hp => ?_⟩
      · have h1 := hw.1
        have h2 : HT.sIx r.vals.length 0 (some (1 : Int)) = min 1 r.vals.length := HT.sIx_nat _ _ 1
        rw [h2] at h1
        omega
      · refine ⟨p, _, rfl, .inr (tup_of (by rw [upd_same, hc])), fun l hl => k l _ ((s1.trans (same_new hp _)).free hl) ((s1.trans (same_new hp _)).trans (same_new hl _)) upd_same⟩
    · refine ⟨_, rfl, a, _, _, _, rfl, rfl, same_tup s1 hT, h0, rfl, _, rfl, ?_⟩
      rw [eB]
      refine if_both (fun e2 => ?_) (fun e2 => ?_)
      · obtain ⟨c, hc, hl⟩ := Rw.isB_at e2
        refine ⟨_, rfl, a, _, _, _, rfl, rfl, same_tup s1 hT, hc, by show 1 ≤ sizeLine; decide, fun l hl' => k l _ (s1.free hl') (s1.trans (same_new hl' _)) ?_⟩
        rw [upd_same, hl]
        rfl
      · refine ⟨_, rfl, a, _, _, _, rfl, rfl, same_tup s1 hT, h0, by show 5 ≤ sizeLine; decide, fun T2 hT2 => ⟨T2, _, rfl, .inr (tup_of upd_same), rfl, rfl, _, rfl, ?_⟩⟩
        have s2 := s1.trans (same_new hT2 (.tup [.str "move", .str "add", .str "take", .str "times", .str "get"]))
        rw [eC]
        refine if_both (fun e3 => ?_) (fun e3 => ?_)
        · obtain ⟨hc, hl⟩ := Rw.isC_cut e3
          refine ⟨_, rfl, 2, rfl, a, r.vals, rfl, same_tup s2 hT, fun hw => ?_, fun _ p hp => ?_⟩
          · have h1 := hw.1
            have h2 : HT.sIx r.vals.length 0 (some (2 : Int)) = min 2 r.vals.length := HT.sIx_nat _ _ 2
            rw [h2] at h1
            omega
          · refine ⟨p, _, rfl, .inr (tup_of (by rw [upd_same, hc])), fun l hl => k l _ ((s2.trans (same_new hp _)).free hl) ((s2.trans (same_new hp _)).trans (same_new hl _)) upd_same⟩
        · refine ⟨by show 0 ≤ sizeLine; decide, fun l hl => k l _ (s2.free hl) (s2.trans (same_new hl _)) ?_⟩
          rw [upd_same, Rw.no_looks e e2 e3]
          rfl
end
end LB
namespace LB
open PySem L2
def lateI (ms : List Int) (r : Rw) : Int := match r.lix with
  | some _ => (lateOf ms r : Int)
  | none => -1
section
variable {P : Program} {w : World} {K : PySem.W.Frag} {mg : Str → Option Value} {base : Heap}
def spLLate (K : PySem.W.Frag) : Sp := fun vs H Q _ => ∃ (v : V) (r : Rw) (m : Addr) (ms : List Int), vs = [v, .ref m] ∧ RowAt K H v r ∧ MillAt K H m ms ∧ MillOk ms ∧ ∀ H', Same H H' → Q (.int (lateI ms r)) H'
abbrev psLLate : List Str := ["_law_row", "_law_mill_here"]
theorem scLLate : FnScope psLLate psLLate (defScope sLLate) := ⟨rfl, rfl, rfl, by decide +kernel, rfl, by decide +kernel, by decide +kernel⟩
theorem ok_llate {f : Addr} {fd : FuncData} (F : Fun K "_law_late" "_law_late" sLLate f fd) : FnOk P w K mg base CX0 1 f fd psLLate (spLLate K) := by
  refine F.ok scLLate (fun vs H Q E h => ?_) (fun cdv A outer s H vs Q E hr h => ?_)
  · obtain ⟨v, r, m, ms, rfl, _⟩ := h
    rfl
  · obtain ⟨v, r, m, ms, rfl, ⟨a, rfl, hT⟩, hM, hMo, k⟩ := h
    refine ⟨_, pss_cons (ps_if (pt_cmpR op_in_seq (pe_ix ix_tup (pv 0) pe_int (fun _ _ => rfl)) (pe_tup (pa_cons pe_str (pa_cons pe_str (pa_cons pe_str (pa_cons pe_str pa_nil))))) (by rfl)) (pss_one (ps_ret (pe_ix ix_tup (pv 1) pe_int (fun _ _ => rfl)))) pss_nil)
      (pss_one (ps_ret (pe_dget2 (hu_of hr) (pe_disp (pps_cons pe_str (pe_ix ix_tup (pv 1) pe_int (fun _ _ => rfl)) (pps_cons pe_str (pe_ix ix_tup (pv 1) pe_int (fun _ _ => rfl)) pps_nil)) (by rfl) (by rfl) (fun z => by cases z) (by decide))
          (pe_ix ix_tup (pv 0) pe_int (fun _ _ => rfl)) (pe_un un_neg pe_int) ⟨by rfl, by rfl, by rfl, by rfl⟩))), ?_⟩
    have h0 : atI r.vals 0 = some (.str r.word) := by rw [r.vals_eq]; exact atI_nat (j := 0) rfl
    obtain ⟨p, g, t, j, rfl, h1, h2, h3, h4⟩ := hMo
    have m0 : atI (([p, g, t, j] : List Int).map V.int) 0 = some (.int p) := rfl
    have m1 : atI (([p, g, t, j] : List Int).map V.int) 1 = some (.int g) := rfl
    have m2 : atI (([p, g, t, j] : List Int).map V.int) 2 = some (.int t) := rfl
    refine ⟨_, rfl, a, _, _, _, rfl, rfl, hT, h0, by show 4 ≤ sizeLine; decide, fun T hT4 => ?_⟩
    have s1 := same_new hT4 (.tup [.str "put", .str "move", .str "add", .str "take"])
    refine ⟨T, _, rfl, .inr (tup_of upd_same), rfl, rfl, _, rfl, ?_⟩
    have plain : r.lix = some 0 → lateI [p, g, t, j] r = p := by
      intro e
      unfold lateI lateOf
      rw [e]
      show ((p.toNat : Nat) : Int) = p
      omega
    have hin : (inV (.str r.word) [.str "put", .str "move", .str "add", .str "take"] = true ∧ r.lix = some 0) ∨ (inV (.str r.word) [.str "put", .str "move", .str "add", .str "take"] = false ∧ (if r.word = "times" then some (V.int t) else if r.word = "get" then some (V.int g) else none).getD (.int (-1)) = .int (lateI [p, g, t, j] r)) := by
      cases r with
      | put b n => exact .inl ⟨by show inV (.str "put") _ = true; decide +kernel, rfl⟩
      | move b n => exact .inl ⟨by show inV (.str "move") _ = true; decide +kernel, rfl⟩
      | add b n c => exact .inl ⟨by show inV (.str "add") _ = true; decide +kernel, rfl⟩
      | take b n c => exact .inl ⟨by show inV (.str "take") _ = true; decide +kernel, rfl⟩
      | times b n c =>
        refine .inr ⟨by show inV (.str "times") _ = false; decide +kernel, ?_⟩
        show (if ("times" : Str) = "times" then some (V.int t) else _).getD (.int (-1)) = .int ((t.toNat : Nat) : Int)
        rw [if_pos rfl, Int.toNat_of_nonneg h3.1]
        rfl
      | get b n =>
        refine .inr ⟨by show inV (.str "get") _ = false; decide +kernel, ?_⟩
        show (if ("get" : Str) = "times" then some (V.int t) else if ("get" : Str) = "get" then some (V.int g) else none).getD (.int (-1)) = .int ((g.toNat : Nat) : Int)
        rw [if_neg (by decide +kernel), if_pos rfl, Int.toNat_of_nonneg h2.1]
        rfl
      | set b n => exact .inr ⟨by show inV (.str "set") _ = false; decide +kernel, by show (if ("set" : Str) = "times" then some (V.int t) else if ("set" : Str) = "get" then some (V.int g) else none).getD (.int (-1)) = .int (-1); rw [if_neg (by decide +kernel), if_neg (by decide +kernel)]; rfl⟩
      | say b => exact .inr ⟨by show inV (.str "say") _ = false; decide +kernel, by show (if ("say" : Str) = "times" then some (V.int t) else if ("say" : Str) = "get" then some (V.int g) else none).getD (.int (-1)) = .int (-1); rw [if_neg (by decide +kernel), if_neg (by decide +kernel)]; rfl⟩
      | rest => exact .inr ⟨by show inV (.str "rest") _ = false; decide +kernel, by show (if ("rest" : Str) = "times" then some (V.int t) else if ("rest" : Str) = "get" then some (V.int g) else none).getD (.int (-1)) = .int (-1); rw [if_neg (by decide +kernel), if_neg (by decide +kernel)]; rfl⟩
      | go b => exact .inr ⟨by show inV (.str "go") _ = false; decide +kernel, by show (if ("go" : Str) = "times" then some (V.int t) else if ("go" : Str) = "get" then some (V.int g) else none).getD (.int (-1)) = .int (-1); rw [if_neg (by decide +kernel), if_neg (by decide +kernel)]; rfl⟩
      | iff b n => exact .inr ⟨by show inV (.str "if") _ = false; decide +kernel, by show (if ("if" : Str) = "times" then some (V.int t) else if ("if" : Str) = "get" then some (V.int g) else none).getD (.int (-1)) = .int (-1); rw [if_neg (by decide +kernel), if_neg (by decide +kernel)]; rfl⟩
      | stop => exact .inr ⟨by show inV (.str "stop") _ = false; decide +kernel, by show (if ("stop" : Str) = "times" then some (V.int t) else if ("stop" : Str) = "get" then some (V.int g) else none).getD (.int (-1)) = .int (-1); rw [if_neg (by decide +kernel), if_neg (by decide +kernel)]; rfl⟩
    rcases hin with ⟨i1, i2⟩ | ⟨i1, i2⟩
    · refine if_t i1 ⟨_, rfl, m, _, _, _, rfl, rfl, same_tup s1 hM, m0, ?_⟩
      have q := k _ s1
      rw [plain i2] at q
      exact q
    · refine if_f i1 ?_
      intro dd hdd
      have s2 := s1.trans (same_new hdd (.dK []))
      refine ⟨_, rfl, m, _, _, _, rfl, rfl, same_tup s2 hM, m1, _, rfl, m, _, _, _, rfl, rfl, same_tup s2 hM, m2, upd_same, [(Sum.inr "get", .int g), (Sum.inr "times", .int t)], rfl, by show 2 ≤ 15; decide, ?_⟩
      have s3 : Same H (upd (upd (upd H T (.tup [.str "put", .str "move", .str "add", .str "take"])) dd (.dK [])) dd (.dK (mergeK [] [(Sum.inr "get", .int g), (Sum.inr "times", .int t)]))) := fun b o e => by
        have nb : b ≠ dd := ne_of_none (s1 _ _ e) hdd
        rw [upd_ne nb]
        exact s2 b o e
      refine ⟨dd, rfl, .inl ⟨_, .inl upd_same⟩, _, rfl, a, _, _, _, rfl, rfl, same_tup s3 hT, h0, 1, rfl, _, DGet.k (k := Sum.inr r.word) upd_same, ?_⟩
      rw [merge2]
      have q := k _ s3
      rw [← i2] at q
      exact q
/-! ### what a row with a worth comes to -/
end
end LB
/-! Dicts whose keys are tuples within one another (numbers, texts, None): rules by values. Own text, over the library's dicts keyed by what stands. -/
namespace LB
open PySem PySem.Spec PyProof.Rows L2
mutual
/-- the value is such a key -/
inductive NkAt (K : PySem.W.Frag) (H : Hp) : V → NestedKey → Prop
  | non : NkAt K H .non .none
  | int (i : Int) : NkAt K H (.int i) (.num i)
  | str (x : Str) : NkAt K H (.str x) (.text x)
  | tup {a : Addr} {vs : List V} {ks : List NestedKey} : SqT K H a vs → NkAll K H vs ks → NkAt K H (.ref a) (.tup ks)
inductive NkAll (K : PySem.W.Frag) (H : Hp) : List V → List NestedKey → Prop
  | nil : NkAll K H [] []
  | cons {v : V} {vs : List V} {k : NestedKey} {ks : List NestedKey} : NkAt K H v k → NkAll K H vs ks → NkAll K H (v :: vs) (k :: ks)
end
theorem tk_tup {K : PySem.W.Frag} {H H' : Hp} {a : Addr} {xs : List V} (s : ∀ t o, H t = some o → (∃ xs, o = .tup xs) ∨ (∃ ob xs, o = .frz ob (.tup xs)) → H' t = some o) (h : SqT K H a xs) : SqT K H' a xs := by
  rcases h with (h | ⟨o, h⟩) | h
  · exact .inl (.inl (s _ _ h (.inl ⟨_, rfl⟩)))
  · exact .inl (.inr ⟨o, s _ _ h (.inr ⟨_, _, rfl⟩)⟩)
  · exact .inr h
/-- tuples stay, locked ones too -/
def TK (H H' : Hp) : Prop := ∀ t o, H t = some o → (∃ xs, o = .tup xs) ∨ (∃ ob xs, o = .frz ob (.tup xs)) → H' t = some o
mutual
theorem NkAt.keep {K : PySem.W.Frag} {H H' : Hp} (s : TK H H') : ∀ {k : NestedKey} {v : V}, NkAt K H v k → NkAt K H' v k
  | .none, _, h => by cases h; exact .non
  | .num i, _, h => by cases h; exact .int i
  | .text x, _, h => by cases h; exact .str x
  | .tup ks, _, h => by
    cases h with
    | tup h a => exact .tup (tk_tup s h) (NkAll.keep s a)
theorem NkAll.keep {K : PySem.W.Frag} {H H' : Hp} (s : TK H H') : ∀ {ks : List NestedKey} {vs : List V}, NkAll K H vs ks → NkAll K H' vs ks
  | [], _, h => by cases h; exact .nil
  | k :: ks, _, h => by
    cases h with
    | cons h a => exact .cons (NkAt.keep s h) (NkAll.keep s a)
end
mutual
theorem NkAt.is {X : Cx} {pins : List (Addr × Obj)} {σ : L2.St} {H : Hp} {s : Shared} (I : Inv X pins σ H s) : ∀ {k : NestedKey} {v : V} {u : Value}, NkAt X.K H v k → RelV v u → NestedIs s.heap k u
  | .none, _, u, h, r => by cases h; cases r; exact .none
  | .num i, _, u, h, r => by
    cases h
    obtain ⟨t, rfl⟩ := r
    exact .int i t
  | .text x, _, u, h, r => by
    cases h
    obtain ⟨t, rfl⟩ := r
    exact .text x t
  | .tup ks, _, u, h, r => by
    cases h with
    | tup h a =>
      cases r
      obtain ⟨its, rv, ⟨o, ho, hc, n, hd⟩, _⟩ := I.tuple h
      exact .tup ho hc hd (NkAll.is I a rv)
theorem NkAll.is {X : Cx} {pins : List (Addr × Obj)} {σ : L2.St} {H : Hp} {s : Shared} (I : Inv X pins σ H s) : ∀ {ks : List NestedKey} {vs : List V} {us : List Value}, NkAll X.K H vs ks → Vals vs us → NestedAll s.heap ks us
  | [], _, us, h, r => by cases h; cases r; exact .nil
  | k :: ks, _, us, h, r => by
    cases h with
    | cons h a =>
      cases r with
      | cons r rr => exact .cons (NkAt.is I h r) (NkAll.is I a rr)
end
abbrev Ent := NestedKey × Addr × V
/-- the object of such a dict -/
def NdObj (P : Program) (w : World) (d : Addr) (xs : List Ent) : Heap → Prop := fun h => (d == sysModules) = false ∧ ∃ ys : List (NestedKey × Addr × Value), Paired (fun (p : Ent) (q : NestedKey × Addr × Value) => p.1 = q.1 ∧ p.2.1 = q.2.1 ∧ RelV p.2.2 q.2.2) xs ys ∧
  ∃ o es ep, h.get? d = some o ∧ o.ExactDict ∧ o.data = .dict es ep ∧ es.toList = ys.map (entryOfKey (nestedKind P w)) ∧ (ys.map (·.1)).Nodup
/-- at d stands a dict of these entries, in order -/
structure ND (P : Program) (w : World) (K : PySem.W.Frag) (H : Hp) (d : Addr) (xs : List Ent) : Prop where
  at_ : H d = some (.ext (NdObj P w d xs))
  keys : ∀ x, x ∈ xs → NkAt K H (.ref x.2.1) x.1 ∧ x.1.depth ≤ 8
  len : xs.length ≤ sizeLine
def valN (xs : List Ent) (k : NestedKey) : Option V := (xs.find? fun x => decide (x.1 = k)).map (·.2.2)
theorem ND.keep {P : Program} {w : World} {K : PySem.W.Frag} {H H' : Hp} {d : Addr} {xs : List Ent} (h : ND P w K H d xs) (e : ∀ o, H d = some o → H' d = some o) (s : TK H H') : ND P w K H' d xs :=
  ⟨e _ h.at_, fun x hx => ⟨(h.keys x hx).1.keep s, (h.keys x hx).2⟩, h.len⟩
theorem paired_find (k : NestedKey) : ∀ {xs : List Ent} {ys : List (NestedKey × Addr × Value)}, Paired (fun (p : Ent) (q : NestedKey × Addr × Value) => p.1 = q.1 ∧ p.2.1 = q.2.1 ∧ RelV p.2.2 q.2.2) xs ys →
    (valN xs k = none ∧ atKey ys k = none) ∨ ∃ v p, valN xs k = some v ∧ atKey ys k = some p ∧ RelV v p.2
  | _, _, .nil => .inl ⟨rfl, rfl⟩
  | x :: xs, y :: ys, .cons h t => by
    obtain ⟨h1, h2, h3⟩ := h
    by_cases e : x.1 = k
    · refine .inr ⟨x.2.2, y.2, ?_, ?_, h3⟩
      · simp [valN, List.find?_cons, e]
      · have e' : y.1 = k := by rw [← h1]; exact e
        simp [atKey, List.find?_cons, e']
    · have e' : ¬ y.1 = k := by rw [← h1]; exact e
      have q1 : valN (x :: xs) k = valN xs k := by simp [valN, List.find?_cons, e]
      have q2 : atKey (y :: ys) k = atKey ys k := by simp [atKey, List.find?_cons, e']
      rw [q1, q2]
      exact paired_find k t
section
variable {X : Cx} {pins : List (Addr × Obj)} {σ : L2.St} {H : Hp} {s : Shared} {d a : Addr} {xs : List Ent} {k : NestedKey}
theorem keysAll (I : Inv X pins σ H s) : ∀ {xs : List Ent} {ys : List (NestedKey × Addr × Value)}, Paired (fun (p : Ent) (q : NestedKey × Addr × Value) => p.1 = q.1 ∧ p.2.1 = q.2.1 ∧ RelV p.2.2 q.2.2) xs ys → (∀ x, x ∈ xs → NkAt X.K H (.ref x.2.1) x.1 ∧ x.1.depth ≤ 8) →
    ∀ y, y ∈ ys → (nestedKind X.prog X.w).is s.heap y.1 y.2.1
  | _, _, .nil, _, y, hy => by cases hy
  | x :: xs, y0 :: ys, .cons h t, hk, y, hy => by
    rcases List.mem_cons.mp hy with e | e
    · rw [e]
      obtain ⟨h1, h2, h3⟩ := h
      obtain ⟨q1, q2⟩ := hk x (List.mem_cons_self ..)
      rw [← h1, ← h2]
      exact ⟨q1.is I rfl, q2⟩
    · exact keysAll I t (fun z hz => hk z (List.mem_cons_of_mem _ hz)) y e
theorem ND.of (I : Inv X pins σ H s) (h : ND X.prog X.w X.K H d xs) : (d == sysModules) = false ∧ ∃ ys : List (NestedKey × Addr × Value), Paired (fun (p : Ent) (q : NestedKey × Addr × Value) => p.1 = q.1 ∧ p.2.1 = q.2.1 ∧ RelV p.2.2 q.2.2) xs ys ∧ s.heap.DictOfH (nestedKind X.prog X.w) d ys := by
  obtain ⟨⟨hd, ys, hp, o, es, ep, h1, h2, h3, h4, h5⟩, _, _⟩ := I.hok d _ h.at_
  exact ⟨hd, ys, hp, o, es, ep, h1, h2, h3, h4, keysAll I hp h.keys, h5⟩
theorem nd_room {A : Around} (hu : A.units + 64 < cLine) : (nestedKind X.prog X.w).room A.in1 := by
  show A.in1.units + 8 < cLine
  show A.units + 1 + 8 < cLine
  omega
def rInN (P : Program) (w : World) (K : PySem.W.Frag) (neg : Bool) : R2 := fun x y H Q => ∃ (a d : Addr) (k : NestedKey) (xs : List Ent), x = .ref a ∧ y = .ref d ∧ NkAt K H (.ref a) k ∧ k.depth ≤ 8 ∧ ND P w K H d xs ∧ Q (.bl (if neg then !(valN xs k).isSome else (valN xs k).isSome)) H
theorem op_inN (hu : X.A.units + 64 < cLine) : OpR X (compareOp .In) (rInN X.prog X.w X.K false) := by
  intro pins s σ H x y v u Q I rx ry h
  obtain ⟨a, d, k, xs, rfl, rfl, hk, hk8, hd, q⟩ := h
  obtain rfl : v = Value.ref a := rx
  obtain rfl : u = Value.ref d := ry
  obtain ⟨hs, ys, hp, hm⟩ := hd.of I
  refine wpAny_in_heap (nd_room hu) ⟨hk.is I rfl, hk8⟩ hs hm ?_
  have e : (valN xs k).isSome = (atKey ys k).isSome := by
    rcases paired_find k hp with ⟨e1, e2⟩ | ⟨v, p, e1, e2, _⟩ <;> rw [e1, e2] <;> rfl
  rw [← e]
  exact ⟨.bl (valN xs k).isSome, H, I.tok _, rfl, q⟩
theorem op_notinN (hu : X.A.units + 64 < cLine) : OpR X (compareOp .NotIn) (rInN X.prog X.w X.K true) := by
  intro pins s σ H x y v u Q I rx ry h
  obtain ⟨a, d, k, xs, rfl, rfl, hk, hk8, hd, q⟩ := h
  obtain rfl : v = Value.ref a := rx
  obtain rfl : u = Value.ref d := ry
  obtain ⟨hs, ys, hp, hm⟩ := hd.of I
  refine wpAny_notIn_heap (nd_room hu) ⟨hk.is I rfl, hk8⟩ hs hm ?_
  have e : (valN xs k).isSome = (atKey ys k).isSome := by
    rcases paired_find k hp with ⟨e1, e2⟩ | ⟨v, p, e1, e2, _⟩ <;> rw [e1, e2] <;> rfl
  rw [← e]
  exact ⟨.bl (!(valN xs k).isSome), H, I.tok _, rfl, q⟩
def rIxN (P : Program) (w : World) (K : PySem.W.Frag) : R2 := fun x y H Q => ∃ (a d : Addr) (k : NestedKey) (xs : List Ent) (v : V), x = .ref d ∧ y = .ref a ∧ NkAt K H (.ref a) k ∧ k.depth ≤ 8 ∧ ND P w K H d xs ∧ valN xs k = some v ∧ Q v H
theorem ix_N (hu : X.A.units + 64 < cLine) : IxR X (rIxN X.prog X.w X.K) := by
  intro value slice pins s σ H x y v u Q I rx ry h hs
  obtain ⟨a, d, k, xs, z, rfl, rfl, hk, hk8, hd, hv, q⟩ := h
  obtain rfl : v = Value.ref d := rx
  obtain rfl : u = Value.ref a := ry
  obtain ⟨hsm, ys, hp, hm⟩ := hd.of I
  rcases paired_find k hp with ⟨e1, e2⟩ | ⟨v', p, e1, e2, r⟩
  · rw [hv] at e1; cases e1
  · rw [hv] at e1
    cases e1
    exact tail_any hm.typeIs slot_dict_getitem.lookup (wpAny_getItem_heap (nd_room hu) ⟨hk.is I rfl, hk8⟩ hm e2 ⟨z, H, I.tok _, r, q⟩) hs
theorem paired_snoc {xs : List Ent} {ys : List (NestedKey × Addr × Value)} {k : NestedKey} {a : Addr} {v : V} {u : Value} (r : RelV v u) (h : Paired (fun (p : Ent) (q : NestedKey × Addr × Value) => p.1 = q.1 ∧ p.2.1 = q.2.1 ∧ RelV p.2.2 q.2.2) xs ys) :
    Paired (fun (p : Ent) (q : NestedKey × Addr × Value) => p.1 = q.1 ∧ p.2.1 = q.2.1 ∧ RelV p.2.2 q.2.2) (xs ++ [(k, a, v)]) (ys ++ [(k, a, u)]) := h.snoc ⟨rfl, rfl, r⟩
/-- d[k] = v of a key that isn't there -/
def rSetN (P : Program) (w : World) (K : PySem.W.Frag) : TSet := fun o i v H Q => ∃ (a d : Addr) (k : NestedKey) (xs : List Ent), o = .ref d ∧ i = .ref a ∧ NkAt K H (.ref a) k ∧ k.depth ≤ 8 ∧ ND P w K H d xs ∧ valN xs k = none ∧ xs.length < sizeLine ∧
  Q (upd H d (.ext (NdObj P w d (xs ++ [(k, a, v)]))))
theorem set_N (hu : X.A.units + 64 < cLine) : PSet X (rSetN X.prog X.w X.K) := by
  intro pins s σ H o i v ov iv u Q I ro ri rv h
  obtain ⟨a, d, k, xs, rfl, rfl, hk, hk8, hd, hn, hl, q⟩ := h
  obtain rfl : ov = Value.ref d := ro
  obtain rfl : iv = Value.ref a := ri
  obtain ⟨hsm, ys, hp, hm⟩ := hd.of I
  have hz : ys.length ≤ sizeLine := by rw [← Paired.length hp]; exact hd.len
  have e2 : atKey ys k = none := by
    rcases paired_find k hp with ⟨_, e2⟩ | ⟨v', p, e1, _, _⟩
    · exact e2
    · rw [hn] at e1; cases e1
  refine wpAny_setItem_heap (hsz := hz) (nd_room hu) ⟨hk.is I rfl, hk8⟩ hm fun h' dd' hs => ⟨_, ?_, q⟩
  rw [storedH_new e2] at dd'
  obtain ⟨ob, es, ep, h1, h2, h3, h4, _, h5⟩ := dd'
  have e0 := hd.at_
  refine d_write I (by rw [e0]; exact True.intro) hs ⟨ob, h1⟩ ⟨⟨hsm, _, paired_snoc rv hp, ob, es, ep, h1, h2, h3, h4, h5⟩, ⟨ob, h1⟩, fun g1 g2 z kk => ?_⟩
  obtain ⟨c0, ys2, c1, o2, es2, ep2, c2, c3, c4, c5, c6⟩ := z
  exact ⟨c0, ys2, c1, o2, es2, ep2, kk _ c2, c3, c4, c5, c6⟩
theorem nd_ext {P : Program} {w : World} {H' : Hp} {h : Heap} {d : Addr} {xs : List Ent} (z : NdObj P w d xs h) : ObjOk P w H' h d (.ext (NdObj P w d xs)) := by
  have z0 := z
  obtain ⟨c0, ys, c1, o, es, ep, c2, c3⟩ := z
  refine ⟨z0, ⟨o, c2⟩, fun g1 g2 zz kk => ?_⟩
  obtain ⟨c0, ys2, c1, o2, es2, ep2, d2, d3, d4, d5, d6⟩ := zz
  exact ⟨c0, ys2, c1, o2, es2, ep2, kk _ d2, d3, d4, d5, d6⟩
/-- {k: v} -/
def tNDisp (P : Program) (w : World) (K : PySem.W.Frag) (tk tv : TE) : TE := fun σ H Q => ∀ d, H d = none → tk σ (upd H d (.ext (NdObj P w d []))) fun x H1 => tv σ H1 fun y H2 =>
  ∃ (a : Addr) (k : NestedKey), x = .ref a ∧ NkAt K H2 (.ref a) k ∧ k.depth ≤ 8 ∧ H2 d = some (.ext (NdObj P w d [])) ∧ Q (.ref d) (upd H2 d (.ext (NdObj P w d [(k, a, y)])))
theorem pe_ndisp {ke ve : Expr} {pos : Pos} {tk tv : TE} (hu : X.A.units + 64 < cLine) (hk : PE X ke tk) (hv : PE X ve tv) : PE X (.Dict [some ke] [ve] pos) (tNDisp X.prog X.w X.K tk tv) := by
  refine ⟨fun pins s σ H Q I q => ?_⟩
  have hn := I.hok.fresh (Nat.le_refl s.heap.objs.size)
  have hsz : (s.heap.objs.size == sysModules) = false := by
    have := I.big
    exact beq_false_of_ne (Nat.ne_of_gt this)
  have d0 : (s.heap.push { cls := .type "dict", data := .dict #[] }).DictOfH (nestedKind X.prog X.w) s.heap.objs.size [] := Heap.DictOfH.new s.heap
  have I1 := I.laid (a := s.heap.objs.size) (o := .ext (NdObj X.prog X.w s.heap.objs.size [])) (h' := s.heap.push { cls := .type "dict", data := .dict #[] }) (t' := s.toks) (fun _ _ z => Heap.get?_push_of_some _ z) (Nat.le_refl _)
    (nd_ext (by
      obtain ⟨o, es, ep, h1, h2, h3, h4, _, h5⟩ := d0
      exact ⟨hsz, [], .nil, o, es, ep, h1, h2, h3, h4, h5⟩))
  rw [arm_eval_Dict, zip_pairTrees [some ke] [ve] X.env pos rfl rfl, dictDisplay_pairs (pairTrees [some ke] [ve] X.env pos) (by intro z; cases z) (by show 1 < 17; decide)]
  refine wpAny_bind (wpAny_standAt (wpAny_bind (wpAny_subDictH (knd := nestedKind X.prog X.w) (Q := fun d s' => wpAny (model X.prog X.w) X.A (pure (Value.ref d)) (EP X pins σ Q) X.xe s') (by show X.A.units + 8 < cLine; omega) (by show 1 ≤ 15; decide) ?_)))
  refine pairTrees_cons_walk (thn (hk.run pins _ σ _ _ I1 (q _ hn)) fun u s1 ⟨x, H1, I2, rx, q1⟩ => thn (hv.run pins s1 σ H1 _ I2 q1) fun u2 s2 ⟨y, H2, I3, ry, a, k, ex, hka, hk8, he, q2⟩ => pairTrees_nil_walk ?_)
  subst ex
  obtain rfl : u = Value.ref a := rx
  obtain ⟨⟨hd, ys, hp, o, es, ep, h1, h2, h3, h4, h5⟩, _, _⟩ := I3.hok _ _ he
  cases hp
  refine ⟨[(k, a, u2)], ⟨rfl, rfl, ⟨hka.is I3 rfl, hk8⟩, trivial⟩, ⟨o, es, ep, h1, h2, h3, h4, fun z hz => (by cases hz), h5⟩, fun h' tk' dd' hs => ?_⟩
  have e1 : storedAllH ([] : List (NestedKey × Addr × Value)) [(k, a, u2)] = [(k, a, u2)] := rfl
  rw [e1] at dd'
  obtain ⟨ob, es', ep', g1, g2, g3, g4, _, g5⟩ := dd'
  refine wpAny_pure ⟨.ref s.heap.objs.size, _, ?_, rfl, q2⟩
  exact d_write I3 (by rw [he]; exact True.intro) hs ⟨ob, g1⟩ (nd_ext ⟨hd, [(k, a, u2)], .cons ⟨rfl, rfl, ry⟩ .nil, ob, es', ep', g1, g2, g3, g4, g5⟩)
theorem ND.made {P : Program} {w : World} {K : PySem.W.Frag} {H : Hp} {d a : Addr} {k : NestedKey} {v : V} (e0 : H d = some (.ext (NdObj P w d []))) (hk : NkAt K H (.ref a) k) (hk8 : k.depth ≤ 8) : ND P w K (upd H d (.ext (NdObj P w d [(k, a, v)]))) d [(k, a, v)] := by
  have tk : TK H (upd H d (.ext (NdObj P w d [(k, a, v)]))) := fun t o e z => by
    rw [upd_ne (fun q => ?_)]
    · exact e
    · rw [q, e0] at e
      cases e
      rcases z with ⟨_, z⟩ | ⟨_, _, z⟩ <;> cases z
  refine ⟨upd_same, fun x hx => ?_, by show 1 ≤ sizeLine; decide⟩
  have e : x = (k, a, v) := by simpa using hx
  rw [e]
  exact ⟨hk.keep tk, hk8⟩
/-- len(d) -/
def rLenN (P : Program) (w : World) (K : PySem.W.Frag) : List V → Hp → VK → Prop := fun vs H Q => ∃ (d : Addr) (xs : List Ent), vs = [.ref d] ∧ ND P w K H d xs ∧ Q (.int xs.length) H
theorem call_lenN : CallR X (.builtin "len") (rLenN X.prog X.w X.K) := by
  intro pins s σ H vs us Q I r h
  obtain ⟨d, xs, rfl, hd, q⟩ := h
  rw [Vals.ref1 r]
  obtain ⟨hs, ys, hp, hm⟩ := hd.of I
  have hl := Paired.length hp
  have hm' : s.heap.DictKeyed (nestedKind X.prog X.w) d (pairsH ys) := ⟨ys, hm, rfl⟩
  have hz := hd.len
  have hn := line63
  have el : (pairsH ys).length = xs.length := by rw [pairsH_length, hl]
  refine call_len_slot (n := ((pairsH ys).length : Int)) hm'.typeIs F.slot_dict_len (fun Q' hq => len_keyed hs hm' hq) (by omega) (by omega) ?_
  rw [el]
  exact ⟨.int xs.length, H, (I.tok _).tok _, ⟨_, rfl⟩, q⟩
end
/-- behind the store -/
theorem ND.stored {P : Program} {w : World} {K : PySem.W.Frag} {H : Hp} {d a : Addr} {xs : List Ent} {k : NestedKey} {v : V} (h : ND P w K H d xs) (hk : NkAt K H (.ref a) k) (hk8 : k.depth ≤ 8) (hl : xs.length < sizeLine) :
    ND P w K (upd H d (.ext (NdObj P w d (xs ++ [(k, a, v)])))) d (xs ++ [(k, a, v)]) := by
  have tk : TK H (upd H d (.ext (NdObj P w d (xs ++ [(k, a, v)])))) := fun t o e z => by
    rw [upd_ne (fun q => ?_)]
    · exact e
    · rw [q, h.at_] at e
      cases e
      rcases z with ⟨_, z⟩ | ⟨_, _, z⟩ <;> cases z
  refine ⟨upd_same, fun x hx => ?_, by rw [List.length_append]; exact hl⟩
  rcases List.mem_append.mp hx with q | q
  · exact ⟨(h.keys x q).1.keep tk, (h.keys x q).2⟩
  · have e : x = (k, a, v) := by simpa using q
    rw [e]
    exact ⟨hk.keep tk, hk8⟩
theorem valN_snoc {xs : List Ent} {k : NestedKey} {a : Addr} {v : V} (h : valN xs k = none) (j : NestedKey) : valN (xs ++ [(k, a, v)]) j = if j = k then some v else valN xs j := by
  induction xs with
  | nil =>
    by_cases e : k = j
    · simp [valN, e]
    · simp [valN, e, Ne.symm e]
  | cons x r ih =>
    by_cases e1 : x.1 = k
    · simp [valN, e1] at h
    · have h' : valN r k = none := by simpa [valN, e1] using h
      by_cases e2 : x.1 = j
      · have : ¬ j = k := by rw [← e2]; exact e1
        simp [valN, e2, this]
      · have := ih h'
        simpa [valN, e2] using this
end LB
/-! What readings come to, told as data (Dp): expressions, arguments, statements, loops, comprehensions. Own text. -/
namespace LB
open PySem L2
/-! ### data that no change of a list can touch -/
mutual
def noL : PyData → Bool
  | .list _ => false
  | .dict _ => false
  | .tuple ds => noLs ds
  | _ => true
def noLs : List PyData → Bool
  | [] => true
  | d :: ds => noL d && noLs ds
end
theorem noLs_all {ds : List PyData} (h : ∀ d, d ∈ ds → noL d = true) : noLs ds = true := by
  induction ds with
  | nil => rfl
  | cons d ds ih =>
    show (noL d && noLs ds) = true
    rw [h d (List.mem_cons_self ..), ih fun e he => h e (List.mem_cons_of_mem _ he)]
    rfl
theorem noLs_mem : ∀ {ds : List PyData}, noLs ds = true → ∀ d, d ∈ ds → noL d = true
  | [], _, d, hd => by cases hd
  | e :: ds, h, d, hd => by
    have h' : (noL e && noLs ds) = true := h
    rw [Bool.and_eq_true] at h'
    rcases List.mem_cons.mp hd with q | q
    · rw [q]; exact h'.1
    · exact noLs_mem h'.2 d q
theorem noLs_map {α : Type} {f : α → PyData} {xs : List α} (h : ∀ x, noL (f x) = true) : noLs (xs.map f) = true := noLs_all fun d hd => by
  obtain ⟨x, _, rfl⟩ := List.mem_map.mp hd
  exact h x
/-- tuples stand -/
def Grow (K : PySem.W.Frag) (H H' : Hp) : Prop := ∀ a xs, SqT K H a xs → SqT K H' a xs
theorem Grow.refl {K : PySem.W.Frag} (H : Hp) : Grow K H H := fun _ _ h => h
theorem Grow.trans {K : PySem.W.Frag} {H H1 H2 : Hp} (a : Grow K H H1) (b : Grow K H1 H2) : Grow K H H2 := fun p xs h => b p xs (a p xs h)
theorem Grow.same {K : PySem.W.Frag} {H H' : Hp} (s : Same H H') : Grow K H H' := fun _ _ h => same_tup s h
theorem Grow.set {K : PySem.W.Frag} {H : Hp} {p : Addr} {xs ys : List V} (h : H p = some (.lst xs)) : Grow K H (upd H p (.lst ys)) := fun a zs q => by
  have ne : ∀ o, H a = some o → o ≠ .lst xs → a ≠ p := fun o e n z => by rw [z, h] at e; exact n (Option.some.inj e).symm
  rcases q with (q | ⟨o, q⟩) | q
  · exact .inl (.inl (by rw [upd_ne (ne _ q (by intro z; cases z))]; exact q))
  · exact .inl (.inr ⟨o, by rw [upd_ne (ne _ q (by intro z; cases z))]; exact q⟩)
  · exact .inr q
/-- a list made behind H0 may change -/
theorem Same.over {H0 H : Hp} {p : Addr} {o : HO} (s : Same H0 H) (h : H0 p = none) : Same H0 (upd H p o) := fun b u e => by
  rw [upd_ne (ne_of_none e h)]
  exact s b u e
mutual
theorem dp_grow {K : PySem.W.Frag} {H H' : Hp} (s : Grow K H H') : ∀ {d : PyData} {x : V}, noL d = true → Dp K H x d → Dp K H' x d
  | .none, _, _, h => by cases h; exact .non
  | .bool b, _, _, h => by cases h; exact .bl b
  | .int i, _, _, h => by cases h; exact .int i
  | .str z, _, _, h => by cases h; exact .str z
  | .list ds, _, n, h => by cases n
  | .tuple ds, _, n, h => by
    cases h with
    | tup h a => exact .tup (s _ _ h) (dpAll_grow s n a)
  | .dict _, _, n, h => by cases h
theorem dpAll_grow {K : PySem.W.Frag} {H H' : Hp} (s : Grow K H H') : ∀ {ds : List PyData} {xs : List V}, noLs ds = true → DpAll K H xs ds → DpAll K H' xs ds
  | [], _, _, h => by cases h; exact .nil
  | d :: ds, _, n, h => by
    have n' : (noL d && noLs ds) = true := n
    rw [Bool.and_eq_true] at n'
    cases h with
    | cons h a => exact .cons (dp_grow s n'.1 h) (dpAll_grow s n'.2 a)
end
theorem dpAll_snoc {K : PySem.W.Frag} {H : Hp} {v : V} {d : PyData} (hv : Dp K H v d) : ∀ {ds : List PyData} {vs : List V}, DpAll K H vs ds → DpAll K H (vs ++ [v]) (ds ++ [d])
  | [], _, h => by cases h; exact .cons hv .nil
  | _ :: _, _, h => by
    cases h with
    | cons h a => exact .cons h (dpAll_snoc hv a)
theorem dpAll_append {K : PySem.W.Frag} {H : Hp} {ws : List V} {es : List PyData} (hw : DpAll K H ws es) : ∀ {ds : List PyData} {vs : List V}, DpAll K H vs ds → DpAll K H (vs ++ ws) (ds ++ es)
  | [], _, h => by cases h; exact hw
  | _ :: _, _, h => by
    cases h with
    | cons h a => exact .cons h (dpAll_append hw a)
theorem dpAll_set {K : PySem.W.Frag} {H : Hp} {v : V} {d : PyData} (hv : Dp K H v d) : ∀ {ds : List PyData} {vs : List V} (i : Nat), DpAll K H vs ds → DpAll K H (vs.set i v) (ds.set i d)
  | [], _, i, h => by cases h; exact .nil
  | _ :: _, _, i, h => by
    cases h with
    | cons h a =>
      cases i with
      | zero => exact .cons hv a
      | succ i => exact .cons h (dpAll_set hv i a)
theorem dpAll_at {K : PySem.W.Frag} {H : Hp} {ds : List PyData} {vs : List V} {i : Nat} {v : V} (h : DpAll K H vs ds) (e : vs[i]? = some v) : ∃ d, ds[i]? = some d ∧ Dp K H v d := by
  have hl := dpAll_len h
  have hi : i < ds.length := by rw [← hl]; exact (List.getElem?_eq_some_iff.mp e).1
  obtain ⟨x, e1, e2⟩ := dpAll_get h (List.getElem?_eq_getElem hi)
  rw [e] at e1
  exact ⟨_, List.getElem?_eq_getElem hi, by rw [Option.some.inj e1]; exact e2⟩
theorem dpAll_ints (K : PySem.W.Frag) (H : Hp) (ns : List Int) : DpAll K H (ns.map V.int) (ns.map PyData.int) := all_ints K H ns
theorem dpAll_int_eq {K : PySem.W.Frag} {H : Hp} : ∀ {ns : List Int} {vs : List V}, DpAll K H vs (ns.map PyData.int) → vs = ns.map V.int
  | [], _, h => by cases h; rfl
  | n :: ns, _, h => by
    cases h with
    | cons h a =>
      cases h
      rw [dpAll_int_eq a]
      rfl
theorem dpAll_bl_eq {K : PySem.W.Frag} {H : Hp} : ∀ {ns : List Bool} {vs : List V}, DpAll K H vs (ns.map PyData.bool) → vs = ns.map V.bl
  | [], _, h => by cases h; rfl
  | n :: ns, _, h => by
    cases h with
    | cons h a =>
      cases h
      rw [dpAll_bl_eq a]
      rfl
theorem dpAll_str_eq {K : PySem.W.Frag} {H : Hp} : ∀ {ns : List Str} {vs : List V}, DpAll K H vs (ns.map PyData.str) → vs = ns.map V.str
  | [], _, h => by cases h; rfl
  | n :: ns, _, h => by
    cases h with
    | cons h a =>
      cases h
      rw [dpAll_str_eq a]
      rfl
/-! ### what comes of an expression -/
def EvD (K : PySem.W.Frag) (te : TE) (σ : L2.St) (H : Hp) (d : PyData) : Prop := ∀ H1, Same H H1 → ∀ Q : VK, (∀ v H2, Same H1 H2 → Dp K H2 v d → Q v H2) → te σ H1 Q
/-- a new list -/
def EvN (K : PySem.W.Frag) (te : TE) (σ : L2.St) (H : Hp) (ds : List PyData) : Prop := ∀ H1, Same H H1 → ∀ Q : VK, (∀ p vs H2, H1 p = none → Same H1 H2 → H2 p = some (.lst vs) → DpAll K H2 vs ds → Q (.ref p) H2) → te σ H1 Q
def EvB (tt : TT) (σ : L2.St) (H : Hp) (b : Bool) : Prop := ∀ H1, Same H H1 → ∀ Q : Bool → Hp → Prop, (∀ H2, Same H1 H2 → Q b H2) → tt σ H1 Q
def EvA (K : PySem.W.Frag) (ta : TA) (σ : L2.St) (H : Hp) (ds : List PyData) : Prop := ∀ H1, Same H H1 → ∀ Q : List V → Hp → Prop, (∀ vs H2, Same H1 H2 → DpAll K H2 vs ds → Q vs H2) → ta σ H1 Q
def EvO (to : TO) (σ : L2.St) (H : Hp) (o : Option Int) : Prop := ∀ H1, Same H H1 → ∀ Q : Option Int → Hp → Prop, (∀ H2, Same H1 H2 → Q o H2) → to σ H1 Q
/-- the promise of a def that tells data -/
def spD (K : PySem.W.Frag) {ι : Type} (args : ι → List PyData) (pre : ι → Prop) (res : ι → PyData) : Sp := fun vs H Q _ => ∃ i, pre i ∧ DpAll K H vs (args i) ∧ ∀ v H', Same H H' → Dp K H' v (res i) → Q v H'
/-- .. a new list -/
def spN (K : PySem.W.Frag) {ι : Type} (args : ι → List PyData) (pre : ι → Prop) (res : ι → List PyData) : Sp := fun vs H Q _ => ∃ i, pre i ∧ DpAll K H vs (args i) ∧ ∀ p us H', H p = none → Same H H' → H' p = some (.lst us) → DpAll K H' us (res i) → Q (.ref p) H'
theorem spN_D {K : PySem.W.Frag} {ι : Type} {args : ι → List PyData} {pre : ι → Prop} {res : ι → List PyData} (vs : List V) (H : Hp) (Q : VK) (E : XK) (h : spD K args pre (fun i => .list (res i)) vs H Q E) : spN K args pre res vs H Q E := by
  obtain ⟨i, h1, h2, k⟩ := h
  exact ⟨i, h1, h2, fun p us H' _ s e a => k _ _ s (.lst (SqL.of e) a)⟩
section
variable {K : PySem.W.Frag} {σ : L2.St} {H H' : Hp} {ta tb tc te : TE} {tt tu tw : TT} {d e f : PyData} {ds es : List PyData}
theorem EvD.mono (s : Same H H') (h : EvD K te σ H d) : EvD K te σ H' d := fun H1 a Q q => h H1 (s.trans a) Q q
theorem EvN.mono (s : Same H H') (h : EvN K te σ H ds) : EvN K te σ H' ds := fun H1 a Q q => h H1 (s.trans a) Q q
theorem EvB.mono {b : Bool} (s : Same H H') (h : EvB tt σ H b) : EvB tt σ H' b := fun H1 a Q q => h H1 (s.trans a) Q q
theorem EvA.mono {ta : TA} (s : Same H H') (h : EvA K ta σ H ds) : EvA K ta σ H' ds := fun H1 a Q q => h H1 (s.trans a) Q q
theorem EvD.eq (h : EvD K te σ H d) (q : d = e) : EvD K te σ H e := by rw [← q]; exact h
theorem EvN.eq (h : EvN K te σ H ds) (q : ds = es) : EvN K te σ H es := by rw [← q]; exact h
theorem EvB.eq {a b : Bool} (h : EvB tt σ H a) (q : a = b) : EvB tt σ H b := by rw [← q]; exact h
theorem EvN.toD (h : EvN K te σ H ds) : EvD K te σ H (.list ds) := fun H1 s Q q => h H1 s Q fun p vs H2 _ s2 e a => q _ H2 s2 (.lst (SqL.of e) a)
theorem ed_var {i : Nat} {v : V} (h : σ[i]? = some (some v)) (hd : Dp K H v d) : EvD K (tVar i) σ H d := fun H1 s Q q => ⟨v, h, q v H1 (Same.refl _) (dp_same s hd)⟩
theorem ed_c {v : V} (hd : ∀ H, Dp K H v d) : EvD K (tC v) σ H d := fun H1 _ Q q => q v H1 (Same.refl _) (hd _)
theorem ed_int {i : Int} : EvD K (tC (.int i)) σ H (.int i) := ed_c fun _ => .int i
theorem ed_str {x : Str} : EvD K (tC (.str x)) σ H (.str x) := ed_c fun _ => .str x
theorem ed_bl {b : Bool} : EvD K (tC (.bl b)) σ H (.bool b) := ed_c fun _ => .bl b
theorem ed_non : EvD K (tC .non) σ H .none := ed_c fun _ => .non
/-- a binary operator told by data -/
theorem ed_op {r : R2} (ha : EvD K ta σ H d) (hb : EvD K tb σ H e) (hr : ∀ x y H1, Same H H1 → Dp K H1 x d → Dp K H1 y e → ∀ Q : VK, (∀ v H2, Same H1 H2 → Dp K H2 v f → Q v H2) → r x y H1 Q) : EvD K (tOp r ta tb) σ H f := fun H1 s Q q =>
  ha H1 s _ fun x H2 s2 dx => hb H2 (s.trans s2) _ fun y H3 s3 dy => hr x y H3 ((s.trans s2).trans s3) (dp_same s3 dx) dy Q fun v H4 s4 dv => q v H4 ((s2.trans s3).trans s4) dv
theorem en_op {r : R2} (ha : EvD K ta σ H d) (hb : EvD K tb σ H e) (hr : ∀ x y H1, Same H H1 → Dp K H1 x d → Dp K H1 y e → ∀ Q : VK, (∀ p vs H2, H1 p = none → Same H1 H2 → H2 p = some (.lst vs) → DpAll K H2 vs ds → Q (.ref p) H2) → r x y H1 Q) : EvN K (tOp r ta tb) σ H ds := fun H1 s Q q =>
  ha H1 s _ fun x H2 s2 dx => hb H2 (s.trans s2) _ fun y H3 s3 dy => hr x y H3 ((s.trans s2).trans s3) (dp_same s3 dx) dy Q fun p vs H4 n s4 h4 a4 => q p vs H4 ((s2.trans s3).free n) ((s2.trans s3).trans s4) h4 a4
theorem ed_I {g : Int → Int → Int} {i j : Int} (ha : EvD K ta σ H (.int i)) (hb : EvD K tb σ H (.int j)) : EvD K (tOp (rI0 fun i j => .int (g i j)) ta tb) σ H (.int (g i j)) :=
  ed_op ha hb fun x y H1 _ dx dy Q q => by
    cases dx; cases dy
    exact ⟨i, j, rfl, rfl, q _ H1 (Same.refl _) (.int _)⟩
theorem ed_IC {C : Int → Int → Prop} {g : Int → Int → Int} {i j : Int} (ha : EvD K ta σ H (.int i)) (hb : EvD K tb σ H (.int j)) (hc : C i j) : EvD K (tOp (rI C fun i j => .int (g i j)) ta tb) σ H (.int (g i j)) :=
  ed_op ha hb fun x y H1 _ dx dy Q q => by
    cases dx; cases dy
    exact ⟨i, j, rfl, rfl, hc, q _ H1 (Same.refl _) (.int _)⟩
theorem ed_cI {g : Int → Int → Bool} {i j : Int} (ha : EvD K ta σ H (.int i)) (hb : EvD K tb σ H (.int j)) : EvD K (tOp (rI0 fun i j => .bl (g i j)) ta tb) σ H (.bool (g i j)) :=
  ed_op ha hb fun x y H1 _ dx dy Q q => by
    cases dx; cases dy
    exact ⟨i, j, rfl, rfl, q _ H1 (Same.refl _) (.bl _)⟩
theorem ed_neg {i : Int} (ha : EvD K ta σ H (.int i)) : EvD K (tUn (rU fun i => .int (-i)) ta) σ H (.int (-i)) := fun H1 s Q q =>
  ha H1 s _ fun x H2 s2 dx => by
    cases dx
    exact ⟨i, rfl, q _ H2 s2 (.int _)⟩
/-- == and != of flat data -/
def flatD : PyData → Option V
  | .none => some .non
  | .bool b => some (.bl b)
  | .int i => some (.int i)
  | .str x => some (.str x)
  | _ => none
theorem flat_dp {v w : V} (h : flatD d = some w) (hd : Dp K H v d) : v = w := by
  cases hd <;> first | (cases h; rfl) | cases h
theorem ed_eq {x y : V} {b : Bool} (ha : EvD K ta σ H d) (hb : EvD K tb σ H e) (h1 : flatD d = some x) (h2 : flatD e = some y) (hs : scal x y = true) (hb2 : decide (x = y) = b) : EvD K (tOp rEq ta tb) σ H (.bool b) :=
  ed_op ha hb fun u v H1 _ dx dy Q q => by
    rw [flat_dp h1 dx, flat_dp h2 dy]
    exact ⟨hs, by rw [hb2]; exact q _ H1 (Same.refl _) (.bl _)⟩
theorem ed_ne {x y : V} {b : Bool} (ha : EvD K ta σ H d) (hb : EvD K tb σ H e) (h1 : flatD d = some x) (h2 : flatD e = some y) (hs : scal x y = true) (hb2 : (!decide (x = y)) = b) : EvD K (tOp rNe ta tb) σ H (.bool b) :=
  ed_op ha hb fun u v H1 _ dx dy Q q => by
    rw [flat_dp h1 dx, flat_dp h2 dy]
    exact ⟨hs, by rw [hb2]; exact q _ H1 (Same.refl _) (.bl _)⟩
theorem decV_int {i j : Int} : decide (V.int i = V.int j) = decide (i = j) := by simp
theorem decV_str {i j : Str} : decide (V.str i = V.str j) = decide (i = j) := by simp
theorem decV_bl {i j : Bool} : decide (V.bl i = V.bl j) = decide (i = j) := by simp
theorem ed_eqI {i j : Int} (ha : EvD K ta σ H (.int i)) (hb : EvD K tb σ H (.int j)) : EvD K (tOp rEq ta tb) σ H (.bool (decide (i = j))) := ed_eq ha hb rfl rfl rfl decV_int
theorem ed_eqS {i j : Str} (ha : EvD K ta σ H (.str i)) (hb : EvD K tb σ H (.str j)) : EvD K (tOp rEq ta tb) σ H (.bool (decide (i = j))) := ed_eq ha hb rfl rfl rfl decV_str
theorem ed_eqB {i j : Bool} (ha : EvD K ta σ H (.bool i)) (hb : EvD K tb σ H (.bool j)) : EvD K (tOp rEq ta tb) σ H (.bool (decide (i = j))) := ed_eq ha hb rfl rfl rfl decV_bl
theorem ed_neI {i j : Int} (ha : EvD K ta σ H (.int i)) (hb : EvD K tb σ H (.int j)) : EvD K (tOp rNe ta tb) σ H (.bool (!decide (i = j))) := ed_ne ha hb rfl rfl rfl (by rw [decV_int])
theorem ed_neS {i j : Str} (ha : EvD K ta σ H (.str i)) (hb : EvD K tb σ H (.str j)) : EvD K (tOp rNe ta tb) σ H (.bool (!decide (i = j))) := ed_ne ha hb rfl rfl rfl (by rw [decV_str])
theorem ed_neB {i j : Bool} (ha : EvD K ta σ H (.bool i)) (hb : EvD K tb σ H (.bool j)) : EvD K (tOp rNe ta tb) σ H (.bool (!decide (i = j))) := ed_ne ha hb rfl rfl rfl (by rw [decV_bl])
/-- == of data -/
theorem ed_eqD (ha : EvD K ta σ H d) (hb : EvD K tb σ H e) (h1 : SeqAt.shaped d = true) (h2 : SeqAt.shaped e = true) : EvD K (tOp (rEqD K) ta tb) σ H (.bool (PyData.eqv d e)) :=
  ed_op ha hb fun u v H1 _ dx dy Q q => ⟨d, e, dx, dy, h1, h2, q _ H1 (Same.refl _) (.bl _)⟩
theorem ed_neD (ha : EvD K ta σ H d) (hb : EvD K tb σ H e) (h1 : SeqAt.shaped d = true) (h2 : SeqAt.shaped e = true) : EvD K (tOp (rNeD K) ta tb) σ H (.bool (!PyData.eqv d e)) :=
  ed_op ha hb fun u v H1 _ dx dy Q q => ⟨d, e, dx, dy, h1, h2, q _ H1 (Same.refl _) (.bl _)⟩
/-- x is None, x is not None -/
def isNo : PyData → Bool
  | .none => true
  | _ => false
theorem dp_isNo {v : V} (h : Dp K H v d) : decide (v = .non) = isNo d := by
  cases h <;> simp [isNo]
theorem ed_isN (ha : EvD K ta σ H d) : EvD K (tOp (fun x y H Q => y = .non ∧ Q (.bl (decide (x = .non))) H) ta (tC .non)) σ H (.bool (isNo d)) := fun H1 s Q q =>
  ha H1 s _ fun x H2 s2 dx => ⟨rfl, by rw [dp_isNo dx]; exact q _ H2 s2 (.bl _)⟩
theorem ed_notN (ha : EvD K ta σ H d) : EvD K (tOp (fun x y H Q => y = .non ∧ Q (.bl (!decide (x = .non))) H) ta (tC .non)) σ H (.bool (!isNo d)) := fun H1 s Q q =>
  ha H1 s _ fun x H2 s2 dx => ⟨rfl, by rw [dp_isNo dx]; exact q _ H2 s2 (.bl _)⟩
/-- x in xs, of flat data -/
def eqF : PyData → PyData → Bool
  | .none, .none => true
  | .bool a, .bool b => a == b
  | .bool a, .int b => (if a then 1 else 0) == b
  | .int a, .bool b => a == (if b then 1 else 0)
  | .int a, .int b => a == b
  | .str a, .str b => a == b
  | _, _ => false
def inD (d : PyData) (ds : List PyData) : Bool := ds.any fun e => eqF e d
def flats : List PyData → Bool
  | [] => true
  | d :: ds => (flatD d).isSome && flats ds
theorem flat_eqF {v w : V} {d e : PyData} (h1 : (flatD d).isSome = true) (h2 : (flatD e).isSome = true) (a : Dp K H v d) (b : Dp K H w e) : eqV v w = eqF d e := by
  cases a <;> cases b <;> first | rfl | (cases h1; done) | (cases h2; done)
theorem flat_flatV {v : V} {d : PyData} (h : (flatD d).isSome = true) (a : Dp K H v d) : flatV v = true := by
  cases a <;> first | rfl | cases h
theorem flats_all : ∀ {ds : List PyData} {vs : List V}, flats ds = true → DpAll K H vs ds → vs.all flatV = true
  | [], _, _, h => by cases h; rfl
  | d :: ds, _, n, h => by
    have n' : ((flatD d).isSome && flats ds) = true := n
    rw [Bool.and_eq_true] at n'
    cases h with
    | cons h a => rw [List.all_cons, flat_flatV n'.1 h, flats_all n'.2 a]; rfl
theorem inV_inD {v : V} {d : PyData} (hd : (flatD d).isSome = true) (a : Dp K H v d) : ∀ {ds : List PyData} {vs : List V}, flats ds = true → DpAll K H vs ds → inV v vs = inD d ds
  | [], _, _, h => by cases h; rfl
  | e :: ds, _, n, h => by
    have n' : ((flatD e).isSome && flats ds) = true := n
    rw [Bool.and_eq_true] at n'
    cases h with
    | cons h b =>
      have ih := inV_inD hd a n'.2 b
      unfold inV inD at ih ⊢
      rw [List.any_cons, List.any_cons, ih, flat_eqF n'.1 hd h a]
theorem flats_ints (ns : List Int) : flats (ns.map PyData.int) = true := by
  induction ns with
  | nil => rfl
  | cons n ns ih => exact ih
theorem flats_strs (ns : List Str) : flats (ns.map PyData.str) = true := by
  induction ns with
  | nil => rfl
  | cons n ns ih => exact ih
theorem inD_int (i : Int) (ns : List Int) : inD (.int i) (ns.map PyData.int) = decide (i ∈ ns) := by
  induction ns with
  | nil => rfl
  | cons n ns ih =>
    unfold inD at ih ⊢
    rw [List.map_cons, List.any_cons, ih]
    show (n == i || _) = _
    by_cases h : i = n
    · simp [h]
    · have h2 : ¬ n = i := fun e => h e.symm
      simp [h, h2]
theorem inD_none (ns : List Int) : inD .none (ns.map PyData.int) = false := by
  induction ns with
  | nil => rfl
  | cons n ns ih => exact ih
theorem ed_inT {b : Bool} (ha : EvD K ta σ H d) (hb : EvD K tb σ H (.tuple ds)) (h1 : (flatD d).isSome = true) (h2 : flats ds = true) (hi : inD d ds = b) : EvD K (tOp (rIn K false) ta tb) σ H (.bool b) :=
  ed_op ha hb fun x y H1 _ dx dy Q q => by
    cases dy with
    | tup h a => exact ⟨_, _, rfl, .inr h, flat_flatV h1 dx, flats_all h2 a, by rw [inV_inD h1 dx h2 a, hi]; exact q _ H1 (Same.refl _) (.bl _)⟩
theorem ed_inL {b : Bool} (ha : EvD K ta σ H d) (hb : EvD K tb σ H (.list ds)) (h1 : (flatD d).isSome = true) (h2 : flats ds = true) (hi : inD d ds = b) : EvD K (tOp (rIn K false) ta tb) σ H (.bool b) :=
  ed_op ha hb fun x y H1 _ dx dy Q q => by
    cases dy with
    | lst h a => exact ⟨_, _, rfl, .inl h, flat_flatV h1 dx, flats_all h2 a, by rw [inV_inD h1 dx h2 a, hi]; exact q _ H1 (Same.refl _) (.bl _)⟩
/-- subscripts -/
theorem atI_dp {vs : List V} {i : Int} (a : DpAll K H vs ds) (h : atI ds i = some d) : ∃ v, atI vs i = some v ∧ Dp K H v d := by
  unfold atI at h ⊢
  rw [dpAll_len a]
  cases e : ixN ds.length i with
  | none => rw [e] at h; cases h
  | some j =>
    rw [e] at h
    exact dpAll_get a h
theorem ed_ixT {i : Int} (ha : EvD K ta σ H (.tuple ds)) (hb : EvD K tb σ H (.int i)) (h : atI ds i = some d) : EvD K (tOp (rIxT K) ta tb) σ H d :=
  ed_op ha hb fun x y H1 _ dx dy Q q => by
    cases dy
    cases dx with
    | tup hs a =>
      obtain ⟨v, e1, e2⟩ := atI_dp a h
      exact ⟨_, _, i, v, rfl, rfl, hs, e1, q _ H1 (Same.refl _) e2⟩
theorem ed_ixL {i : Int} (ha : EvD K ta σ H (.list ds)) (hb : EvD K tb σ H (.int i)) (h : atI ds i = some d) : EvD K (tOp (rIxL K) ta tb) σ H d :=
  ed_op ha hb fun x y H1 _ dx dy Q q => by
    cases dy
    cases dx with
    | lst hs a =>
      obtain ⟨v, e1, e2⟩ := atI_dp a h
      exact ⟨_, _, i, v, rfl, rfl, hs, e1, q _ H1 (Same.refl _) e2⟩
theorem atD_nat {α : Type} {xs : List α} {j : Nat} {v : α} {i : Int} (e : i = (j : Int)) (h : xs[j]? = some v) : atI xs i = some v := by
  rw [e]
  exact atI_nat h
theorem atD_last {α : Type} {xs : List α} {v : α} {j : Nat} (hj : xs.length = j + 1) (h : xs[j]? = some v) : atI xs (-1) = some v := by
  unfold atI ixN
  rw [if_neg (by decide), if_pos (by omega)]
  show xs[(-1 + (xs.length : Int)).toNat]? = some v
  rw [show (-1 + (xs.length : Int)).toNat = j by omega]
  exact h
/-! ### tests, and, or, not -/
theorem eb_of {b : Bool} (h : EvD K te σ H (.bool b)) : EvB (tTest te) σ H b := fun H1 s Q q => h H1 s _ fun v H2 s2 dv => by
  cases dv
  exact ⟨b, rfl, q H2 s2⟩
theorem eb_val {b : Bool} (h : EvD K te σ H (.bool b)) : EvB (tB te) σ H b := fun H1 s Q q => h H1 s _ fun v H2 s2 dv => by
  cases dv
  exact ⟨b, rfl, q H2 s2⟩
theorem eb_and {a b : Bool} (h1 : EvB tt σ H a) (h2 : a = true → EvB tu σ H b) : EvB (tAnd tt tu) σ H (a && b) := fun H1 s Q q => h1 H1 s _ fun H2 s2 => by
  cases a with
  | true => exact iteT (h2 rfl H2 (s.trans s2) Q fun H3 s3 => q H3 (s2.trans s3))
  | false => exact iteF (q H2 s2)
theorem eb_or {a b : Bool} (h1 : EvB tt σ H a) (h2 : a = false → EvB tu σ H b) : EvB (tOr tt tu) σ H (a || b) := fun H1 s Q q => h1 H1 s _ fun H2 s2 => by
  cases a with
  | true => exact iteT (q H2 s2)
  | false => exact iteF (h2 rfl H2 (s.trans s2) Q fun H3 s3 => q H3 (s2.trans s3))
theorem eb_not {a : Bool} (h1 : EvB tt σ H a) : EvB (tNot tt) σ H (!a) := fun H1 s Q q => h1 H1 s _ fun H2 s2 => q H2 s2
theorem ed_and {a b : Bool} (h1 : EvD K ta σ H (.bool a)) (h2 : a = true → EvD K tb σ H (.bool b)) : EvD K (tAndV ta tb) σ H (.bool (a && b)) := fun H1 s Q q => h1 H1 s _ fun v H2 s2 dv => by
  cases dv
  cases a with
  | true => exact ⟨true, rfl, iteT (h2 rfl H2 (s.trans s2) Q fun w H3 s3 dw => q w H3 (s2.trans s3) dw)⟩
  | false => exact ⟨false, rfl, iteF (q _ H2 s2 (.bl _))⟩
theorem ed_or {a b : Bool} (h1 : EvD K ta σ H (.bool a)) (h2 : a = false → EvD K tb σ H (.bool b)) : EvD K (tOrV ta tb) σ H (.bool (a || b)) := fun H1 s Q q => h1 H1 s _ fun v H2 s2 dv => by
  cases dv
  cases a with
  | true => exact ⟨true, rfl, iteT (q _ H2 s2 (.bl _))⟩
  | false => exact ⟨false, rfl, iteF (h2 rfl H2 (s.trans s2) Q fun w H3 s3 dw => q w H3 (s2.trans s3) dw)⟩
theorem ed_not {a : Bool} (h1 : EvD K ta σ H (.bool a)) : EvD K (tNotV ta) σ H (.bool (!a)) := fun H1 s Q q => h1 H1 s _ fun v H2 s2 dv => by
  cases dv
  exact ⟨a, rfl, q _ H2 s2 (.bl _)⟩
theorem ed_if {b : Bool} (h : EvB tt σ H b) (h1 : b = true → EvD K ta σ H d) (h2 : b = false → EvD K tb σ H e) : EvD K (tIf tt ta tb) σ H (if b = true then d else e) := fun H1 s Q q => h H1 s _ fun H2 s2 => by
  cases b with
  | true => exact iteT (h1 rfl H2 (s.trans s2) Q fun v H3 s3 dv => q v H3 (s2.trans s3) dv)
  | false => exact iteF (h2 rfl H2 (s.trans s2) Q fun v H3 s3 dv => q v H3 (s2.trans s3) dv)
theorem en_if {b : Bool} (h : EvB tt σ H b) (h1 : b = true → EvN K ta σ H ds) (h2 : b = false → EvN K tb σ H es) : EvN K (tIf tt ta tb) σ H (if b = true then ds else es) := fun H1 s Q q => h H1 s _ fun H2 s2 => by
  cases b with
  | true => exact iteT (h1 rfl H2 (s.trans s2) Q fun p vs H3 n s3 dv a => q p vs H3 (s2.free n) (s2.trans s3) dv a)
  | false => exact iteF (h2 rfl H2 (s.trans s2) Q fun p vs H3 n s3 dv a => q p vs H3 (s2.free n) (s2.trans s3) dv a)
/-- the truth of a list, of a tuple -/
theorem eb_truthL (h : EvD K ta σ H (.list ds)) : EvB (fun σ H Q => ta σ H fun x H' => ∃ k, TruV K x H' k ∧ Q k H') σ H (!ds.isEmpty) := fun H1 s Q q => h H1 s _ fun v H2 s2 dv => by
  cases dv with
  | lst hs a =>
    refine ⟨_, .inl ⟨_, hs, rfl⟩, ?_⟩
    have e := dpAll_len a
    rename_i p xs
    have e2 : xs.isEmpty = ds.isEmpty := by cases xs <;> cases ds <;> first | rfl | (simp at e)
    rw [e2]
    exact q H2 s2
theorem eb_truthT (h : EvD K ta σ H (.tuple ds)) : EvB (fun σ H Q => ta σ H fun x H' => ∃ k, TruV K x H' k ∧ Q k H') σ H (!ds.isEmpty) := fun H1 s Q q => h H1 s _ fun v H2 s2 dv => by
  cases dv with
  | tup hs a =>
    refine ⟨_, .inr (.inl ⟨_, hs, rfl⟩), ?_⟩
    have e := dpAll_len a
    rename_i p xs
    have e2 : xs.isEmpty = ds.isEmpty := by cases xs <;> cases ds <;> first | rfl | (simp at e)
    rw [e2]
    exact q H2 s2
/-! ### displays, calls -/
theorem ea_nil : EvA K tNil σ H [] := fun H1 _ Q q => q [] H1 (Same.refl _) .nil
theorem ea_cons {tr : TA} (h : EvD K ta σ H d) (hr : EvA K tr σ H ds) : EvA K (tCons ta tr) σ H (d :: ds) := fun H1 s Q q =>
  h H1 s _ fun v H2 s2 dv => hr H2 (s.trans s2) _ fun vs H3 s3 a => q _ H3 (s2.trans s3) (.cons (dp_same s3 dv) a)
theorem ed_tup {t : TA} (h : EvA K t σ H ds) (hl : ds.length ≤ 1000) : EvD K (tTup t) σ H (.tuple ds) := fun H1 s Q q =>
  h H1 s _ fun vs H2 s2 a => ⟨by rw [dpAll_len a]; exact small hl, fun p hp => q _ _ (s2.trans (same_new hp _)) (.tup (tup_of upd_same) (dpAll_same (same_new hp _) a))⟩
theorem en_lst {t : TA} (h : EvA K t σ H ds) (hl : ds.length ≤ 1000) : EvN K (tLst t) σ H ds := fun H1 s Q q =>
  h H1 s _ fun vs H2 s2 a => ⟨by rw [dpAll_len a]; exact small hl, fun p hp => q p vs _ (s2.free hp) (s2.trans (same_new hp _)) upd_same (dpAll_same (same_new hp _) a)⟩
theorem ed_cal {ι : Type} {args : ι → List PyData} {pre : ι → Prop} {res : ι → PyData} {t : TA} (i : ι) (h : EvA K t σ H (args i)) (hp : pre i) : EvD K (tCal (spD K args pre res) t) σ H (res i) := fun H1 s Q q =>
  h H1 s _ fun vs H2 s2 a => ⟨i, hp, a, fun v H3 s3 dv => q v H3 (s2.trans s3) dv⟩
theorem en_cal {ι : Type} {args : ι → List PyData} {pre : ι → Prop} {res : ι → List PyData} {t : TA} (i : ι) (h : EvA K t σ H (args i)) (hp : pre i) : EvN K (tCal (spN K args pre res) t) σ H (res i) := fun H1 s Q q =>
  h H1 s _ fun vs H2 s2 a => ⟨i, hp, a, fun p us H3 n s3 e b => q p us H3 (s2.free n) (s2.trans s3) e b⟩
theorem ed_len (h : EvD K ta σ H d) (hd : d = .list ds ∨ d = .tuple ds) : EvD K (tCB (fun xs H Q => ∃ p ys, xs = [.ref p] ∧ (SqL K H p ys ∨ SqT K H p ys) ∧ Q (.int ys.length) H) (tCons ta tNil)) σ H (.int (ds.length : Nat)) := fun H1 s Q q =>
  h H1 s _ fun v H2 s2 dv => by
    rcases hd with rfl | rfl
    · cases dv with
      | lst hs a => exact ⟨_, _, rfl, .inl hs, by rw [dpAll_len a]; exact q _ H2 s2 (.int _)⟩
    · cases dv with
      | tup hs a => exact ⟨_, _, rfl, .inr hs, by rw [dpAll_len a]; exact q _ H2 s2 (.int _)⟩
theorem ed_lenL (h : EvD K ta σ H (.list ds)) : EvD K (tCB (fun xs H Q => ∃ p ys, xs = [.ref p] ∧ (SqL K H p ys ∨ SqT K H p ys) ∧ Q (.int ys.length) H) (tCons ta tNil)) σ H (.int (ds.length : Nat)) := ed_len h (.inl rfl)
theorem ed_lenT (h : EvD K ta σ H (.tuple ds)) : EvD K (tCB (fun xs H Q => ∃ p ys, xs = [.ref p] ∧ (SqL K H p ys ∨ SqT K H p ys) ∧ Q (.int ys.length) H) (tCons ta tNil)) σ H (.int (ds.length : Nat)) := ed_len h (.inr rfl)
theorem ed_max2 {i j : Int} (ha : EvD K ta σ H (.int i)) (hb : EvD K tb σ H (.int j)) : EvD K (tCB (fun xs H Q => ∃ i j, xs = [.int i, .int j] ∧ Q (.int (if j > i then j else i)) H) (tCons ta (tCons tb tNil))) σ H (.int (max i j)) := fun H1 s Q q =>
  ha H1 s _ fun v H2 s2 dv => hb H2 (s.trans s2) _ fun u H3 s3 du => by
    cases dv; cases du
    refine ⟨i, j, rfl, ?_⟩
    have e : (if j > i then j else i) = max i j := by split <;> omega
    rw [e]
    exact q _ H3 (s2.trans s3) (.int _)
theorem ed_min2 {i j : Int} (ha : EvD K ta σ H (.int i)) (hb : EvD K tb σ H (.int j)) : EvD K (tCB (fun xs H Q => ∃ i j, xs = [.int i, .int j] ∧ Q (.int (if j < i then j else i)) H) (tCons ta (tCons tb tNil))) σ H (.int (min i j)) := fun H1 s Q q =>
  ha H1 s _ fun v H2 s2 dv => hb H2 (s.trans s2) _ fun u H3 s3 du => by
    cases dv; cases du
    refine ⟨i, j, rfl, ?_⟩
    have e : (if j < i then j else i) = min i j := by split <;> omega
    rw [e]
    exact q _ H3 (s2.trans s3) (.int _)
theorem en_list (h : EvD K ta σ H d) (hd : d = .list ds ∨ d = .tuple ds) : EvN K (tCB (fun xs H Q => ∃ p ys, xs = [.ref p] ∧ (SqL K H p ys ∨ SqT K H p ys) ∧ ∀ l, H l = none → Q (.ref l) (upd H l (.lst ys))) (tCons ta tNil)) σ H ds := fun H1 s Q q =>
  h H1 s _ fun v H2 s2 dv => by
    rcases hd with rfl | rfl
    · cases dv with
      | lst hs a => exact ⟨_, _, rfl, .inl hs, fun l hl => q l _ _ (s2.free hl) (s2.trans (same_new hl _)) upd_same (dpAll_same (same_new hl _) a)⟩
    · cases dv with
      | tup hs a => exact ⟨_, _, rfl, .inr hs, fun l hl => q l _ _ (s2.free hl) (s2.trans (same_new hl _)) upd_same (dpAll_same (same_new hl _) a)⟩
theorem ed_tuple (h : EvD K ta σ H (.list ds)) : EvD K (tCB (fun xs H Q => ∃ p ys, xs = [.ref p] ∧ ((SqL K H p ys ∧ ∀ l, H l = none → Q (.ref l) (upd H l (.tup ys))) ∨ (SqT K H p ys ∧ Q (.ref p) H))) (tCons ta tNil)) σ H (.tuple ds) := fun H1 s Q q =>
  h H1 s _ fun v H2 s2 dv => by
    cases dv with
    | lst hs a => exact ⟨_, _, rfl, .inl ⟨hs, fun l hl => q _ _ (s2.trans (same_new hl _)) (.tup (tup_of upd_same) (dpAll_same (same_new hl _) a))⟩⟩
theorem ed_sum {ns : List Int} (h : EvD K ta σ H (.list (ns.map .int))) : EvD K (tCB (rSum K) (tCons ta tNil)) σ H (.int ns.sum) := fun H1 s Q q =>
  h H1 s _ fun v H2 s2 dv => by
    cases dv with
    | lst hs a =>
      rw [dpAll_int_eq a] at hs
      exact ⟨_, ns, rfl, hs, q _ H2 s2 (.int _)⟩
theorem ed_all {bs : List Bool} (h : EvD K ta σ H (.list (bs.map .bool))) : EvD K (tCB (rAll K) (tCons ta tNil)) σ H (.bool (bs.all id)) := fun H1 s Q q =>
  h H1 s _ fun v H2 s2 dv => by
    cases dv with
    | lst hs a =>
      rw [dpAll_bl_eq a] at hs
      exact ⟨_, bs, rfl, hs, q _ H2 s2 (.bl _)⟩
theorem ed_any {bs : List Bool} (h : EvD K ta σ H (.list (bs.map .bool))) : EvD K (tCB (rAny K) (tCons ta tNil)) σ H (.bool (bs.any id)) := fun H1 s Q q =>
  h H1 s _ fun v H2 s2 dv => by
    cases dv with
    | lst hs a =>
      rw [dpAll_bl_eq a] at hs
      exact ⟨_, bs, rfl, hs, q _ H2 s2 (.bl _)⟩
/-- the greatest, the least of some -/
def maxL : List Int → Int
  | [] => 0
  | x :: xs => xs.foldl max x
def minL : List Int → Int
  | [] => 0
  | x :: xs => xs.foldl min x
theorem foldl_max_le : ∀ (xs : List Int) (a : Int), a ≤ xs.foldl max a ∧ (∀ y, y ∈ xs → y ≤ xs.foldl max a) ∧ (xs.foldl max a = a ∨ xs.foldl max a ∈ xs)
  | [], a => ⟨Int.le_refl _, fun y h => (by cases h), .inl rfl⟩
  | x :: xs, a => by
    obtain ⟨h1, h2, h3⟩ := foldl_max_le xs (max a x)
    refine ⟨?_, fun y hy => ?_, ?_⟩
    · show a ≤ xs.foldl max (max a x)
      omega
    · show y ≤ xs.foldl max (max a x)
      rcases List.mem_cons.mp hy with q | q
      · omega
      · exact h2 y q
    · show xs.foldl max (max a x) = a ∨ xs.foldl max (max a x) ∈ x :: xs
      rcases h3 with q | q
      · rw [q]
        by_cases e : x ≤ a
        · exact .inl (by omega)
        · exact .inr (by rw [show max a x = x by omega]; exact List.mem_cons_self ..)
      · exact .inr (List.mem_cons_of_mem _ q)
theorem foldl_min_le : ∀ (xs : List Int) (a : Int), xs.foldl min a ≤ a ∧ (∀ y, y ∈ xs → xs.foldl min a ≤ y) ∧ (xs.foldl min a = a ∨ xs.foldl min a ∈ xs)
  | [], a => ⟨Int.le_refl _, fun y h => (by cases h), .inl rfl⟩
  | x :: xs, a => by
    obtain ⟨h1, h2, h3⟩ := foldl_min_le xs (min a x)
    refine ⟨?_, fun y hy => ?_, ?_⟩
    · show xs.foldl min (min a x) ≤ a
      omega
    · show xs.foldl min (min a x) ≤ y
      rcases List.mem_cons.mp hy with q | q
      · omega
      · exact h2 y q
    · show xs.foldl min (min a x) = a ∨ xs.foldl min (min a x) ∈ x :: xs
      rcases h3 with q | q
      · rw [q]
        by_cases e : a ≤ x
        · exact .inl (by omega)
        · exact .inr (by rw [show min a x = x by omega]; exact List.mem_cons_self ..)
      · exact .inr (List.mem_cons_of_mem _ q)
theorem maxL_eq {ns : List Int} {m : Int} (h1 : m ∈ ns) (h2 : ∀ y, y ∈ ns → y ≤ m) : m = maxL ns := by
  cases ns with
  | nil => cases h1
  | cons x xs =>
    obtain ⟨a, b, c⟩ := foldl_max_le xs x
    show m = xs.foldl max x
    have l1 : m ≤ xs.foldl max x := by
      rcases List.mem_cons.mp h1 with q | q
      · omega
      · exact b m q
    have l2 : xs.foldl max x ≤ m := by
      rcases c with q | q
      · rw [q]; exact h2 x (List.mem_cons_self ..)
      · exact h2 _ (List.mem_cons_of_mem _ q)
    omega
theorem minL_eq {ns : List Int} {m : Int} (h1 : m ∈ ns) (h2 : ∀ y, y ∈ ns → m ≤ y) : m = minL ns := by
  cases ns with
  | nil => cases h1
  | cons x xs =>
    obtain ⟨a, b, c⟩ := foldl_min_le xs x
    show m = xs.foldl min x
    have l1 : xs.foldl min x ≤ m := by
      rcases List.mem_cons.mp h1 with q | q
      · omega
      · exact b m q
    have l2 : m ≤ xs.foldl min x := by
      rcases c with q | q
      · rw [q]; exact h2 x (List.mem_cons_self ..)
      · exact h2 _ (List.mem_cons_of_mem _ q)
    omega
theorem ed_maxL {ns : List Int} (h : EvD K ta σ H (.list (ns.map .int))) (hn : 0 < ns.length) : EvD K (tCB (rMax K) (tCons ta tNil)) σ H (.int (maxL ns)) := fun H1 s Q q =>
  h H1 s _ fun v H2 s2 dv => by
    cases dv with
    | lst hs a =>
      rw [dpAll_int_eq a] at hs
      exact ⟨_, ns, rfl, hs, hn, fun m h1 h2 => by rw [maxL_eq h1 h2]; exact q _ H2 s2 (.int _)⟩
theorem ed_minL {ns : List Int} (h : EvD K ta σ H (.list (ns.map .int))) (hn : 0 < ns.length) : EvD K (tCB (rMin K) (tCons ta tNil)) σ H (.int (minL ns)) := fun H1 s Q q =>
  h H1 s _ fun v H2 s2 dv => by
    cases dv with
    | lst hs a =>
      rw [dpAll_int_eq a] at hs
      exact ⟨_, ns, rfl, hs, hn, fun m h1 h2 => by rw [minL_eq h1 h2]; exact q _ H2 s2 (.int _)⟩
/-! ### slices, sums of lists and tuples -/
def cutD (ds : List PyData) (lo hi : Option Int) : List PyData := (ds.drop (HT.sIx ds.length 0 lo)).take (HT.sIx ds.length ds.length hi - HT.sIx ds.length 0 lo)
theorem dpAll_drop : ∀ (n : Nat) {ds : List PyData} {vs : List V}, DpAll K H vs ds → DpAll K H (vs.drop n) (ds.drop n)
  | 0, _, _, h => h
  | n + 1, [], _, h => by cases h; exact .nil
  | n + 1, _ :: _, _, h => by
    cases h with
    | cons h a => exact dpAll_drop n a
theorem dpAll_take : ∀ (n : Nat) {ds : List PyData} {vs : List V}, DpAll K H vs ds → DpAll K H (vs.take n) (ds.take n)
  | 0, _, _, h => .nil
  | n + 1, [], _, h => by cases h; exact .nil
  | n + 1, _ :: _, _, h => by
    cases h with
    | cons h a => exact .cons h (dpAll_take n a)
theorem dpAll_cut {vs : List V} {lo hi : Option Int} (a : DpAll K H vs ds) : DpAll K H (cutV vs lo hi) (cutD ds lo hi) := by
  unfold cutV cutD
  rw [dpAll_len a]
  exact dpAll_take _ (dpAll_drop _ a)
theorem eo_none : EvO tNoPart σ H none := fun H1 _ _ q => q H1 (Same.refl _)
theorem eo_some {i : Int} (h : EvD K te σ H (.int i)) : EvO (tPart te) σ H (some i) := fun H1 s _ q => h H1 s _ fun v H2 s2 dv => by
  cases dv
  exact ⟨i, rfl, q H2 s2⟩
theorem en_slL {tl th : TO} {lo hi : Option Int} (h : EvD K te σ H (.list ds)) (h1 : EvO tl σ H lo) (h2 : EvO th σ H hi) : EvN K (tSl (rSlL K) te tl th) σ H (cutD ds lo hi) := fun H1 s Q q =>
  h H1 s _ fun v H2 s2 dv => h1 H2 (s.trans s2) _ fun H3 s3 => h2 H3 ((s.trans s2).trans s3) _ fun H4 s4 => by
    cases dp_same (s3.trans s4) dv with
    | lst hs a => exact ⟨_, _, rfl, hs, fun p hp => q p _ _ (((s2.trans s3).trans s4).free hp) (((s2.trans s3).trans s4).trans (same_new hp _)) upd_same (dpAll_same (same_new hp _) (dpAll_cut a))⟩
theorem en_cat (ha : EvN K ta σ H ds) (hb : EvN K tb σ H es) (hl : ds.length + es.length ≤ 5000) : EvN K (tOp rCat ta tb) σ H (ds ++ es) := fun H1 s Q q =>
  ha H1 s _ fun p vs H2 n s2 h2 a => hb H2 (s.trans s2) _ fun p' ws H3 n' s3 h3 b => ⟨p, p', vs, ws, rfl, rfl, s3 _ _ h2, h3, by rw [dpAll_len a, dpAll_len b]; exact Nat.le_trans hl (by decide), fun l hl =>
    q l _ _ ((s2.trans s3).free hl) ((s2.trans s3).trans (same_new hl _)) upd_same (dpAll_same (same_new hl _) (dpAll_append b (dpAll_same s3 a)))⟩
end
end LB
/-! Statements, loops and comprehensions told by data. Own text. -/
namespace LB
open PySem L2
/-- all but the bad ones stand -/
structure Chg (K : PySem.W.Frag) (bad : Addr → Prop) (H H' : Hp) : Prop where
  but : ∀ a o, ¬ bad a → H a = some o → H' a = some o
  grow : Grow K H H'
def LstAt (K : PySem.W.Frag) (H : Hp) (l : Addr) (ds : List PyData) : Prop := ∃ vs, H l = some (.lst vs) ∧ DpAll K H vs ds
section
variable {K : PySem.W.Frag} {bad : Addr → Prop} {H H0 H1 H2 H' : Hp} {l m : Addr} {ds es : List PyData}
theorem Chg.refl (H : Hp) : Chg K bad H H := ⟨fun _ _ _ h => h, Grow.refl H⟩
theorem Chg.trans (a : Chg K bad H H1) (b : Chg K bad H1 H2) : Chg K bad H H2 := ⟨fun p o n e => b.but p o n (a.but p o n e), a.grow.trans b.grow⟩
theorem Chg.of (s : Same H H') : Chg K bad H H' := ⟨fun p o _ e => s p o e, Grow.same s⟩
theorem Chg.mono {bad' : Addr → Prop} (h : ∀ a, bad a → bad' a) (c : Chg K bad H H') : Chg K bad' H H' := ⟨fun p o n e => c.but p o (fun z => n (h p z)) e, c.grow⟩
theorem Chg.set {xs ys : List V} (h : H l = some (.lst xs)) (hb : bad l) : Chg K bad H (upd H l (.lst ys)) := ⟨fun p o n e => by
  rw [upd_ne (fun z => n (by rw [z]; exact hb))]
  exact e, Grow.set h⟩
theorem Same.chg (s : Same H0 H) (c : Chg K bad H H') (hb : ∀ a, bad a → H0 a = none) : Same H0 H' := fun b u e => c.but b u (fun z => by rw [hb b z] at e; cases e) (s b u e)
theorem LstAt.same (h : LstAt K H l ds) (s : Same H H') : LstAt K H' l ds := by
  obtain ⟨vs, e, a⟩ := h
  exact ⟨vs, s _ _ e, dpAll_same s a⟩
theorem LstAt.chg (h : LstAt K H l ds) (c : Chg K bad H H') (n : ¬ bad l) (hn : noLs ds = true) : LstAt K H' l ds := by
  obtain ⟨vs, e, a⟩ := h
  exact ⟨vs, c.but _ _ n e, dpAll_grow c.grow hn a⟩
theorem LstAt.dp (h : LstAt K H l ds) : Dp K H (.ref l) (.list ds) := by
  obtain ⟨vs, e, a⟩ := h
  exact .lst (SqL.of e) a
theorem LstAt.there (h : LstAt K H l ds) : ∃ o, H l = some o := by
  obtain ⟨vs, e, a⟩ := h
  exact ⟨_, e⟩
theorem LstAt.ne (h : LstAt K H l ds) (e : H m = none) : m ≠ l := fun z => by
  obtain ⟨o, q⟩ := h.there
  rw [z, q] at e
  cases e
end
/-! ### statements -/
section
variable {K : PySem.W.Frag} {σ : L2.St} {H H' : Hp} {ta tb te : TE} {tt : TT} {d e f : PyData} {ds es : List PyData} {D : Ends} {tu tw tz : TS}
theorem s_asg {i : Nat} (h : EvD K te σ H d) (k : ∀ v H1, Same H H1 → Dp K H1 v d → D.nx (σ.set i (some v)) H1) : tAsg te (gName i) D σ H := h H (Same.refl _) _ k
theorem s_asgI {i : Nat} {z : Int} (h : EvD K te σ H (.int z)) (k : ∀ H1, Same H H1 → D.nx (σ.set i (some (.int z))) H1) : tAsg te (gName i) D σ H := h H (Same.refl _) _ fun v H1 s dv => by
  cases dv
  exact k H1 s
theorem s_asgN {i : Nat} (h : EvN K te σ H ds) (k : ∀ p H1, H p = none → Same H H1 → LstAt K H1 p ds → D.nx (σ.set i (some (.ref p))) H1) : tAsg te (gName i) D σ H := h H (Same.refl _) _ fun p vs H1 n s e a => k p H1 n s ⟨vs, e, a⟩
theorem s_ret (h : EvD K te σ H d) (k : ∀ v H1, Same H H1 → Dp K H1 v d → D.rt v H1) : tRet te D σ H := h H (Same.refl _) _ k
theorem s_retN (h : EvN K te σ H ds) (k : ∀ p vs H1, H p = none → Same H H1 → H1 p = some (.lst vs) → DpAll K H1 vs ds → D.rt (.ref p) H1) : tRet te D σ H := h H (Same.refl _) _ k
theorem s_if {b : Bool} (h : EvB tt σ H b) (h1 : b = true → ∀ H1, Same H H1 → tu D σ H1) (h2 : b = false → ∀ H1, Same H H1 → tw D σ H1) : tIfS tt tu tw D σ H := h H (Same.refl _) _ fun H1 s => by
  cases b with
  | true => exact iteT (h1 rfl H1 s)
  | false => exact iteF (h2 rfl H1 s)
theorem s_drop (h : EvD K te σ H d) (k : ∀ H1, Same H H1 → D.nx σ H1) : tDrop te D σ H := h H (Same.refl _) _ fun _ H1 s _ => k H1 s
theorem s_unp2 {i j : Nat} (h : EvD K te σ H (.tuple [d, e])) (k : ∀ v w H1, Same H H1 → Dp K H1 v d → Dp K H1 w e → D.nx ((σ.set i (some v)).set j (some w)) H1) : tAsg te (gTup K 2 (gCons (gName i) (gCons (gName j) gNil))) D σ H :=
  h H (Same.refl _) _ fun v H1 s dv => by
    cases dv with
    | tup hs a =>
      cases a with
      | cons h1 a =>
        cases a with
        | cons h2 a =>
          cases a
          exact ⟨_, _, rfl, hs, rfl, _, _, rfl, _, _, rfl, rfl, k _ _ H1 s h1 h2⟩
theorem s_unp3 {i j m : Nat} (h : EvD K te σ H (.tuple [d, e, f])) (k : ∀ v w u H1, Same H H1 → Dp K H1 v d → Dp K H1 w e → Dp K H1 u f → D.nx (((σ.set i (some v)).set j (some w)).set m (some u)) H1) : tAsg te (gTup K 3 (gCons (gName i) (gCons (gName j) (gCons (gName m) gNil)))) D σ H :=
  h H (Same.refl _) _ fun v H1 s dv => by
    cases dv with
    | tup hs a =>
      cases a with
      | cons h1 a =>
        cases a with
        | cons h2 a =>
          cases a with
          | cons h3 a =>
            cases a
            exact ⟨_, _, rfl, hs, rfl, _, _, rfl, _, _, rfl, _, _, rfl, rfl, k _ _ _ H1 s h1 h2 h3⟩
/-- xs.append(e) -/
theorem s_app {i : Nat} {l : Addr} {bad : Addr → Prop} (hv : σ[i]? = some (some (.ref l))) (hl : LstAt K H l ds) (h : EvD K te σ H d) (hn : noLs ds = true) (hd : noL d = true) (hz : ds.length ≤ 5000) (hb : bad l) (k : ∀ H1, Chg K bad H H1 → LstAt K H1 l (ds ++ [d]) → D.nx σ H1) :
    tDrop (tBM K "list" rAppend (tVar i) (tCons te tNil)) D σ H := by
  obtain ⟨vs, e, a⟩ := hl
  refine ⟨_, hv, .inl ⟨rfl, vs, SqL.of e⟩, h H (Same.refl _) _ fun v H2 s2 dv => ?_⟩
  have hl' := dpAll_len a
  have c : Chg K bad H (upd H2 l (.lst (vs ++ [v]))) := (Chg.of s2).trans (Chg.set (s2 _ _ e) hb)
  refine ⟨l, vs, v, rfl, rfl, s2 _ _ e, ?_, k _ c ⟨_, upd_same, dpAll_snoc (dp_grow (Grow.set (s2 _ _ e)) hd dv) (dpAll_grow c.grow hn a)⟩⟩
  rw [hl']
  exact Nat.lt_of_le_of_lt hz (by decide)
/-- if c: xs.append(e) -/
theorem s_ifApp {b : Bool} {i : Nat} {l : Addr} {bad : Addr → Prop} (hc : EvB tt σ H b) (hv : σ[i]? = some (some (.ref l))) (hl : LstAt K H l ds) (h : b = true → EvD K te σ H d) (hn : noLs ds = true) (hd : noL d = true) (hz : ds.length ≤ 5000) (hb : bad l)
    (k : ∀ H1, Chg K bad H H1 → LstAt K H1 l (ds ++ if b = true then [d] else []) → D.nx σ H1) :
    tIfS tt (tDrop (tBM K "list" rAppend (tVar i) (tCons te tNil))) tNext D σ H := by
  refine s_if hc (fun q H1 s => ?_) (fun q H1 s => ?_)
  · rw [q] at k
    exact s_app hv (hl.same s) ((h q).mono s) hn hd hz hb fun H2 c hl2 => k H2 ((Chg.of s).trans c) hl2
  · rw [q] at k
    show D.nx σ H1
    exact k H1 (Chg.of s) (by rw [if_neg (by decide), List.append_nil]; exact hl.same s)
theorem dpAll_ixN {vs : List V} {i : Int} {j : Nat} (a : DpAll K H vs ds) (h : ixN ds.length i = some j) : ixN vs.length i = some j := by rw [dpAll_len a]; exact h
/-- xs[i] = e -/
theorem s_setL {i : Nat} {l : Addr} {bad : Addr → Prop} {z : Int} {j : Nat} (hv : σ[i]? = some (some (.ref l))) (hl : LstAt K H l ds) (h : EvD K te σ H d) (hi : EvD K tb σ H (.int z)) (hj : ixN ds.length z = some j) (hn : noLs ds = true) (hd : noL d = true) (hb : bad l)
    (k : ∀ H1, Chg K bad H H1 → LstAt K H1 l (ds.set j d) → D.nx σ H1) : tAsg te (gSub (tVar i) tb rSetL) D σ H := by
  obtain ⟨vs, e, a⟩ := hl
  refine h H (Same.refl _) _ fun v H1 s1 dv => ⟨_, hv, hi H1 s1 _ fun u H2 s2 du => ?_⟩
  cases du
  have c : Chg K bad H (upd H2 l (.lst (vs.set j v))) := (Chg.of (s1.trans s2)).trans (Chg.set (s2 _ _ (s1 _ _ e)) hb)
  exact ⟨l, vs, z, j, rfl, rfl, s2 _ _ (s1 _ _ e), dpAll_ixN a hj, k _ c ⟨_, upd_same, dpAll_set (dp_grow (Grow.set (s2 _ _ (s1 _ _ e))) hd (dp_same s2 dv)) j (dpAll_grow c.grow hn a)⟩⟩
/-- xs.extend(ys) -/
theorem s_ext {i : Nat} {l : Addr} {bad : Addr → Prop} (hv : σ[i]? = some (some (.ref l))) (hl : LstAt K H l ds) (h : EvN K te σ H es) (hn : noLs ds = true) (hd : noLs es = true) (hz : ds.length + es.length ≤ 5000) (hb : bad l) (k : ∀ H1, Chg K bad H H1 → LstAt K H1 l (ds ++ es) → D.nx σ H1) :
    tDrop (tBM K "list" rExtend (tVar i) (tCons te tNil)) D σ H := by
  obtain ⟨vs, e, a⟩ := hl
  refine ⟨_, hv, .inl ⟨rfl, vs, SqL.of e⟩, h H (Same.refl _) _ fun p ws H2 n s2 e2 a2 => ?_⟩
  have c : Chg K bad H (upd H2 l (.lst (vs ++ ws))) := (Chg.of s2).trans (Chg.set (s2 _ _ e) hb)
  refine ⟨l, p, vs, ws, rfl, rfl, s2 _ _ e, e2, ?_, k _ c ⟨_, upd_same, dpAll_append (dpAll_grow (Grow.set (s2 _ _ e)) hd a2) (dpAll_grow c.grow hn a)⟩⟩
  rw [dpAll_len a, dpAll_len a2]
  exact Nat.le_trans hz (by decide)
/-! the same, something behind -/
theorem q_asg {i : Nat} (h : EvD K te σ H d) (k : ∀ v H1, Same H H1 → Dp K H1 v d → tz D (σ.set i (some v)) H1) : tSeq (tAsg te (gName i)) tz D σ H := s_asg (D := { D with nx := tz D }) h k
theorem q_asgI {i : Nat} {z : Int} (h : EvD K te σ H (.int z)) (k : ∀ H1, Same H H1 → tz D (σ.set i (some (.int z))) H1) : tSeq (tAsg te (gName i)) tz D σ H := s_asgI (D := { D with nx := tz D }) h k
theorem q_asgN {i : Nat} (h : EvN K te σ H ds) (k : ∀ p H1, H p = none → Same H H1 → LstAt K H1 p ds → tz D (σ.set i (some (.ref p))) H1) : tSeq (tAsg te (gName i)) tz D σ H := s_asgN (D := { D with nx := tz D }) h k
theorem q_if {b : Bool} (h : EvB tt σ H b) (h1 : b = true → ∀ H1, Same H H1 → tu { D with nx := tz D } σ H1) (h2 : b = false → ∀ H1, Same H H1 → tw { D with nx := tz D } σ H1) : tSeq (tIfS tt tu tw) tz D σ H := s_if (D := { D with nx := tz D }) h h1 h2
theorem q_when {b : Bool} (h : EvB tt σ H b) (h1 : b = true → ∀ H1, Same H H1 → tu { D with nx := tz D } σ H1) (h2 : b = false → ∀ H1, Same H H1 → tz D σ H1) : tSeq (tIfS tt tu tNext) tz D σ H := s_if (D := { D with nx := tz D }) h h1 h2
theorem q_drop (h : EvD K te σ H d) (k : ∀ H1, Same H H1 → tz D σ H1) : tSeq (tDrop te) tz D σ H := s_drop (D := { D with nx := tz D }) h k
theorem q_unp2 {i j : Nat} (h : EvD K te σ H (.tuple [d, e])) (k : ∀ v w H1, Same H H1 → Dp K H1 v d → Dp K H1 w e → tz D ((σ.set i (some v)).set j (some w)) H1) : tSeq (tAsg te (gTup K 2 (gCons (gName i) (gCons (gName j) gNil)))) tz D σ H := s_unp2 (D := { D with nx := tz D }) h k
theorem q_unp3 {i j m : Nat} (h : EvD K te σ H (.tuple [d, e, f])) (k : ∀ v w u H1, Same H H1 → Dp K H1 v d → Dp K H1 w e → Dp K H1 u f → tz D (((σ.set i (some v)).set j (some w)).set m (some u)) H1) : tSeq (tAsg te (gTup K 3 (gCons (gName i) (gCons (gName j) (gCons (gName m) gNil))))) tz D σ H := s_unp3 (D := { D with nx := tz D }) h k
theorem q_app {i : Nat} {l : Addr} {bad : Addr → Prop} (hv : σ[i]? = some (some (.ref l))) (hl : LstAt K H l ds) (h : EvD K te σ H d) (hn : noLs ds = true) (hd : noL d = true) (hz : ds.length ≤ 5000) (hb : bad l) (k : ∀ H1, Chg K bad H H1 → LstAt K H1 l (ds ++ [d]) → tz D σ H1) :
    tSeq (tDrop (tBM K "list" rAppend (tVar i) (tCons te tNil))) tz D σ H := s_app (D := { D with nx := tz D }) hv hl h hn hd hz hb k
theorem q_ifApp {b : Bool} {i : Nat} {l : Addr} {bad : Addr → Prop} (hc : EvB tt σ H b) (hv : σ[i]? = some (some (.ref l))) (hl : LstAt K H l ds) (h : b = true → EvD K te σ H d) (hn : noLs ds = true) (hd : noL d = true) (hz : ds.length ≤ 5000) (hb : bad l)
    (k : ∀ H1, Chg K bad H H1 → LstAt K H1 l (ds ++ if b = true then [d] else []) → tz D σ H1) :
    tSeq (tIfS tt (tDrop (tBM K "list" rAppend (tVar i) (tCons te tNil))) tNext) tz D σ H := s_ifApp (D := { D with nx := tz D }) hc hv hl h hn hd hz hb k
theorem q_setL {i : Nat} {l : Addr} {bad : Addr → Prop} {z : Int} {j : Nat} (hv : σ[i]? = some (some (.ref l))) (hl : LstAt K H l ds) (h : EvD K te σ H d) (hi : EvD K tb σ H (.int z)) (hj : ixN ds.length z = some j) (hn : noLs ds = true) (hd : noL d = true) (hb : bad l)
    (k : ∀ H1, Chg K bad H H1 → LstAt K H1 l (ds.set j d) → tz D σ H1) : tSeq (tAsg te (gSub (tVar i) tb rSetL)) tz D σ H := s_setL (D := { D with nx := tz D }) hv hl h hi hj hn hd hb k
theorem q_ext {i : Nat} {l : Addr} {bad : Addr → Prop} (hv : σ[i]? = some (some (.ref l))) (hl : LstAt K H l ds) (h : EvN K te σ H es) (hn : noLs ds = true) (hd : noLs es = true) (hz : ds.length + es.length ≤ 5000) (hb : bad l) (k : ∀ H1, Chg K bad H H1 → LstAt K H1 l (ds ++ es) → tz D σ H1) :
    tSeq (tDrop (tBM K "list" rExtend (tVar i) (tCons te tNil))) tz D σ H := s_ext (D := { D with nx := tz D }) hv hl h hn hd hz hb k
end
/-! ### what is walked -/
def EvI (K : PySem.W.Frag) (Rl : Hp → Hp → Prop) (ti : TI) (σ : L2.St) (H : Hp) (n : Nat) (item : Nat → Option PyData) : Prop := ∀ H1, Same H H1 → ∀ R : It → Hp → Prop,
  (∀ (J : It) (H2 : Hp) (G : Hp → Prop) (Y : Nat → Hp → V → Hp → Prop), Same H1 H2 → Walk J n G Y → (∀ H3, Rl H2 H3 → G H3) → (∀ i H3 x H4, i < n → Rl H2 H3 → Y i H3 x H4 → ∃ d, item i = some d ∧ Same H3 H4 ∧ Dp K H4 x d) → R J H2) → ti σ H1 R
/-- a target -/
structure Tg (K : PySem.W.Frag) (g : TG) (ok : PyData → Prop) (T : PyData → L2.St → L2.St → Hp → Prop) : Prop where
  run : ∀ (x : V) (σ' : L2.St) (H : Hp) (d : PyData) (Qk : L2.St → Hp → Prop), Dp K H x d → ok d → (∀ σ2, T d σ' σ2 H → Qk σ2 H) → g x σ' H Qk
section
variable {K : PySem.W.Frag} {Rl : Hp → Hp → Prop} {σ : L2.St} {H H' : Hp} {ta tb te : TE} {tt : TT} {d e f : PyData} {ds es : List PyData}
abbrev T1 (K : PySem.W.Frag) (j : Nat) : PyData → L2.St → L2.St → Hp → Prop := fun d σ' σ2 H => ∃ v, Dp K H v d ∧ σ2 = σ'.set j (some v)
abbrev T2 (K : PySem.W.Frag) (i j : Nat) : PyData → L2.St → L2.St → Hp → Prop := fun d σ' σ2 H => ∃ v w a b, d = .tuple [a, b] ∧ Dp K H v a ∧ Dp K H w b ∧ σ2 = (σ'.set i (some v)).set j (some w)
abbrev T3 (K : PySem.W.Frag) (i j m : Nat) : PyData → L2.St → L2.St → Hp → Prop := fun d σ' σ2 H => ∃ v w u a b c, d = .tuple [a, b, c] ∧ Dp K H v a ∧ Dp K H w b ∧ Dp K H u c ∧ σ2 = ((σ'.set i (some v)).set j (some w)).set m (some u)
theorem tg1 {j : Nat} : Tg K (gName j) (fun _ => True) (T1 K j) := ⟨fun x σ' H d Qk hd _ k => k _ ⟨x, hd, rfl⟩⟩
theorem tg2 {i j : Nat} : Tg K (gTup K 2 (gCons (gName i) (gCons (gName j) gNil))) (fun d => ∃ a b, d = .tuple [a, b]) (T2 K i j) := ⟨fun x σ' H d Qk hd ⟨a, b, e⟩ k => by
  subst e
  cases hd with
  | tup hs q =>
    cases q with
    | cons h1 q =>
      cases q with
      | cons h2 q =>
        cases q
        exact ⟨_, _, rfl, hs, rfl, _, _, rfl, _, _, rfl, rfl, k _ ⟨_, _, a, b, rfl, h1, h2, rfl⟩⟩⟩
theorem tg3 {i j m : Nat} : Tg K (gTup K 3 (gCons (gName i) (gCons (gName j) (gCons (gName m) gNil)))) (fun d => ∃ a b c, d = .tuple [a, b, c]) (T3 K i j m) := ⟨fun x σ' H d Qk hd ⟨a, b, c, e⟩ k => by
  subst e
  cases hd with
  | tup hs q =>
    cases q with
    | cons h1 q =>
      cases q with
      | cons h2 q =>
        cases q with
        | cons h3 q =>
          cases q
          exact ⟨_, _, rfl, hs, rfl, _, _, rfl, _, _, rfl, _, _, rfl, rfl, k _ ⟨_, _, _, a, b, c, rfl, h1, h2, h3, rfl⟩⟩⟩
theorem EvI.weaken {Rl' : Hp → Hp → Prop} {ti : TI} {n : Nat} {item : Nat → Option PyData} (h : EvI K Rl ti σ H n item) (w : ∀ H H', Rl' H H' → Rl H H') : EvI K Rl' ti σ H n item := fun H1 s R k =>
  h H1 s R fun J H2 G Y s2 wk g y => k J H2 G Y s2 wk (fun H3 r => g H3 (w _ _ r)) (fun i H3 x H4 hi r => y i H3 x H4 hi (w _ _ r))
theorem EvI.len {ti : TI} {n m : Nat} {item : Nat → Option PyData} (q : n = m) (h : EvI K Rl ti σ H n item) : EvI K Rl ti σ H m item := by rw [← q]; exact h
theorem ei_range1 {n : Int} (h : EvD K ta σ H (.int n)) (hn : n ≤ 100000) (hm : -100000 ≤ n) : EvI K (fun _ _ => True) (iRng1 (tCons ta tNil)) σ H n.toNat (fun i => some (.int (i : Nat))) := fun H1 s R k =>
  h H1 s _ fun v H2 s2 dv => by
    cases dv
    exact ⟨n, rfl, by omega, by omega, k _ H2 _ _ s2 (walk_range (lo := 0) (n := n.toNat)) (fun _ _ => trivial) fun i H3 x H4 hi _ y => ⟨_, rfl, by rw [y.1]; exact Same.refl _, by
      rw [y.2]
      show Dp K H4 (.int (0 + (i : Int))) (.int (i : Int))
      rw [Int.zero_add]
      exact .int _⟩⟩
theorem ei_range2 {lo n : Int} (ha : EvD K ta σ H (.int lo)) (hb : EvD K tb σ H (.int n)) (h1 : -100000 ≤ lo ∧ lo ≤ 100000) (h2 : -100000 ≤ n ∧ n ≤ 100000) : EvI K (fun _ _ => True) (iRng2 (tCons ta (tCons tb tNil))) σ H (n - lo).toNat (fun i => some (.int (lo + (i : Nat)))) := fun H1 s R k =>
  ha H1 s _ fun v H2 s2 dv => hb H2 (s.trans s2) _ fun u H3 s3 du => by
    cases dv; cases du
    exact ⟨lo, n, rfl, ⟨by omega, by omega, by omega, by omega⟩, k _ H3 _ _ (s2.trans s3) (walk_range (lo := lo) (n := (n - lo).toNat)) (fun _ _ => trivial) fun i H4 x H5 hi _ y => ⟨_, rfl, by rw [y.1]; exact Same.refl _, by
      rw [y.2]
      exact .int _⟩⟩
theorem dpAll_item {vs : List V} {i : Nat} {x : V} (a : DpAll K H vs ds) (e : vs[i]? = some x) : ∃ d, ds[i]? = some d ∧ Dp K H x d := dpAll_at a e
/-- over a tuple -/
theorem ei_tup (h : EvD K ta σ H (.tuple ds)) (hn : noLs ds = true) : EvI K (Grow K) (iTup K ta) σ H ds.length (fun i => ds[i]?) := fun H1 s R k =>
  h H1 s _ fun v H2 s2 dv => by
    cases dv with
    | tup hs a =>
      refine ⟨_, rfl, ⟨_, hs⟩, ?_⟩
      rw [← dpAll_len a] at k
      exact k _ H2 _ _ s2 (walk_tup (K := K)) (fun H3 r => r _ _ hs) fun i H3 x H4 hi r y => by
        obtain ⟨d, e1, e2⟩ := dpAll_item a y.2
        rw [y.1]
        exact ⟨d, e1, Same.refl _, dp_grow r (noLs_mem hn d (List.mem_of_getElem? e1)) e2⟩
/-- over a list that stands -/
theorem ei_list (h : EvD K ta σ H (.list ds)) : EvI K Same (iList K ta) σ H ds.length (fun i => ds[i]?) := fun H1 s R k =>
  h H1 s _ fun v H2 s2 dv => by
    cases dv with
    | lst hs a =>
      refine ⟨_, rfl, ⟨_, hs⟩, ?_⟩
      rw [← dpAll_len a] at k
      exact k _ H2 _ _ s2 (walk_list (K := K)) (fun H3 r => r.seq hs) fun i H3 x H4 hi r y => by
        obtain ⟨d, e1, e2⟩ := dpAll_item a y.2
        rw [y.1]
        exact ⟨d, e1, Same.refl _, dp_same r e2⟩
/-- over a new list, while others change -/
theorem ei_new {bad : Addr → Prop} (h : EvN K ta σ H ds) (hb : ∀ a, bad a → ∃ o, H a = some o) (hn : noLs ds = true) : EvI K (Chg K bad) (iList K ta) σ H ds.length (fun i => ds[i]?) := fun H1 s R k =>
  h H1 s _ fun p vs H2 n s2 e a => by
    have nb : ¬ bad p := fun z => by
      obtain ⟨o, q⟩ := hb p z
      rw [s _ _ q] at n
      cases n
    refine ⟨_, rfl, ⟨_, SqL.of e⟩, ?_⟩
    rw [← dpAll_len a] at k
    exact k _ H2 _ _ s2 (walk_list (K := K) (xs := vs)) (fun H3 r => SqL.of (r.but _ _ nb e)) fun i H3 x H4 hi r y => by
      obtain ⟨d, e1, e2⟩ := dpAll_item a y.2
      rw [y.1]
      exact ⟨d, e1, Same.refl _, dp_grow r.grow (noLs_mem hn d (List.mem_of_getElem? e1)) e2⟩
/-- over a list kept by a name, while others change -/
theorem ei_lst {bad : Addr → Prop} {l : Addr} {i : Nat} (hv : σ[i]? = some (some (.ref l))) (hl : LstAt K H l ds) (nb : ¬ bad l) (hn : noLs ds = true) : EvI K (Chg K bad) (iList K (tVar i)) σ H ds.length (fun i => ds[i]?) := fun H1 s R k => by
  obtain ⟨vs, e, a⟩ := hl.same s
  refine ⟨_, hv, _, rfl, ⟨_, SqL.of e⟩, ?_⟩
  rw [← dpAll_len a] at k
  exact k _ H1 _ _ (Same.refl _) (walk_list (K := K) (xs := vs)) (fun H3 r => SqL.of (r.but _ _ nb e)) fun i H3 x H4 hi r y => by
    obtain ⟨d, e1, e2⟩ := dpAll_item a y.2
    rw [y.1]
    exact ⟨d, e1, Same.refl _, dp_grow r.grow (noLs_mem hn d (List.mem_of_getElem? e1)) e2⟩
/-- enumerate(a tuple) -/
theorem ei_enumT (h : EvD K ta σ H (.tuple ds)) (hn : noLs ds = true) : EvI K (Grow K) (iEnumT K (tCons ta tNil)) σ H ds.length (fun i => (ds[i]?).map fun d => .tuple [.int (i : Nat), d]) := fun H1 s R k =>
  h H1 s _ fun v H2 s2 dv => by
    cases dv with
    | tup hs a =>
      refine ⟨_, _, rfl, hs, ?_⟩
      rw [← dpAll_len a] at k
      exact k _ H2 _ _ s2 (walkET (K := K)) (fun H3 r => r _ _ hs) fun i H3 x H4 hi r y => by
        obtain ⟨T, z, u, rfl, nT, rfl, ez, hu⟩ := y
        obtain rfl := Option.some.inj ez
        obtain ⟨d, e1, e2⟩ := dpAll_item a hu
        have sT := same_new nT (.tup [.int (i : Nat), u])
        exact ⟨_, by show (ds[i]?).map _ = _; rw [e1]; rfl, sT, .tup (tup_of upd_same) (.cons (.int _) (.cons (dp_same sT (dp_grow r (noLs_mem hn d (List.mem_of_getElem? e1)) e2)) .nil))⟩
/-- enumerate(a list) that stands -/
theorem ei_enumL (h : EvD K ta σ H (.list ds)) : EvI K Same (iEnum K (tCons ta tNil)) σ H ds.length (fun i => (ds[i]?).map fun d => .tuple [.int (i : Nat), d]) := fun H1 s R k =>
  h H1 s _ fun v H2 s2 dv => by
    cases dv with
    | lst hs a =>
      refine ⟨_, _, rfl, hs, ?_⟩
      rw [← dpAll_len a] at k
      exact k _ H2 _ _ s2 (walk_enum (K := K)) (fun H3 r => r.seq hs) fun i H3 x H4 hi r y => by
        obtain ⟨T, z, u, rfl, nT, rfl, ez, hu⟩ := y
        obtain rfl := Option.some.inj ez
        obtain ⟨d, e1, e2⟩ := dpAll_item a hu
        have sT := same_new nT (.tup [.int (i : Nat), u])
        exact ⟨_, by show (ds[i]?).map _ = _; rw [e1]; rfl, sT, .tup (tup_of upd_same) (.cons (.int _) (.cons (dp_same sT (dp_same r e2)) .nil))⟩
/-- zip(a list, a list) that stand -/
theorem ei_zipL (ha : EvD K ta σ H (.list ds)) (hb : EvD K tb σ H (.list es)) : EvI K Same (RZ.iZipA K (tCons ta (tCons tb tNil))) σ H (min ds.length es.length) (fun i => match ds[i]?, es[i]? with | some d, some e => some (.tuple [d, e]) | _, _ => none) := fun H1 s R k =>
  ha H1 s _ fun v H2 s2 dv => hb H2 (s.trans s2) _ fun u H3 s3 du => by
    cases dp_same s3 dv with
    | lst hs a =>
      cases du with
      | lst hs' b =>
        refine ⟨_, _, _, _, rfl, .inl ⟨hs, hs', ?_⟩⟩
        refine k _ H3 _ _ (s2.trans s3) (walk_zip (K := K) (by rw [dpAll_len a, dpAll_len b])) (fun H4 r => ⟨r.seq hs, r.seq hs'⟩) fun i H4 x H5 hi r y => ?_
        obtain ⟨T, z, w, rfl, nT, rfl, ez, ew⟩ := y
        obtain ⟨d, d1, d2⟩ := dpAll_item a ez
        obtain ⟨e, e1, e2⟩ := dpAll_item b ew
        have sT := same_new nT (.tup [z, w])
        refine ⟨.tuple [d, e], ?_, sT, .tup (tup_of upd_same) (.cons (dp_same sT (dp_same r d2)) (.cons (dp_same sT (dp_same r e2)) .nil))⟩
        show (match ds[i]?, es[i]? with | some d, some e => some (PyData.tuple [d, e]) | _, _ => none) = _
        rw [d1, e1]
/-- a for -/
theorem s_for {ti : TI} {g : TG} {tb : TS} {D : Ends} {n : Nat} {item : Nat → Option PyData} {ok : PyData → Prop} {T : PyData → L2.St → L2.St → Hp → Prop} (hi : EvI K Rl ti σ H n item) (hg : Tg K g ok T) (hok : ∀ i d, item i = some d → ok d)
    (Pv : Hp → Nat → L2.St → Hp → Prop) (h0 : ∀ H1, Same H H1 → Pv H1 0 σ H1) (stay : ∀ H1 i σ' H', Pv H1 i σ' H' → Rl H1 H')
    (hs : ∀ H1 i d σ' H' σ2 H2, Same H H1 → i < n → item i = some d → Pv H1 i σ' H' → Same H' H2 → T d σ' σ2 H2 → tb { D with nx := Pv H1 (i + 1), ct := Pv H1 (i + 1), bk := D.nx } σ2 H2)
    (hd : ∀ H1 σ' H', Same H H1 → Pv H1 n σ' H' → D.nx σ' H') : tFor ti g tb D σ H :=
  hi H (Same.refl _) _ fun J H2 G Y s2 w hG hY => by
    refine for_it w (Pv H2) (h0 H2 s2) (fun i σ' H' _ p => hG H' (stay _ _ _ _ p)) (fun i x σ' H3 H4 hi p y => ?_) (fun σ' H' p => hd H2 σ' H' s2 p)
    obtain ⟨d, e1, e2, e3⟩ := hY i H3 x H4 hi (stay _ _ _ _ p) y
    exact hg.run x σ' H4 d _ e3 (hok i d e1) fun σ2 t => hs H2 i d σ' H3 σ2 H4 s2 hi e1 p e2 t
theorem q_for {ti : TI} {g : TG} {tb tz : TS} {D : Ends} {n : Nat} {item : Nat → Option PyData} {ok : PyData → Prop} {T : PyData → L2.St → L2.St → Hp → Prop} (hi : EvI K Rl ti σ H n item) (hg : Tg K g ok T) (hok : ∀ i d, item i = some d → ok d)
    (Pv : Hp → Nat → L2.St → Hp → Prop) (h0 : ∀ H1, Same H H1 → Pv H1 0 σ H1) (stay : ∀ H1 i σ' H', Pv H1 i σ' H' → Rl H1 H')
    (hs : ∀ H1 i d σ' H' σ2 H2, Same H H1 → i < n → item i = some d → Pv H1 i σ' H' → Same H' H2 → T d σ' σ2 H2 → tb { D with nx := Pv H1 (i + 1), ct := Pv H1 (i + 1), bk := tz D } σ2 H2)
    (hd : ∀ H1 σ' H', Same H H1 → Pv H1 n σ' H' → tz D σ' H') : tSeq (tFor ti g tb) tz D σ H := s_for (D := { D with nx := tz D }) hi hg hok Pv h0 stay hs hd
/-- a comprehension -/
theorem en_lc {α : Type} {ti : TI} {g : TG} {own : List Nat} {item : Nat → Option PyData} {ok : PyData → Prop} {T : PyData → L2.St → L2.St → Hp → Prop} (xs : List α) (p : α → Bool) (q : α → PyData) (hi : EvI K Same ti σ H xs.length item) (hg : Tg K g ok T)
    (hok : ∀ i d, item i = some d → ok d) (hw : ∀ d σ2 H5, T d (wipe σ own) σ2 H5 → wipe σ2 own = wipe σ own)
    (ht : ∀ i x d σ2 H3, xs[i]? = some x → item i = some d → Same H H3 → T d (wipe σ own) σ2 H3 → EvB tt σ2 H3 (p x)) (he : ∀ i x d σ2 H3, xs[i]? = some x → item i = some d → p x = true → Same H H3 → T d (wipe σ own) σ2 H3 → EvD K te σ2 H3 (q x))
    (hn : ∀ x, noL (q x) = true) (hz : xs.length ≤ 5000) : EvN K (tLc ti g tt te own) σ H ((xs.filter p).map q) := fun H1 s Q k =>
  hi H1 s _ fun J H2 G Y s2 w hG hY D hD => by
    have len : ∀ i, (((xs.take i).filter p).map q).length ≤ 5000 := fun i => by
      rw [List.length_map]
      refine Nat.le_trans (List.length_filter_le _ _) ?_
      rw [List.length_take]
      omega
    refine lc_it w (fun i H' => Same H2 H' ∧ LstAt K H' D (((xs.take i).filter p).map q)) ⟨same_new hD _, ⟨[], upd_same, by simp; exact .nil⟩⟩ (fun i H' _ h => hG H' h.1) ?_ ?_
    · rintro i x H3 H4 hi' ⟨s3, vs, e, a⟩ y
      obtain ⟨d, e1, e2, e3⟩ := hY i H3 x H4 hi' s3 y
      refine hg.run x _ H4 d _ e3 (hok i d e1) fun σ2 t => ⟨hw d σ2 H4 t, ?_⟩
      have ex := List.getElem?_eq_getElem hi'
      have sAll : Same H H4 := ((s.trans s2).trans s3).trans e2
      refine ht i _ d σ2 H4 ex e1 sAll t H4 (Same.refl _) _ fun H5 s5 => ?_
      have hT : xs.take (i + 1) = xs.take i ++ [xs[i]] := by rw [List.take_add_one, ex]; rfl
      refine if_both (fun hp => ?_) (fun hp => ?_)
      · refine (he i _ d σ2 H4 ex e1 hp sAll t).mono s5 H5 (Same.refl _) _ fun v H6 s6 dv => ?_
        have e6 := s6 _ _ (s5 _ _ (e2 _ _ e))
        have g6 : Grow K H6 (upd H6 D (.lst (vs ++ [v]))) := Grow.set e6
        refine ⟨vs, e6, ?_, Same.over ((s3.trans e2).trans (s5.trans s6)) hD, vs ++ [v], upd_same, ?_⟩
        · rw [dpAll_len a]
          exact Nat.lt_of_le_of_lt (len i) (by decide)
        · rw [hT, List.filter_append, List.map_append]
          have : List.filter p [xs[i]] = [xs[i]] := by rw [List.filter_cons, if_pos hp]; rfl
          rw [this]
          exact dpAll_snoc (dp_grow g6 (hn _) dv) (dpAll_grow g6 (noLs_map hn) (dpAll_same ((e2.trans s5).trans s6) a))
      · refine ⟨(s3.trans e2).trans s5, vs, s5 _ _ (e2 _ _ e), ?_⟩
        rw [hT, List.filter_append, List.map_append]
        have : List.filter p [xs[i]] = [] := by rw [List.filter_cons, if_neg (by rw [hp]; decide)]; rfl
        rw [this, List.map_nil, List.append_nil]
        exact dpAll_same (e2.trans s5) a
    · rintro H' ⟨s3, vs, e, a⟩
      rw [List.take_length] at a
      exact k D vs H' (s2.free hD) (s2.trans s3) e a
theorem filter_yes {α : Type} (xs : List α) : xs.filter (fun _ => true) = xs := List.filter_eq_self.mpr fun _ _ => rfl
/-- .. without tests -/
theorem en_lcY {α : Type} {ti : TI} {g : TG} {own : List Nat} {item : Nat → Option PyData} {ok : PyData → Prop} {T : PyData → L2.St → L2.St → Hp → Prop} (xs : List α) (q : α → PyData) (hi : EvI K Same ti σ H xs.length item) (hg : Tg K g ok T)
    (hok : ∀ i d, item i = some d → ok d) (hw : ∀ d σ2 H5, T d (wipe σ own) σ2 H5 → wipe σ2 own = wipe σ own)
    (he : ∀ i x d σ2 H3, xs[i]? = some x → item i = some d → Same H H3 → T d (wipe σ own) σ2 H3 → EvD K te σ2 H3 (q x))
    (hn : ∀ x, noL (q x) = true) (hz : xs.length ≤ 5000) : EvN K (tLc ti g tYes te own) σ H (xs.map q) := by
  have h := en_lc (K := K) (te := te) (tt := tYes) xs (fun _ => true) q hi hg hok hw (fun _ _ _ σ2 H3 _ _ _ _ H4 s Q k => k H4 (Same.refl _)) (fun i x d σ2 H3 h1 h2 _ => he i x d σ2 H3 h1 h2) hn hz
  rw [filter_yes] at h
  exact h
end
end LB
/-! Rows, programs, mills as data; the known defs told by data. Own text. -/
namespace LB
open PySem L2
/-- built-ins still, further -/
structure Bl3 (mg : Str → Option Value) : Prop where
  sum : mg "sum" = none
  any : mg "any" = none
  sorted : mg "sorted" = none
  set : mg "set" = none
  dict : mg "dict" = none
def Rw.data (r : Rw) : List PyData := .str r.word :: r.args.map .int
def rowD (r : Rw) : PyData := .tuple r.data
def millD (ms : List Int) : PyData := .tuple (ms.map .int)
def progD (rs : List Rw) : PyData := .tuple (rs.map rowD)
def optD (o : Option Int) : PyData := match o with
  | none => .none
  | some i => .int i
def intsD (ns : List Int) : PyData := .list (ns.map .int)
theorem noL_row (r : Rw) : noL (rowD r) = true := by
  show (noL (.str r.word) && noLs (r.args.map .int)) = true
  rw [noLs_map fun _ => rfl]
  rfl
theorem noL_mill (ms : List Int) : noL (millD ms) = true := noLs_map fun _ => rfl
theorem noLs_rows (rs : List Rw) : noLs (rs.map rowD) = true := noLs_map noL_row
theorem noLs_ints (ns : List Int) : noLs (ns.map PyData.int) = true := noLs_map fun _ => rfl
section
variable {K : PySem.W.Frag} {H H' : Hp}
theorem dp_row {v : V} {r : Rw} (h : Dp K H v (rowD r)) : RowAt K H v r := by
  unfold rowD Rw.data at h
  cases h with
  | tup hs a =>
    cases a with
    | cons h1 a =>
      cases h1
      rw [dpAll_int_eq a] at hs
      exact ⟨_, rfl, by rw [r.vals_eq]; exact hs⟩
theorem row_dp {v : V} {r : Rw} (h : RowAt K H v r) : Dp K H v (rowD r) := by
  obtain ⟨a, rfl, hs⟩ := h
  rw [r.vals_eq] at hs
  exact .tup hs (.cons (.str _) (dpAll_ints K H _))
theorem dp_mill {v : V} {ms : List Int} (h : Dp K H v (millD ms)) : ∃ a, v = .ref a ∧ MillAt K H a ms := by
  unfold millD at h
  cases h with
  | tup hs a =>
    rw [dpAll_int_eq a] at hs
    exact ⟨_, rfl, hs⟩
theorem mill_dp {a : Addr} {ms : List Int} (h : MillAt K H a ms) : Dp K H (.ref a) (millD ms) := .tup h (dpAll_ints K H _)
theorem dpAll_of_get : ∀ {ds : List PyData} {vs : List V}, vs.length = ds.length → (∀ (i : Nat) (d : PyData), ds[i]? = some d → ∃ v, vs[i]? = some v ∧ Dp K H v d) → DpAll K H vs ds
  | [], [], _, _ => .nil
  | [], _ :: _, h, _ => by cases h
  | _ :: _, [], h, _ => by cases h
  | d :: ds, v :: vs, h, g => by
    obtain ⟨w, e, q⟩ := g 0 d rfl
    obtain rfl := Option.some.inj e
    exact .cons q (dpAll_of_get (Nat.succ.inj h) fun i d' e' => g (i + 1) d' e')
theorem prog_dp {a : Addr} {rs : List Rw} (h : ProgAt K H a rs) : Dp K H (.ref a) (progD rs) := by
  obtain ⟨vs, hs, hl, g⟩ := h
  refine .tup hs (dpAll_of_get (by rw [List.length_map]; exact hl) fun i d e => ?_)
  rw [List.getElem?_map] at e
  obtain ⟨r, e1, rfl⟩ := Option.map_eq_some_iff.mp e
  obtain ⟨v, e2, q⟩ := g i r e1
  exact ⟨v, e2, row_dp q⟩
theorem dp_prog {v : V} {rs : List Rw} (h : Dp K H v (progD rs)) : ∃ a, v = .ref a ∧ ProgAt K H a rs := by
  unfold progD at h
  cases h with
  | tup hs a =>
    refine ⟨_, rfl, _, hs, by rw [dpAll_len a, List.length_map], fun i r e => ?_⟩
    obtain ⟨v, e1, q⟩ := dpAll_get (i := i) (d := rowD r) a (by rw [List.getElem?_map, e]; rfl)
    exact ⟨v, e1, dp_row q⟩
end
/-! ### the defs that are known -/
section
variable {P : Program} {w : World} {K : PySem.W.Frag} {mg : Str → Option Value} {base : Heap} {k : Nat}
theorem Cal.imp {x : Str} {ps : List Str} {sp sp' : Sp} (C : Cal P w K mg base k x ps sp) (h : ∀ vs H Q E, sp' vs H Q E → sp vs H Q E) : Cal P w K mg base k x ps sp' := by
  obtain ⟨f, fd, F, m, kp, b⟩ := C.ex
  exact ⟨f, fd, F.imp h, m, kp, b⟩
abbrev dWhole (K : PySem.W.Frag) : Sp := spD K (fun i : Int × Int => [.int i.1, .int i.2]) (fun _ => True) (fun i => .bool (decide (0 ≤ i.1 ∧ i.1 ≤ i.2)))
theorem whole_d {x : Str} {ps : List Str} (C : Cal P w K mg base k x ps spWhole) : Cal P w K mg base k x ps (dWhole K) := C.imp fun vs H Q E ⟨⟨i, j⟩, _, a, q⟩ => by
  cases a with
  | cons h a =>
    cases a with
    | cons h2 a =>
      cases a
      cases h
      cases h2
      exact ⟨i, j, rfl, q _ H (Same.refl _) (.bl _)⟩
/-- is_row of a row that can be -/
abbrev dRow (K : PySem.W.Frag) : Sp := spD K (fun i : Rw × Int => [rowD i.1, .int i.2]) (fun i => i.1.ok i.2) (fun _ => .bool true)
theorem row_d {x : Str} {ps : List Str} (C : Cal P w K mg base k x ps (spRow K)) : Cal P w K mg base k x ps (dRow K) := C.imp fun vs H Q E ⟨⟨r, many⟩, hok, a, q⟩ => by
  cases a with
  | cons h a =>
    cases a with
    | cons h2 a =>
      cases a
      cases h2
      exact ⟨_, r, many, rfl, dp_row h, hok, fun H' s => q _ H' s (.bl _)⟩
end
end LB
namespace LB
open PySem L2
section
variable {P : Program} {w : World} {K : PySem.W.Frag} {mg : Str → Option Value} {base : Heap} {k : Nat}
abbrev dMade (K : PySem.W.Frag) : Sp := spD K (fun r : Rw => [rowD r]) (fun _ => True) (fun r => optD r.box)
theorem made_d {x : Str} {ps : List Str} (C : Cal P w K mg base k x ps (spMade K)) : Cal P w K mg base k x ps (dMade K) := C.imp fun vs H Q E ⟨r, _, a, q⟩ => by
  cases a with
  | cons h a =>
    cases a
    refine ⟨_, r, rfl, dp_row h, q _ H (Same.refl _) ?_⟩
    show Dp K H _ (optD r.box)
    cases e : r.box with
    | none => exact .non
    | some b => exact .int b
abbrev dLate (K : PySem.W.Frag) : Sp := spD K (fun i : Rw × List Int => [rowD i.1, millD i.2]) (fun i => MillOk i.2) (fun i => .int (lateOf i.2 i.1))
theorem late_d {x : Str} {ps : List Str} (C : Cal P w K mg base k x ps (spLate K)) : Cal P w K mg base k x ps (dLate K) := C.imp fun vs H Q E ⟨⟨r, ms⟩, hm, a, q⟩ => by
  cases a with
  | cons h a =>
    cases a with
    | cons h2 a =>
      cases a
      obtain ⟨m, rfl, hM⟩ := dp_mill h2
      exact ⟨_, r, m, ms, rfl, dp_row h, hM, hm, q _ H (Same.refl _) (.int _)⟩
abbrev dLooked (K : PySem.W.Frag) : Sp := spN K (fun r : Rw => [rowD r]) (fun _ => True) (fun r => r.looks.map .int)
theorem looked_d {x : Str} {ps : List Str} (C : Cal P w K mg base k x ps (spLooked K)) : Cal P w K mg base k x ps (dLooked K) := C.imp fun vs H Q E ⟨r, _, a, q⟩ => by
  cases a with
  | cons h a =>
    cases a
    exact ⟨_, r, rfl, dp_row h, fun D H' n s e => q D _ H' n s e (dpAll_ints K H' _)⟩
abbrev dChkM (K : PySem.W.Frag) : Sp := spD K (fun ms : List Int => [millD ms]) (fun ms => MillOk ms) (fun _ => .none)
theorem chkM_d {x : Str} {ps : List Str} (C : Cal P w K mg base k x ps (spChkM K)) : Cal P w K mg base k x ps (dChkM K) := C.imp fun vs H Q E ⟨ms, hm, a, q⟩ => by
  cases a with
  | cons h a =>
    cases a
    obtain ⟨m, rfl, hM⟩ := dp_mill h
    exact ⟨m, ms, rfl, hM, hm, fun H' s => q _ H' s .non⟩
end
end LB
/-! max(xs, default=d) of a list of numbers. Own text, over the library's walk of max. -/
namespace LB
open PySem PySem.Spec PySem.W PyProof.Rows L2
theorem alike_nums (ns : List Int) : PySem.W.AlikeAll (ns.map PyData.int) := by
  refine ⟨fun x hx y hy => ?_, fun x hx e => ?_⟩
  · obtain ⟨i, _, rfl⟩ := List.mem_map.mp hx
    obtain ⟨j, _, rfl⟩ := List.mem_map.mp hy
    rfl
  · obtain ⟨i, _, rfl⟩ := List.mem_map.mp hx
    cases e
def rMaxDef (K : PySem.W.Frag) : List V → List V → Hp → VK → Prop := fun vs zs H Q => ∃ (a : Addr) (ns : List Int) (d : V), vs = [.ref a] ∧ zs = [d] ∧ SqL K H a (ns.map V.int) ∧ (ns = [] → Q d H) ∧ (ns ≠ [] → Q (.int (maxL ns)) H)
theorem cr_maxDef {X : Cx} (hc : X.calm = true) (hu : X.A.units + 1 < cLine) : CallRK X (.builtin "max") [Str.ofString "default"] (rMaxDef X.K) := by
  intro pins s σ H vs zs us ws Q I r rz h
  obtain ⟨a, ns, d, rfl, rfl, hs, q1, q2⟩ := h
  obtain rfl := Vals.ref1 r
  obtain ⟨w1, rfl, e1⟩ := vals1 rz
  obtain ⟨its, rv, hl, _⟩ := I.list hs
  obtain ⟨as, hr⟩ := Dp.readsAll I _ _ _ (dpAll_ints X.K H ns) rv
  have hd : PyData.depthAll (ns.map PyData.int) = 0 := deep_ints ns
  refine max_list_default (I.ok.hd hc) hl.isList (by simpa using hr) (alike_nums ns) (by rw [hd]; exact hu) (fun he h' tk hk => ?_) (fun y ys i v h' tk bs he hv hrd hk => ?_)
  · exact ⟨d, H, I.kept hk, e1, q1 (by simpa using he)⟩
  · cases ns with
    | nil => cases he
    | cons n ns =>
      have e2 := List.cons.inj he
      rw [← e2.1, ← e2.2, maxD_ints] at hrd
      cases hrd
      exact ⟨.int (maxL (n :: ns)), H, I.kept hk, ⟨_, rfl⟩, q2 (by simp)⟩
section
variable {K : PySem.W.Frag} {σ : L2.St} {H : Hp} {ta tb : TE} {e : PyData}
theorem ed_maxDef {ns : List Int} {d : PyData} (h : EvD K ta σ H (.list (ns.map .int))) (hd : EvD K tb σ H d) (he : (if ns.isEmpty then d else .int (maxL ns)) = e) : EvD K (tCKw (rMaxDef K) (tCons ta tNil) (tCons tb tNil)) σ H e := fun H1 s Q q =>
  h H1 s _ fun v H2 s2 dv => hd H2 (s.trans s2) _ fun w H3 s3 dw => by
    cases dp_same s3 dv with
    | lst hs a =>
      rw [dpAll_int_eq a] at hs
      refine ⟨_, ns, w, rfl, rfl, hs, fun z => ?_, fun z => ?_⟩
      · rw [z] at he
        have he' : d = e := he
        exact q w H3 (s2.trans s3) (by rw [← he']; exact dw)
      · have : ns.isEmpty = false := by
          cases ns with
          | nil => exact absurd rfl z
          | cons => rfl
        rw [this] at he
        have he' : PyData.int (maxL ns) = e := he
        exact q _ H3 (s2.trans s3) (by rw [← he']; exact .int _)
end
end LB
/-! Typed lists; x in a tuple of tuples. Own text. -/
namespace LB
open PySem PySem.Spec PyProof.Rows L2
theorem hu65 {A : Around} {k : Nat} (hr : Room k A) : A.units + 65 < cLine := by
  have := hr.un
  omega
def rInDT (K : PySem.W.Frag) : R2 := fun x y H Q => ∃ d ds, Dp K H x d ∧ Dp K H y (.tuple ds) ∧ SeqAt.shaped d = true ∧ SeqAt.shaped (.tuple ds) = true ∧ Q (.bl (ds.any fun z => PyData.eqv z d)) H
theorem op_inDT {X : Cx} (hu : X.A.units + 65 < cLine) : OpR X (compareOp .In) (rInDT X.K) := by
  intro pins s σ H x y v u Q I rx ry h
  obtain ⟨d, ds, hd, he, sd, se, q⟩ := h
  obtain ⟨as, r1⟩ := Dp.reads I d x v hd rx
  obtain ⟨bs, r2⟩ := Dp.reads I (.tuple ds) y u he ry
  exact SeqAt.in_tuple_reads r2 r1 (SeqAt.canLay_of_shaped se) (SeqAt.canLay_of_shaped sd) (room_in_shaped sd hu) ⟨.bl _, H, I, rfl, q⟩
end LB
namespace LB
open PySem L2
section
variable {K : PySem.W.Frag} {σ : L2.St} {H H' : Hp} {ta tb te : TE} {tt : TT} {d e f : PyData} {ds es : List PyData} {D : Ends} {tu tw tz : TS}
theorem ed_inDT {b : Bool} (ha : EvD K ta σ H d) (hb : EvD K tb σ H (.tuple ds)) (h1 : SeqAt.shaped d = true) (h2 : SeqAt.shaped (.tuple ds) = true) (hi : (ds.any fun z => PyData.eqv z d) = b) : EvD K (tOp (rInDT K) ta tb) σ H (.bool b) :=
  ed_op ha hb fun u v H1 _ dx dy Q q => ⟨d, ds, dx, dy, h1, h2, by rw [hi]; exact q _ H1 (Same.refl _) (.bl _)⟩
variable {α : Type} {c : α → PyData} {xs ys : List α} {x : α} {l : Addr} {i : Nat} {bad : Addr → Prop}
theorem map_ifone {b : Bool} : (xs ++ if b = true then [x] else []).map c = xs.map c ++ if b = true then [c x] else [] := by
  rw [List.map_append]
  cases b <;> rfl
theorem x_app (hv : σ[i]? = some (some (.ref l))) (hl : LstAt K H l (xs.map c)) (h : EvD K te σ H (c x)) (hn : ∀ x, noL (c x) = true) (hz : xs.length ≤ 5000) (hb : bad l) (k : ∀ H1, Chg K bad H H1 → LstAt K H1 l ((xs ++ [x]).map c) → D.nx σ H1) :
    tDrop (tBM K "list" rAppend (tVar i) (tCons te tNil)) D σ H := s_app hv hl h (noLs_map hn) (hn x) (by rw [List.length_map]; exact hz) hb fun H1 g q => k H1 g (by rw [List.map_append]; exact q)
theorem xq_app (hv : σ[i]? = some (some (.ref l))) (hl : LstAt K H l (xs.map c)) (h : EvD K te σ H (c x)) (hn : ∀ x, noL (c x) = true) (hz : xs.length ≤ 5000) (hb : bad l) (k : ∀ H1, Chg K bad H H1 → LstAt K H1 l ((xs ++ [x]).map c) → tz D σ H1) :
    tSeq (tDrop (tBM K "list" rAppend (tVar i) (tCons te tNil))) tz D σ H := x_app (D := { D with nx := tz D }) hv hl h hn hz hb k
theorem x_ifApp {b : Bool} (hc : EvB tt σ H b) (hv : σ[i]? = some (some (.ref l))) (hl : LstAt K H l (xs.map c)) (h : b = true → EvD K te σ H (c x)) (hn : ∀ x, noL (c x) = true) (hz : xs.length ≤ 5000) (hb : bad l)
    (k : ∀ H1, Chg K bad H H1 → LstAt K H1 l ((xs ++ if b = true then [x] else []).map c) → D.nx σ H1) :
    tIfS tt (tDrop (tBM K "list" rAppend (tVar i) (tCons te tNil))) tNext D σ H := s_ifApp hc hv hl h (noLs_map hn) (hn x) (by rw [List.length_map]; exact hz) hb fun H1 g q => k H1 g (by rw [map_ifone]; exact q)
theorem xq_ifApp {b : Bool} (hc : EvB tt σ H b) (hv : σ[i]? = some (some (.ref l))) (hl : LstAt K H l (xs.map c)) (h : b = true → EvD K te σ H (c x)) (hn : ∀ x, noL (c x) = true) (hz : xs.length ≤ 5000) (hb : bad l)
    (k : ∀ H1, Chg K bad H H1 → LstAt K H1 l ((xs ++ if b = true then [x] else []).map c) → tz D σ H1) :
    tSeq (tIfS tt (tDrop (tBM K "list" rAppend (tVar i) (tCons te tNil))) tNext) tz D σ H := x_ifApp (D := { D with nx := tz D }) hc hv hl h hn hz hb k
theorem x_asgN (h : EvN K te σ H (xs.map c)) (k : ∀ p H1, H p = none → Same H H1 → LstAt K H1 p (xs.map c) → D.nx (σ.set i (some (.ref p))) H1) : tAsg te (gName i) D σ H := s_asgN h k
/-- an empty list -/
theorem xq_nil (k : ∀ p H1, H p = none → Same H H1 → LstAt K H1 p (([] : List α).map c) → tz D (σ.set i (some (.ref p))) H1) : tSeq (tAsg (tLst tNil) (gName i)) tz D σ H := q_asgN (en_lst ea_nil (by decide)) k
end
end LB
/-! Chains, slices, texts told by data. Own text. -/
namespace LB
open PySem L2
section
variable {K : PySem.W.Frag} {σ : L2.St} {H H' : Hp} {ta tb tc te : TE} {tt : TT} {d e f : PyData} {ds es : List PyData} {D : Ends} {tu tw tz : TS}
theorem ed_chI {g g' : Int → Int → Bool} {i j k : Int} (ha : EvD K ta σ H (.int i)) (hb : EvD K tb σ H (.int j)) (hc : EvD K tc σ H (.int k)) : EvD K (tChain (rI0 fun i j => .bl (g i j)) (rI0 fun i j => .bl (g' i j)) ta tb tc) σ H (.bool (g i j && g' j k)) := fun H1 s Q q =>
  ha H1 s _ fun x H2 s2 dx => hb H2 (s.trans s2) _ fun y H3 s3 dy => by
    cases dx; cases dy
    refine ⟨i, j, rfl, rfl, g i j, rfl, ?_⟩
    cases e : g i j with
    | false =>
      rw [e] at q
      exact iteF (q _ H3 (s2.trans s3) (.bl false))
    | true =>
      rw [e] at q
      refine iteT (hc H3 ((s.trans s2).trans s3) _ fun z H4 s4 dz => ?_)
      cases dz
      exact ⟨j, k, rfl, rfl, q _ H4 ((s2.trans s3).trans s4) (.bl (g' j k))⟩
theorem ed_slT {tl th : TO} {lo hi : Option Int} (h : EvD K te σ H (.tuple ds)) (h1 : EvO tl σ H lo) (h2 : EvO th σ H hi) : EvD K (tSl (rSlA K) te tl th) σ H (.tuple (cutD ds lo hi)) := fun H1 s Q q =>
  h H1 s _ fun v H2 s2 dv => h1 H2 (s.trans s2) _ fun H3 s3 => h2 H3 ((s.trans s2).trans s3) _ fun H4 s4 => by
    cases dp_same (s3.trans s4) dv with
    | tup hs a =>
      rename_i p xs
      refine ⟨p, xs, rfl, hs, fun hw => ?_, fun _ p' hp => q _ _ (((s2.trans s3).trans s4).trans (same_new hp _)) (.tup (tup_of upd_same) (dpAll_same (same_new hp _) (dpAll_cut a)))⟩
      have e : cutD ds lo hi = ds := by
        unfold cutD
        rw [dpAll_len a] at hw
        rw [hw.1, hw.2]
        simp
      rw [e] at q
      exact q _ H4 ((s2.trans s3).trans s4) (.tup hs a)
theorem cut_map {α : Type} (c : α → PyData) (xs : List α) (lo hi : Option Int) : cutD (xs.map c) lo hi = ((xs.drop (HT.sIx xs.length 0 lo)).take (HT.sIx xs.length xs.length hi - HT.sIx xs.length 0 lo)).map c := by
  unfold cutD
  rw [List.length_map, List.map_take, List.map_drop]
theorem cut_init {α : Type} (c : α → PyData) (xs : List α) : cutD (xs.map c) none (some (-1)) = xs.dropLast.map c := by
  rw [cut_map, List.dropLast_eq_take]
  show ((xs.drop 0).take ((if (-1 : Int) < 0 then ((-1 : Int) + (xs.length : Int)).toNat else min (-1 : Int).toNat xs.length) - 0)).map c = _
  rw [if_pos (by decide), List.drop_zero, Nat.sub_zero, show ((-1 : Int) + (xs.length : Int)).toNat = xs.length - 1 by omega]
theorem cut_from {α : Type} (c : α → PyData) (xs : List α) (k : Nat) : cutD (xs.map c) (some (k : Int)) none = (xs.drop k).map c := by
  rw [cut_map, HT.sIx_nat, HT.sIx_none]
  congr 1
  by_cases h : k ≤ xs.length
  · rw [Nat.min_eq_left h, List.take_of_length_le (by rw [List.length_drop]; omega)]
  · rw [Nat.min_eq_right (by omega), Nat.sub_self, List.take_zero, List.drop_eq_nil_of_le (by omega)]
theorem cut_upto {α : Type} (c : α → PyData) (xs : List α) (k : Nat) : cutD (xs.map c) none (some (k : Int)) = (xs.take k).map c := by
  rw [cut_map, HT.sIx_nat, HT.sIx_none, List.drop_zero, Nat.sub_zero]
  congr 1
  by_cases h : k ≤ xs.length
  · rw [Nat.min_eq_left h]
  · rw [Nat.min_eq_right (by omega), List.take_of_length_le (Nat.le_refl _), List.take_of_length_le (by omega)]
/-- texts -/
theorem ed_addS {a b : Str} (ha : EvD K ta σ H (.str a)) (hb : EvD K tb σ H (.str b)) (hl : a.length + b.length ≤ sizeLine) : EvD K (tOp (fun x y H Q => ∃ i j, x = .str i ∧ y = .str j ∧ i.length + j.length ≤ sizeLine ∧ Q (.str (i ++ j)) H) ta tb) σ H (.str (a ++ b)) :=
  ed_op ha hb fun x y H1 _ dx dy Q q => by
    cases dx; cases dy
    exact ⟨a, b, rfl, rfl, hl, q _ H1 (Same.refl _) (.str _)⟩
/-- comprehensions of flat values -/
theorem en_bools {α : Type} {xs : List α} {p : α → Bool} (h : EvN K te σ H (xs.map fun x => .bool (p x))) : EvN K te σ H ((xs.map p).map .bool) := by
  rw [List.map_map]
  exact h
theorem en_ints {α : Type} {xs : List α} {p : α → Int} (h : EvN K te σ H (xs.map fun x => .int (p x))) : EvN K te σ H ((xs.map p).map .int) := by
  rw [List.map_map]
  exact h
/-- a list's display of numbers -/
theorem en_ints1 {i : Int} (h : EvD K ta σ H (.int i)) : EvN K (tLst (tCons ta tNil)) σ H (([i] : List Int).map .int) := en_lst (ea_cons h ea_nil) (show 1 ≤ 1000 by decide)
end
end LB
/-! len(set(numbers)), [x] * n, int(True), a dict of two numbers, told by data. Own text. -/
namespace LB
open PySem PySem.Spec PyProof.Rows L2
/-- how many unlike ones there are -/
def distinct (ns : List Int) : Nat := (firstMet (fun i => ns.getD i 0) ns.length).length
theorem distinct_le (ns : List Int) : distinct ns ≤ ns.length := firstMet_length_le _ _
def tLenSetG (K : PySem.W.Frag) (ta : TE) : TE := fun σ H Q => ta σ H fun x H1 => ∃ (l : Addr) (ns : List Int), x = V.ref l ∧ SqL K H1 l (ns.map V.int) ∧ ns.length ≤ 1000 ∧ Q (.int (distinct ns)) H1
theorem pe_lenSetG {X : Cx} {e : Expr} {te : TE} {p p2 q pos : Pos} (calm : X.calm = true) (g1 : Gl X "len") (m1 : X.mg "len" = none) (g2 : Gl X "set") (m2 : X.mg "set" = none) (pe : PE X e te)
    (na : starEach [e] X.env = (false, eval e X.env) :: starEach [] X.env := by rfl) : PE X (.Call (.Name "len" p) [.Call (.Name "set" p2) [e] [] q] [] pos) (tLenSetG X.K te) := by
  constructor
  intro pins s σ H Q I h
  refine Call_ ?_
  refine ld_blt I g1 m1 PySem.boot_len ?_
  refine callWith_builtin1 (args_cons ?_ rfl) rfl rfl
  refine Call_ ?_
  refine ld_blt I g2 m2 boot_set ?_
  refine callWith_type1 (args_cons (thn (pe.run pins s σ H _ I h) fun v s1 ⟨x, H1, J, rel, k⟩ => args_nil ?_) na) na rfl
  obtain ⟨l, ns, rfl, sq, lo, k⟩ := k
  cases rel
  obtain ⟨its, rs, pl, _⟩ := J.list sq
  have size : its.toArray.size = ns.length := by rw [List.size_toArray, ← rs.length, List.length_map]
  refine call_set_list (J.ok.hd calm) pl.isList (ns := ns) (by simpa using rs.ints) (by unfold scanBound; omega) fun h2 tk S kp => ?_
  rw [size] at S
  refine args_nil ?_
  obtain ⟨o, es, ep, t, ho, ex, hd, _, _, _, fits, cnt⟩ := S
  have le := distinct_le ns
  unfold distinct at le
  have J2 : Inv X pins σ H1 { s1 with heap := h2, toks := tk } := J.kept fun b o e => kp b o (Heap.lt_size e) e
  exact call_len_set ho ex hd fits (by rw [cnt]; omega) ⟨.int (distinct ns), H1, J2.tok _, ⟨_, by rw [cnt]; rfl⟩, k⟩
end LB
namespace LB
open PySem L2
section
variable {K : PySem.W.Frag} {σ : L2.St} {H H' : Hp} {ta tb tc te : TE} {tt : TT} {d e f : PyData} {ds es : List PyData} {D : Ends} {tu tw tz : TS}
theorem ed_lenSet {ns : List Int} (h : EvD K ta σ H (.list (ns.map .int))) (hl : ns.length ≤ 1000) : EvD K (tLenSetG K ta) σ H (.int (distinct ns : Nat)) := fun H1 s Q q =>
  h H1 s _ fun v H2 s2 dv => by
    cases dv with
    | lst hs a =>
      rw [dpAll_int_eq a] at hs
      exact ⟨_, ns, rfl, hs, hl, q _ H2 s2 (.int _)⟩
theorem rep_one {α : Type} (x : α) (n : Nat) : (List.replicate n [x]).flatten = List.replicate n x := by
  induction n with
  | zero => rfl
  | succ n ih => rw [List.replicate_succ, List.flatten_cons, ih]; rfl
theorem dpAll_rep {v : V} (hv : Dp K H v d) : ∀ n, DpAll K H (List.replicate n v) (List.replicate n d)
  | 0 => .nil
  | n + 1 => .cons hv (dpAll_rep hv n)
/-- [x] * n -/
theorem en_rep {n : Nat} (ha : EvN K ta σ H [d]) (hb : EvD K tb σ H (.int (n : Nat))) (hn : n ≤ 1000) : EvN K (tOp rRep ta tb) σ H (List.replicate n d) := fun H1 s Q q =>
  ha H1 s _ fun p vs H2 np s2 h2 a => hb H2 (s.trans s2) _ fun y H3 s3 dy => by
    cases dy
    cases a with
    | cons hv a =>
      cases a
      rename_i v
      refine ⟨p, n, [v], rfl, rfl, s3 _ _ h2, by omega, by omega, ?_, fun l hl => ?_⟩
      · show 1 * (n : Int).toNat ≤ _
        rw [Int.toNat_natCast, Nat.one_mul]
        exact small hn
      · have sl := (s2.trans s3).trans (same_new hl (.lst (List.replicate ((n : Nat) : Int).toNat [v]).flatten))
        refine q l _ _ ((s2.trans s3).free hl) sl upd_same ?_
        rw [Int.toNat_natCast, rep_one]
        exact dpAll_same (s3.trans (same_new hl _)) (dpAll_rep hv n)
theorem ed_intB {b : Bool} (h : EvD K ta σ H (.bool b)) : EvD K (tCB (fun xs H Q => (∃ i, xs = [V.int i] ∧ Q (.int i) H) ∨ ∃ k, xs = [V.bl k] ∧ Q (.int (if k then 1 else 0)) H) (tCons ta tNil)) σ H (.int (if b then 1 else 0)) := fun H1 s Q q =>
  h H1 s _ fun v H2 s2 dv => by
    cases dv
    exact .inr ⟨b, rfl, q _ H2 s2 (.int _)⟩
theorem mergeI2 (a b : Int) (x y : V) (j : Int) : valV (mergeK [] [(Sum.inl a, x), (Sum.inl b, y)]) (Sum.inl j) = if j = b then some y else if j = a then some x else none := by
  show valV (putK (putK [] (Sum.inl a) x) (Sum.inl b) y) (Sum.inl j) = _
  rw [valV_put, valV_put, valV_nil]
  simp only [Sum.inl.injEq]
/-- [xs, ys][int(b)] of flat data -/
theorem ed_pick {b : Bool} {i : Int} (hl : EvD K ta σ H (.list [d, e])) (hi : EvD K tb σ H (.int i)) (hb : i = if b then 1 else 0) : EvD K (tOp (rIxL K) ta tb) σ H (if b = true then e else d) := by
  subst hb
  cases b with
  | true => exact ed_ixL hl hi (atI_nat (j := 1) rfl)
  | false => exact ed_ixL hl hi (atI_nat (j := 0) rfl)
theorem ed_pickI {b : Bool} {i j : Int} (hl : EvD K ta σ H (.list [.int i, .int j])) (hi : EvD K tb σ H (.int (if b = true then 1 else 0))) : EvD K (tOp (rIxL K) ta tb) σ H (.int (if b = true then j else i)) := (ed_pick hl hi rfl).eq (by cases b <;> rfl)
end
end LB
namespace LB
open PySem L2
/-- a list that may change later -/
def EvL (K : PySem.W.Frag) (te : TE) (σ : L2.St) (H : Hp) (ds : List PyData) : Prop := ∀ H1, Same H H1 → ∀ Q : VK, (∀ p vs H2, Same H1 H2 → H2 p = some (.lst vs) → DpAll K H2 vs ds → Q (.ref p) H2) → te σ H1 Q
section
variable {K : PySem.W.Frag} {σ : L2.St} {H H' : Hp} {ta tb tc te : TE} {tt : TT} {d e f : PyData} {ds es : List PyData} {D : Ends} {tu tw tz : TS}
theorem EvN.toL (h : EvN K te σ H ds) : EvL K te σ H ds := fun H1 s Q q => h H1 s Q fun p vs H2 _ s2 e a => q p vs H2 s2 e a
theorem el_var {i : Nat} {l : Addr} (hv : σ[i]? = some (some (.ref l))) (hl : LstAt K H l ds) : EvL K (tVar i) σ H ds := fun H1 s Q q => by
  obtain ⟨vs, e, a⟩ := hl.same s
  exact ⟨_, hv, q l vs H1 (Same.refl _) e a⟩
theorem en_catL (ha : EvL K ta σ H ds) (hb : EvL K tb σ H es) (hl : ds.length + es.length ≤ 5000) : EvN K (tOp rCat ta tb) σ H (ds ++ es) := fun H1 s Q q =>
  ha H1 s _ fun p vs H2 s2 h2 a => hb H2 (s.trans s2) _ fun p' ws H3 s3 h3 b => ⟨p, p', vs, ws, rfl, rfl, s3 _ _ h2, h3, by rw [dpAll_len a, dpAll_len b]; exact Nat.le_trans hl (by decide), fun l hl =>
    q l _ _ ((s2.trans s3).free hl) ((s2.trans s3).trans (same_new hl _)) upd_same (dpAll_same (same_new hl _) (dpAll_append b (dpAll_same s3 a)))⟩
end
end LB
/-! Texts told by data: str(x), join, split, isdigit, len, a sign, int(text); tuples put together. Own text. -/
namespace LB
open PySem L2
def numS (i : Int) : Str := Str.ofString (toString i)
def rStrU : List V → Hp → VK → Prop := fun xs H Q => (∃ i : Int, xs = [.int i] ∧ i.natAbs.log2 < 1920 ∧ Q (.str (toString i)) H) ∨ ∃ a, xs = [.str a] ∧ Q (.str a) H
theorem cr_strU {X : Cx} : CallR X (.type "str") rStrU := fun pins s σ H vs us Q I r h => by
  rcases h with h | h
  · exact call_str_int pins s σ H vs us Q I r h
  · exact SkE.call_str_str pins s σ H vs us Q I r h
abbrev rJoin (K : PySem.W.Frag) : V → List V → Hp → VK → Prop := fun x xs H Q => ∃ a p, ∃ ys : List Str, x = .str a ∧ xs = [.ref p] ∧ (SqL K H p (ys.map V.str) ∨ SqT K H p (ys.map V.str)) ∧ (ys.map (·.length)).sum + ys.length * a.length ≤ 16777216 ∧ Q (.str (Txt.join a ys)) H
theorem pe_joinK {X : Cx} {o e : Expr} {to te : TE} {apos pos : Pos} (K : PySem.W.Frag) (ho : PE X o to) (he : PE X e te) (hK : X.K = K := by rfl) (hs : starEach [e] X.env = [(false, eval e X.env)] := by rfl) (hb : attributeBase o "join" X.env (eval o X.env) = eval o X.env := by rfl) (hl : (apos.endLine == pos.line) = true := by rfl) :
    PE X (.Call (.Attribute o "join" apos) [e] [] pos) (tM1 (rJoin K) to te) := by
  subst hK
  exact pe_join ho he hs hb hl
abbrev rSplit : V → List V → Hp → VK → Prop := fun x xs H Q => ∃ a b, x = .str a ∧ xs = [.str b] ∧ (b.length == 0) = false ∧ a.length + 2 ≤ sizeLine ∧ rNewStrs (Txt.split a b) H Q
section
variable {K : PySem.W.Frag} {σ : L2.St} {H H' : Hp} {ta tb tc te : TE} {tt : TT} {d e f : PyData} {ds es : List PyData}
theorem dpAll_strs : ∀ ys : List Str, DpAll K H (ys.map V.str) (ys.map PyData.str)
  | [] => .nil
  | y :: r => .cons (.str y) (dpAll_strs r)
theorem log_small {i : Int} (h0 : 0 ≤ i) (h1 : i < 1000) : i.natAbs.log2 < 1920 := by
  have := Nat.log2_le_self i.natAbs
  omega
theorem ed_strI {i : Int} (h : EvD K ta σ H (.int i)) (hb : i.natAbs.log2 < 1920) : EvD K (tCB rStrU (tCons ta tNil)) σ H (.str (numS i)) := fun H1 s Q q =>
  h H1 s _ fun v H2 s2 dv => by
    cases dv
    exact .inl ⟨i, rfl, hb, q _ H2 s2 (.str _)⟩
theorem ed_strS {a : Str} (h : EvD K ta σ H (.str a)) : EvD K (tCB rStrU (tCons ta tNil)) σ H (.str a) := fun H1 s Q q =>
  h H1 s _ fun v H2 s2 dv => by
    cases dv
    exact .inr ⟨a, rfl, q _ H2 s2 (.str _)⟩
theorem ed_join {a : Str} {ys : List Str} (ha : EvD K ta σ H (.str a)) (hb : EvD K tb σ H (.list (ys.map .str))) (hs : (ys.map (·.length)).sum + ys.length * a.length ≤ 16777216) : EvD K (tM1 (rJoin K) ta tb) σ H (.str (Txt.join a ys)) := fun H1 s Q q =>
  ha H1 s _ fun v H2 s2 dv => by
    cases dv
    refine ⟨⟨a, rfl⟩, hb H2 (s.trans s2) _ fun u H3 s3 du => ?_⟩
    cases du with
    | lst hl b =>
      rw [dpAll_str_eq b] at hl
      exact ⟨a, _, ys, rfl, rfl, .inl hl, hs, q _ H3 (s2.trans s3) (.str _)⟩
theorem en_split {a b : Str} (ha : EvD K ta σ H (.str a)) (hb : EvD K tb σ H (.str b)) (h0 : (b.length == 0) = false) (hl : a.length + 2 ≤ sizeLine) : EvN K (tM1 rSplit ta tb) σ H ((Txt.split a b).map .str) := fun H1 s Q q =>
  ha H1 s _ fun v H2 s2 dv => by
    cases dv
    refine ⟨⟨a, rfl⟩, hb H2 (s.trans s2) _ fun u H3 s3 du => ?_⟩
    cases du
    refine ⟨a, b, rfl, rfl, h0, hl, fun p hp => q p _ _ ((s2.trans s3).free hp) ((s2.trans s3).trans (same_new hp _)) upd_same (dpAll_strs _)⟩
theorem ed_isdigit {a : Str} (ha : EvD K ta σ H (.str a)) : EvD K (tM0 (fun x xs H Q => ∃ a, x = .str a ∧ xs = [] ∧ True ∧ Q (.bl (Txt.isdigit a)) H) ta) σ H (.bool (Txt.isdigit a)) := fun H1 s Q q =>
  ha H1 s _ fun v H2 s2 dv => by
    cases dv
    exact ⟨⟨a, rfl⟩, a, rfl, rfl, trivial, q _ H2 s2 (.bl _)⟩
theorem ed_lenS {a : Str} (ha : EvD K ta σ H (.str a)) (hl : a.length ≤ sizeLine) : EvD K (tCB (fun xs H Q => ∃ z, xs = [V.str z] ∧ z.length ≤ sizeLine ∧ Q (.int z.length) H) (tCons ta tNil)) σ H (.int (a.length : Nat)) := fun H1 s Q q =>
  ha H1 s _ fun v H2 s2 dv => by
    cases dv
    exact ⟨a, rfl, hl, q _ H2 s2 (.int _)⟩
theorem ed_ixS {a : Str} {i : Int} {c : Nat} (ha : EvD K ta σ H (.str a)) (hb : EvD K tb σ H (.int i)) (hl : a.length ≤ sizeLine) (hc : atI a.cps.toList i = some c) : EvD K (tOp rIxS ta tb) σ H (.str ⟨#[c]⟩) :=
  ed_op ha hb fun x y H1 _ dx dy Q q => by
    cases dx; cases dy
    exact ⟨a, i, c, rfl, rfl, hl, hc, q _ H1 (Same.refl _) (.str _)⟩
theorem ed_intT {a : Str} {n : Int} (ha : EvD K ta σ H (.str a)) (hn : PySem.intText? a = some n) (hl : a.length ≤ 640) : EvD K (tCB (fun xs H Q => ∃ a n, xs = [V.str a] ∧ PySem.intText? a = some n ∧ a.length ≤ 640 ∧ Q (.int n) H) (tCons ta tNil)) σ H (.int n) := fun H1 s Q q =>
  ha H1 s _ fun v H2 s2 dv => by
    cases dv
    exact ⟨a, n, rfl, hn, hl, q _ H2 s2 (.int _)⟩
theorem ed_catT (ha : EvD K ta σ H (.tuple ds)) (hb : EvD K tb σ H (.tuple es)) (hl : ds.length + es.length ≤ 5000) : EvD K (tOp (rCatA K) ta tb) σ H (.tuple (ds ++ es)) :=
  ed_op ha hb fun x y H1 _ dx dy Q q => by
    cases dx with
    | tup h1 a1 =>
      cases dy with
      | tup h2 a2 =>
        have e1 := dpAll_len a1
        have e2 := dpAll_len a2
        refine ⟨_, _, _, _, rfl, rfl, h1, h2, by rw [e1, e2]; exact Nat.le_trans hl (by decide), fun z => ?_, fun _ z => ?_, fun _ _ p hp => ?_⟩
        · subst z
          cases a1
          exact q _ H1 (Same.refl _) (.tup h2 a2)
        · subst z
          cases a2
          rw [List.append_nil] at q
          exact q _ H1 (Same.refl _) (.tup h1 a1)
        · exact q _ _ (same_new hp _) (.tup (tup_of upd_same) (dpAll_same (same_new hp _) (dpAll_append a2 a1)))
end
/-! ### numbers as texts -/
theorem num_tl {n : Nat} : TL.tl (numS (n : Int)) = TL.numL n := TL.tl_num n
theorem str_len (a : Str) : a.length = (TL.tl a).length := TL.len_tl a
theorem num_len {n : Nat} (h : n < 1000) : (numS (n : Int)).length ≤ 3 := by
  rw [str_len, num_tl]
  exact TL.numL_len (k := 3) (by decide) h
theorem num_int {n : Nat} (h : n < 1000) : PySem.intText? (numS (n : Int)) = some (n : Int) := TL.int_num (by
  have := TL.numL_len (k := 3) (by decide) h
  omega)
theorem num_dig : ∀ n : Nat, n < 1000 → Txt.isdigit (numS (n : Int)) = true := by decide +kernel
/-- the first figure -/
theorem num_head : ∀ n : Nat, n < 1000 → ∃ c, atI (numS (n : Int)).cps.toList 0 = some c ∧ (c = 48 → n = 0) := by
  intro n h
  have e : (numS (n : Int)).cps.toList = TL.numL n := num_tl
  rw [e]
  by_cases h1 : n < 10
  · rw [TL.numL_lt h1]
    exact ⟨48 + n, rfl, fun z => by omega⟩
  · rw [TL.numL_step (by omega)]
    by_cases h2 : n / 10 < 10
    · rw [TL.numL_lt h2]
      exact ⟨48 + n / 10, rfl, fun z => by omega⟩
    · rw [TL.numL_step (by omega), TL.numL_lt (show n / 10 / 10 < 10 by omega)]
      exact ⟨48 + n / 10 / 10, rfl, fun z => by omega⟩
theorem num_free {n s : Nat} (h : s < 48 ∨ 57 < s) : s ∉ TL.tl (numS (n : Int)) := by
  rw [num_tl]
  exact TL.numL_free h
end LB
/-! Data whose lists are none of those that change. Own text. -/
namespace LB
open PySem L2
mutual
inductive Dq (K : PySem.W.Frag) (bad : Addr → Prop) (H : Hp) : V → PyData → Prop
  | non : Dq K bad H .non .none
  | bl (b : Bool) : Dq K bad H (.bl b) (.bool b)
  | int (i : Int) : Dq K bad H (.int i) (.int i)
  | str (x : Str) : Dq K bad H (.str x) (.str x)
  | tup {a : Addr} {xs : List V} {ds : List PyData} : SqT K H a xs → DqAll K bad H xs ds → Dq K bad H (.ref a) (.tuple ds)
  | lst {a : Addr} {xs : List V} {ds : List PyData} : ¬ bad a → H a = some (.lst xs) → DqAll K bad H xs ds → Dq K bad H (.ref a) (.list ds)
inductive DqAll (K : PySem.W.Frag) (bad : Addr → Prop) (H : Hp) : List V → List PyData → Prop
  | nil : DqAll K bad H [] []
  | cons {v : V} {vs : List V} {d : PyData} {ds : List PyData} : Dq K bad H v d → DqAll K bad H vs ds → DqAll K bad H (v :: vs) (d :: ds)
end
section
variable {K : PySem.W.Frag} {bad bad' : Addr → Prop} {H H' : Hp}
mutual
theorem dq_dp : ∀ {d : PyData} {v : V}, Dq K bad H v d → Dp K H v d
  | .none, _, h => by cases h; exact .non
  | .bool b, _, h => by cases h; exact .bl b
  | .int i, _, h => by cases h; exact .int i
  | .str x, _, h => by cases h; exact .str x
  | .tuple ds, _, h => by
    cases h with
    | tup s a => exact .tup s (dqAll_dp a)
  | .list ds, _, h => by
    cases h with
    | lst n e a => exact .lst (SqL.of e) (dqAll_dp a)
  | .dict _, _, h => by cases h
theorem dqAll_dp : ∀ {ds : List PyData} {vs : List V}, DqAll K bad H vs ds → DpAll K H vs ds
  | [], _, h => by cases h; exact .nil
  | d :: ds, _, h => by
    cases h with
    | cons h a => exact .cons (dq_dp h) (dqAll_dp a)
end
mutual
theorem dq_chg (c : Chg K bad H H') : ∀ {d : PyData} {v : V}, Dq K bad H v d → Dq K bad H' v d
  | .none, _, h => by cases h; exact .non
  | .bool b, _, h => by cases h; exact .bl b
  | .int i, _, h => by cases h; exact .int i
  | .str x, _, h => by cases h; exact .str x
  | .tuple ds, _, h => by
    cases h with
    | tup s a => exact .tup (c.grow _ _ s) (dqAll_chg c a)
  | .list ds, _, h => by
    cases h with
    | lst n e a => exact .lst n (c.but _ _ n e) (dqAll_chg c a)
  | .dict _, _, h => by cases h
theorem dqAll_chg (c : Chg K bad H H') : ∀ {ds : List PyData} {vs : List V}, DqAll K bad H vs ds → DqAll K bad H' vs ds
  | [], _, h => by cases h; exact .nil
  | d :: ds, _, h => by
    cases h with
    | cons h a => exact .cons (dq_chg c h) (dqAll_chg c a)
end
theorem dq_same {d : PyData} {v : V} (s : Same H H') (h : Dq K bad H v d) : Dq K bad H' v d := dq_chg (Chg.of s) h
theorem dqAll_same {ds : List PyData} {vs : List V} (s : Same H H') (h : DqAll K bad H vs ds) : DqAll K bad H' vs ds := dqAll_chg (Chg.of s) h
mutual
theorem dq_more (c : ∀ a xs, H a = some (.lst xs) → ¬ bad a → ¬ bad' a) : ∀ {d : PyData} {v : V}, Dq K bad H v d → Dq K bad' H v d
  | .none, _, h => by cases h; exact .non
  | .bool b, _, h => by cases h; exact .bl b
  | .int i, _, h => by cases h; exact .int i
  | .str x, _, h => by cases h; exact .str x
  | .tuple ds, _, h => by
    cases h with
    | tup s a => exact .tup s (dqAll_more c a)
  | .list ds, _, h => by
    cases h with
    | lst n e a => exact .lst (c _ _ e n) e (dqAll_more c a)
  | .dict _, _, h => by cases h
theorem dqAll_more (c : ∀ a xs, H a = some (.lst xs) → ¬ bad a → ¬ bad' a) : ∀ {ds : List PyData} {vs : List V}, DqAll K bad H vs ds → DqAll K bad' H vs ds
  | [], _, h => by cases h; exact .nil
  | d :: ds, _, h => by
    cases h with
    | cons h a => exact .cons (dq_more c h) (dqAll_more c a)
end
mutual
theorem dq_noL : ∀ {d : PyData} {v : V}, noL d = true → Dp K H v d → Dq K bad H v d
  | .none, _, _, h => by cases h; exact .non
  | .bool b, _, _, h => by cases h; exact .bl b
  | .int i, _, _, h => by cases h; exact .int i
  | .str x, _, _, h => by cases h; exact .str x
  | .tuple ds, _, n, h => by
    cases h with
    | tup s a => exact .tup s (dqAll_noL n a)
  | .list ds, _, n, h => by cases n
  | .dict _, _, _, h => by cases h
theorem dqAll_noL : ∀ {ds : List PyData} {vs : List V}, noLs ds = true → DpAll K H vs ds → DqAll K bad H vs ds
  | [], _, _, h => by cases h; exact .nil
  | d :: ds, _, n, h => by
    have n' : (noL d && noLs ds) = true := n
    rw [Bool.and_eq_true] at n'
    cases h with
    | cons h a => exact .cons (dq_noL n'.1 h) (dqAll_noL n'.2 a)
end
theorem dqAll_snoc {v : V} {d : PyData} (hv : Dq K bad H v d) : ∀ {ds : List PyData} {vs : List V}, DqAll K bad H vs ds → DqAll K bad H (vs ++ [v]) (ds ++ [d])
  | [], _, h => by cases h; exact .cons hv .nil
  | _ :: _, _, h => by
    cases h with
    | cons h a => exact .cons h (dqAll_snoc hv a)
theorem dqAll_atx : ∀ (ds : List PyData) (vs : List V) (i : Nat) (v : V), DqAll K bad H vs ds → vs[i]? = some v → ∃ d, ds[i]? = some d ∧ Dq K bad H v d
  | [], vs, i, v, h, e => by cases h; cases e
  | d :: ds, [], i, v, h, e => by cases h
  | d :: ds, w :: ws, 0, v, h, e => by
    cases h with
    | cons h a => cases e; exact ⟨d, rfl, h⟩
  | d :: ds, w :: ws, i + 1, v, h, e => by
    cases h with
    | cons h a => exact dqAll_atx ds ws i v a e
theorem dqAll_at {ds : List PyData} {vs : List V} {i : Nat} {v : V} (h : DqAll K bad H vs ds) (e : vs[i]? = some v) : ∃ d, ds[i]? = some d ∧ Dq K bad H v d := dqAll_atx ds vs i v h e
end
/-- a list that may change, of such data -/
def LstQ (K : PySem.W.Frag) (bad : Addr → Prop) (H : Hp) (l : Addr) (ds : List PyData) : Prop := ∃ vs, H l = some (.lst vs) ∧ DqAll K bad H vs ds
def EvQ (K : PySem.W.Frag) (bad : Addr → Prop) (te : TE) (σ : L2.St) (H : Hp) (d : PyData) : Prop := ∀ H1, Same H H1 → ∀ Q : VK, (∀ v H2, Same H1 H2 → Dq K bad H2 v d → Q v H2) → te σ H1 Q
section
variable {K : PySem.W.Frag} {bad : Addr → Prop} {σ : L2.St} {H H' : Hp} {ta tb te : TE} {d e f : PyData} {ds es : List PyData} {D : Ends} {tz : TS}
theorem LstQ.same {l : Addr} (s : Same H H') (h : LstQ K bad H l ds) : LstQ K bad H' l ds := by
  obtain ⟨vs, e, a⟩ := h
  exact ⟨vs, s _ _ e, dqAll_same s a⟩
theorem LstQ.chg {l : Addr} (c : Chg K bad H H') (n : ¬ bad l) (h : LstQ K bad H l ds) : LstQ K bad H' l ds := by
  obtain ⟨vs, e, a⟩ := h
  exact ⟨vs, c.but _ _ n e, dqAll_chg c a⟩
theorem LstQ.dp {l : Addr} (h : LstQ K bad H l ds) : Dp K H (.ref l) (.list ds) := by
  obtain ⟨vs, e, a⟩ := h
  exact .lst (SqL.of e) (dqAll_dp a)
theorem EvD.toQ (h : EvD K te σ H d) (n : noL d = true) : EvQ K bad te σ H d := fun H1 s Q q => h H1 s Q fun v H2 s2 dv => q v H2 s2 (dq_noL n dv)
theorem EvN.toQ (h : EvN K te σ H ds) (n : noLs ds = true) (hb : ∀ a, bad a → ∃ o, H a = some o) : EvQ K bad te σ H (.list ds) := fun H1 s Q q => h H1 s Q fun p vs H2 np s2 e a => q _ H2 s2 (.lst (fun z => by
  obtain ⟨o, w⟩ := hb p z
  rw [s _ _ w] at np
  cases np) e (dqAll_noL n a))
theorem eq_tup2 (ha : EvQ K bad ta σ H d) (hb : EvQ K bad tb σ H e) : EvQ K bad (tTup (tCons ta (tCons tb tNil))) σ H (.tuple [d, e]) := fun H1 s Q q =>
  ha H1 s _ fun v H2 s2 dv => hb H2 (s.trans s2) _ fun w H3 s3 dw => ⟨show 2 ≤ sizeLine from small (by decide), fun p hp => q _ _ ((s2.trans s3).trans (same_new hp _)) (.tup (tup_of upd_same) (.cons (dq_same (s3.trans (same_new hp _)) dv) (.cons (dq_same (same_new hp _) dw) .nil)))⟩
/-- xs.append(e) -/
theorem s_appQ {i : Nat} {l : Addr} (hv : σ[i]? = some (some (.ref l))) (hl : LstQ K bad H l ds) (h : EvQ K bad te σ H d) (hz : ds.length ≤ 5000) (hb : bad l) (k : ∀ H1, (∀ b o, b ≠ l → H b = some o → H1 b = some o) → Chg K bad H H1 → LstQ K bad H1 l (ds ++ [d]) → D.nx σ H1) :
    tDrop (tBM K "list" rAppend (tVar i) (tCons te tNil)) D σ H := by
  obtain ⟨vs, e, a⟩ := hl
  refine ⟨_, hv, .inl ⟨rfl, vs, SqL.of e⟩, h H (Same.refl _) _ fun v H2 s2 dv => ?_⟩
  have hl' := dpAll_len (dqAll_dp a)
  have c2 : Chg K bad H2 (upd H2 l (.lst (vs ++ [v]))) := Chg.set (s2 _ _ e) hb
  have c : Chg K bad H (upd H2 l (.lst (vs ++ [v]))) := (Chg.of s2).trans c2
  refine ⟨l, vs, v, rfl, rfl, s2 _ _ e, ?_, k _ (fun b o n z => by rw [upd_ne n]; exact s2 _ _ z) c ⟨_, upd_same, dqAll_snoc (dq_chg c2 dv) (dqAll_chg c a)⟩⟩
  rw [hl']
  exact Nat.lt_of_le_of_lt hz (by decide)
end
end LB
namespace LB
open PySem L2
section
variable {P : Program} {w : World} {K : PySem.W.Frag} {mg : Str → Option Value} {base : Heap}
theorem ed_alike {n : Nat} {σ : L2.St} {H : Hp} {ta tb : TE} {d : PyData} (ha : EvD K ta σ H d) (hb : EvD K tb σ H d) (sm : Sm n d) : EvD K (tCal (spA K (n + 1)) (tCons ta (tCons tb tNil))) σ H (.bool true) := fun H1 s Q q =>
  ha H1 s _ fun v H2 s2 dv => hb H2 (s.trans s2) _ fun w H3 s3 dw => ⟨v, w, d, rfl, dp_same s3 dv, dw, sm, fun H4 s4 => q _ H4 ((s2.trans s3).trans s4) (.bl _)⟩
theorem sm_list {α : Type} {c : α → PyData} {xs : List α} {n : Nat} (h : xs.length ≤ 5000) (hc : ∀ x, Sm n (c x)) : Sm (n + 1) (.list (xs.map c)) := .lst (by rw [List.length_map]; exact h) fun e he => by
  obtain ⟨x, _, rfl⟩ := List.mem_map.mp he
  exact hc x
theorem sm_opt (o : Option Int) (n : Nat) : Sm (n + 1) (optD o) := by
  cases o with
  | none => exact .non _
  | some i => exact .int _ _
end
end LB
namespace LB
open PySem L2
abbrev GRw (mg : Str → Option Value) : Prop := ∃ t, mg "MOST_ROWS" = some (.int 200 t)
theorem not_empty {rs : List Rw} (h : 1 ≤ rs.length) : (!(!(rs.map rowD).isEmpty)) = false := by
  cases rs with
  | nil => exact absurd h (by decide)
  | cons a b => rfl
theorem cut_all {α : Type} (c : α → PyData) (xs : List α) (h : xs.length ≤ 200) : cutD (xs.map c) none (some 200) = xs.map c := by
  have q := cut_upto c xs 200
  rw [List.take_of_length_le h] at q
  exact q
section
variable {P : Program} {w : World} {K : PySem.W.Frag} {mg : Str → Option Value} {base : Heap}
abbrev dFlaw (K : PySem.W.Frag) : Sp := spD K (fun rs : List Rw => [progD rs, .int rs.length]) (fun rs => RsOk rs) (fun _ => .none)
theorem scFlaw : FnScope ["rows", "many", "at", "row"] ["rows", "many"] (defScope s_first_flaw) := ⟨rfl, rfl, rfl, by decide +kernel, rfl, by decide +kernel, by decide +kernel⟩
theorem ok_flaw {f : Addr} {fd : FuncData} (F : Fun K "first_flaw" "first_flaw" s_first_flaw f fd) (RW : Cal P w K mg base 2 "is_row" ["row", "many"] (dRow K)) (B : Bl2 mg) (GR : GRw mg) : FnOk P w K mg base CX0 3 f fd ["rows", "many"] (dFlaw K) := by
  refine F.ok scFlaw (fun vs H Q E h => ?_) (fun cdv A outer s H vs Q E hr h => ?_)
  · obtain ⟨i, _, a, _⟩ := h
    exact dpAll_len a
  · obtain ⟨rs, ⟨l1, l200, hok⟩, a, k⟩ := h
    rcases a with _ | ⟨d_rows, _ | ⟨dm, ⟨⟩⟩⟩
    cases dm
    rename_i rv
    have hr2 : Room 2 _ := hr.mono (by decide)
    have d_rows : Dp K H rv (.tuple (rs.map rowD)) := d_rows
    refine ⟨_, (pss_cons (ps_for PassesOwn.never rfl (pi_enumT (by rfl) B.enum (pa_cons (pe_slice sl_tupA (pv 0) po_none (po_some (pe_gint GR))) pa_nil)) (pg_tup rfl (pgs_cons (pg_name (i := 2) scFlaw.nd rfl (Or.inl rfl)) (pgs_cons (pg_name (i := 3) scFlaw.nd rfl (Or.inl rfl)) pgs_nil))) (pss_one (ps_if (pt_not (pt_val (pe_cal RW hr2 (pa_cons (pv 3) (pa_cons (pv 1) pa_nil))))) (pss_one (ps_ret (pv 2))) pss_nil))) (pss_cons (ps_if (pt_not (pt_truth (pv 0) (by intro _; rfl))) (pss_one (ps_ret pe_int)) pss_nil) (pss_one (ps_ret (pe_ifExp (pt_cmpR op_gt (pe_callB call_len_seq (by rfl) B.b.len PySem.boot_len (pa_cons (pv 0) pa_nil)) (pe_gint GR) (nomark _)) (pe_gint GR) pe_non))))), ?_⟩
    have S := Same.refl H
    refine q_for ((ei_enumT ((ed_slT (ed_var rfl (dp_same S d_rows)) eo_none (eo_some (K := K) ed_int)).eq (congrArg PyData.tuple (cut_all rowD rs l200))) (noLs_rows rs)) |> EvI.len (List.length_map ..)) tg2 (fun i d e => ?_) (fun Hb i σ' H' => Same H H' ∧ Grow K Hb H' ∧ ∃ a2 a3, σ' = [some rv, some (.int (rs.length : Int)), a2, a3])
      (fun H2 s => ⟨S.trans s, Grow.refl _, _, _, rfl⟩) (fun Hb i σ' H' p => p.2.1) ?_ ?_
    · obtain ⟨u, _, rfl⟩ := Option.map_eq_some_iff.mp e
      exact ⟨_, _, rfl⟩
    · rintro Hb i d σ' H' σ2 H2 _ hi e ⟨S', gr, a2, a3, rfl⟩ s2 ⟨v, u, a, b, rfl, dv, du, rfl⟩
      rw [List.getElem?_map, List.getElem?_eq_getElem hi] at e
      cases e
      have S := S'.trans s2
      refine s_if (b := false) (EvB.eq (eb_not (eb_val (K := K) (ed_cal (rs[i], (rs.length : Int)) (ea_cons (ed_var rfl du) (ea_cons (ed_var rfl (.int _)) ea_nil)) (hok _ (List.getElem_mem hi))))) rfl) (fun z => by cases z) fun _ H3 s3 => ?_
      exact ⟨S.trans s3, (gr.trans (Grow.same s2)).trans (Grow.same s3), _, _, rfl⟩
    · rintro Hb σ' H' _ ⟨S, gr, a2, a3, rfl⟩
      refine q_when (b := false) (EvB.eq (eb_not (eb_truthT (K := K) (ed_var rfl (dp_same S d_rows)))) (not_empty l1)) (fun z => by cases z) fun _ H3 s3 => ?_
      have S := S.trans s3
      refine s_ret (K := K) (d := .none) ((ed_if (b := false) (EvB.eq (eb_of (K := K) (ed_cI ((ed_lenT (ed_var rfl (dp_same S d_rows))).eq (by rw [List.length_map])) ed_int)) (decide_eq_false (by omega))) (fun z => by cases z) (fun _ => ed_non) (d := .none)).eq rfl) fun v H4 s4 dv => k v H4 (S.trans s4) dv
abbrev dChkP (K : PySem.W.Frag) : Sp := spD K (fun rs : List Rw => [progD rs]) (fun rs => RsOk rs) (fun _ => .none)
theorem scChkPn : FnScope ["program", "flaw"] ["program"] (defScope sChkP) := ⟨rfl, rfl, rfl, by decide +kernel, rfl, by decide +kernel, by decide +kernel⟩
theorem ok_chkPn {f : Addr} {fd : FuncData} (F : Fun K "check_program" "check_program" sChkP f fd) (FF : Cal P w K mg base 3 "first_flaw" ["rows", "many"] (dFlaw K)) (B : Bl2 mg) (GR : GRw mg) : FnOk P w K mg base CX0 4 f fd ["program"] (dChkP K) := by
  refine F.ok scChkPn (fun vs H Q E h => ?_) (fun cdv A outer s H vs Q E hr h => ?_)
  · obtain ⟨i, _, a, _⟩ := h
    exact dpAll_len a
  · obtain ⟨rs, hR, a, k⟩ := h
    rcases a with _ | ⟨d_program, ⟨⟩⟩
    have hr3 : Room 3 _ := hr.mono (by decide)
    refine ⟨_, (pss_cons (ps_set (i := 1) scChkPn.nd rfl (Or.inl rfl) (pe_cal FF hr3 (pa_cons (pv 0) (pa_cons (pe_callB (call_min2 rfl) (by rfl) B.b.min (by decide +kernel) (pa_cons (pe_callB call_len_seq (by rfl) B.b.len PySem.boot_len (pa_cons (pv 0) pa_nil)) (pa_cons (pe_gint GR) pa_nil))) pa_nil)))) (pss_one (ps_if (pt_cmpR op_notN (pv 1) pe_non (nomark _)) (pss_one ps_never) pss_nil))), ?_⟩
    refine q_asg (ed_cal rs (ea_cons (ed_var rfl d_program) (ea_cons ((ed_min2 (K := K) ((ed_lenT (ed_var rfl d_program)).eq (by rw [List.length_map])) ed_int).eq (by rw [Int.min_eq_left (by have := hR.2.1; omega)])) ea_nil)) hR) fun v H1 s1 dv => ?_
    refine s_if (b := false) (eb_of (ed_notN (K := K) (ed_var rfl dv))) (fun z => by cases z) fun _ H2 s2 => ?_
    exact k _ H2 (s1.trans s2) .non
/-- as the older texts ask it -/
def spChkP (K : PySem.W.Frag) : Sp := fun vs H Q _ => ∃ (a : Addr) (rs : List Rw), vs = [.ref a] ∧ ProgAt K H a rs ∧ RsOk rs ∧ ∀ H', Same H H' → Q .non H'
theorem chkP_old {k : Nat} {x : Str} {ps : List Str} (C : Cal P w K mg base k x ps (dChkP K)) : Cal P w K mg base k x ps (spChkP K) := C.imp fun vs H Q E ⟨a, rs, e, hP, hR, q⟩ => ⟨rs, hR, by
  rw [e]
  exact .cons (prog_dp hP) .nil, fun v H' s dv => by
  cases dv
  exact q H' s⟩
end
end LB
namespace LB
open PySem L2
/-! The words that go, and that leave, as the program's tuples hold them. Own text. -/
abbrev GGo (K : PySem.W.Frag) (mg : Str → Option Value) (tG : Addr) : Prop := mg "GOES" = some (.ref tG) ∧ KTup K tG [.str "go", .str "if"]
abbrev GLv (K : PySem.W.Frag) (mg : Str → Option Value) (tL : Addr) : Prop := mg "LEAVES" = some (.ref tL) ∧ KTup K tL [.str "go", .str "if", .str "stop"]
end LB
namespace LB
open PySem L2
section
variable {P : Program} {w : World} {K : PySem.W.Frag} {mg : Str → Option Value} {base : Heap}
/-! ### the next beat's row and going -/
abbrev Go := Int × Int
def nog : Go := (-1, 0)
def pBehind (at_ : Int) (g : Go) : Int × Go := if g.2 = 1 then (g.1, nog) else if g.2 = 0 then (at_ + 1, nog) else (at_ + 1, (g.1, g.2 - 1))
/-- a pair of numbers stands at the value -/
def GoAt (K : PySem.W.Frag) (H : Hp) (v : V) (g : Go) : Prop := ∃ a, v = .ref a ∧ SqT K H a [.int g.1, .int g.2]
/-- (row, going) stands at the value -/
def PlAt (K : PySem.W.Frag) (H : Hp) (v : V) (x : Int × Go) : Prop := ∃ a u, v = .ref a ∧ SqT K H a [.int x.1, u] ∧ GoAt K H u x.2
theorem go_same {K : PySem.W.Frag} {H H' : Hp} {v : V} {g : Go} (s : Same H H') (h : GoAt K H v g) : GoAt K H' v g := by
  obtain ⟨a, e, q⟩ := h
  exact ⟨a, e, same_tup s q⟩
theorem pl_same {K : PySem.W.Frag} {H H' : Hp} {v : V} {x : Int × Go} (s : Same H H') (h : PlAt K H v x) : PlAt K H' v x := by
  obtain ⟨a, u, e, q, g⟩ := h
  exact ⟨a, u, e, same_tup s q, go_same s g⟩
abbrev GN (K : PySem.W.Frag) (mg : Str → Option Value) (tN : Addr) : Prop := mg "NO_GOING" = some (.ref tN) ∧ KTup K tN [.int (-1), .int 0]
def spPlB (K : PySem.W.Frag) : Sp := fun vs H Q _ => ∃ (at_ : Int) (u : V) (g : Go), vs = [.int at_, u] ∧ GoAt K H u g ∧ ∀ v H', Same H H' → PlAt K H' v (pBehind at_ g) → Q v H'
theorem scPlB : FnScope ["at", "going", "to", "left"] ["at", "going"] (defScope s_place_behind) := ⟨rfl, rfl, rfl, by decide +kernel, rfl, by decide +kernel, by decide +kernel⟩
theorem ok_plb {f tN : Addr} {fd : FuncData} (F : Fun K "place_behind" "place_behind" s_place_behind f fd) (GN' : GN K mg tN) : FnOk P w K mg base CX0 1 f fd ["at", "going"] (spPlB K) := by
  have gN := GN'.1
  refine F.ok scPlB (fun vs H Q E h => ?_) (fun cdv A outer s H vs Q E hr h => ?_)
  · obtain ⟨a, u, g, rfl, _⟩ := h
    rfl
  · obtain ⟨at_, u, ⟨to, left⟩, rfl, ⟨a, rfl, hT⟩, k⟩ := h
    refine ⟨_, (pss_cons (ps_asg (pv 1) (pg_tup rfl (pgs_cons (pg_name (i := 2) scPlB.nd rfl (Or.inl rfl)) (pgs_cons (pg_name (i := 3) scPlB.nd rfl (Or.inl rfl)) pgs_nil)))) (pss_cons (ps_if (pt_cmpR op_eq (pv 3) pe_int (nomark _)) (pss_one (ps_ret (pe_tup (pa_cons (pv 2) (pa_cons (pe_gref gN) pa_nil))))) pss_nil) (pss_cons (ps_if (pt_cmpR op_eq (pv 3) pe_int (nomark _)) (pss_one (ps_ret (pe_tup (pa_cons (pe_op op_add (pv 0) pe_int) (pa_cons (pe_gref gN) pa_nil))))) pss_nil) (pss_one (ps_ret (pe_tup (pa_cons (pe_op op_add (pv 0) pe_int) (pa_cons (pe_tup (pa_cons (pv 2) (pa_cons (pe_op op_sub (pv 3) pe_int) pa_nil))) pa_nil)))))))), ?_⟩
    refine ⟨_, rfl, a, _, rfl, hT, rfl, .int to, [.int left], rfl, .int left, [], rfl, rfl, ?_⟩
    unfold pBehind at k
    refine ⟨_, rfl, rfl, _, rfl, if_both (fun e => ?_) (fun e => ?_)⟩
    · have e' : left = 1 := by have := of_decide_eq_true e; injection this
      refine ⟨_, rfl, by show 2 ≤ sizeLine; decide, fun t ht => k _ _ (same_new ht _) ?_⟩
      rw [if_pos e']
      exact ⟨t, _, rfl, tup_of upd_same, tN, rfl, GN'.2.at_⟩
    · have e1 : ¬ left = 1 := fun z => of_decide_eq_false e (congrArg V.int z)
      refine ⟨_, rfl, rfl, _, rfl, if_both (fun e => ?_) (fun e => ?_)⟩
      · have e' : left = 0 := by have := of_decide_eq_true e; injection this
        refine ⟨_, rfl, _, _, rfl, rfl, by show 2 ≤ sizeLine; decide, fun t ht => k _ _ (same_new ht _) ?_⟩
        rw [if_neg e1, if_pos e']
        exact ⟨t, _, rfl, tup_of upd_same, tN, rfl, GN'.2.at_⟩
      · have e2 : ¬ left = 0 := fun z => of_decide_eq_false e (congrArg V.int z)
        refine ⟨_, rfl, _, _, rfl, rfl, _, rfl, _, rfl, _, _, rfl, rfl, by show 2 ≤ sizeLine; decide, fun t1 ht1 => ⟨by show 2 ≤ sizeLine; decide, fun t ht => k _ _ ((same_new ht1 _).trans (same_new ht _)) ?_⟩⟩
        rw [if_neg e1, if_neg e2]
        exact ⟨t, _, rfl, tup_of upd_same, t1, rfl, tup_of (same_new ht _ _ _ upd_same)⟩
end
end LB
namespace LB
open PySem L2
/-- a row that is no go and no stop; the row that a go or an if names -/
def Rw.on : Rw → Bool
  | .go _ => false | .stop => false | _ => true
def Rw.to : Rw → Option Int
  | .go q => some q | .iff _ q => some q | _ => none
def Rw.turns : Rw → Bool
  | .go _ => true | .iff _ _ => true | .stop => true | _ => false
theorem Rw.on_in (r : Rw) : (!inV (.str r.word) [.str "go", .str "stop"]) = r.on := by
  cases r with
  | put b n => show (!inV (.str "put") [.str "go", .str "stop"]) = true; decide +kernel
  | move b c => show (!inV (.str "move") [.str "go", .str "stop"]) = true; decide +kernel
  | add b c d => show (!inV (.str "add") [.str "go", .str "stop"]) = true; decide +kernel
  | take b c d => show (!inV (.str "take") [.str "go", .str "stop"]) = true; decide +kernel
  | times b c d => show (!inV (.str "times") [.str "go", .str "stop"]) = true; decide +kernel
  | get b c => show (!inV (.str "get") [.str "go", .str "stop"]) = true; decide +kernel
  | set c d => show (!inV (.str "set") [.str "go", .str "stop"]) = true; decide +kernel
  | say c => show (!inV (.str "say") [.str "go", .str "stop"]) = true; decide +kernel
  | rest => show (!inV (.str "rest") [.str "go", .str "stop"]) = true; decide +kernel
  | go q => show (!inV (.str "go") [.str "go", .str "stop"]) = false; decide +kernel
  | iff c q => show (!inV (.str "if") [.str "go", .str "stop"]) = true; decide +kernel
  | stop => show (!inV (.str "stop") [.str "go", .str "stop"]) = false; decide +kernel
theorem Rw.to_in (r : Rw) : inV (.str r.word) [.str "go", .str "if"] = r.to.isSome := by
  cases r with
  | put b n => show inV (.str "put") [.str "go", .str "if"] = false; decide +kernel
  | move b c => show inV (.str "move") [.str "go", .str "if"] = false; decide +kernel
  | add b c d => show inV (.str "add") [.str "go", .str "if"] = false; decide +kernel
  | take b c d => show inV (.str "take") [.str "go", .str "if"] = false; decide +kernel
  | times b c d => show inV (.str "times") [.str "go", .str "if"] = false; decide +kernel
  | get b c => show inV (.str "get") [.str "go", .str "if"] = false; decide +kernel
  | set c d => show inV (.str "set") [.str "go", .str "if"] = false; decide +kernel
  | say c => show inV (.str "say") [.str "go", .str "if"] = false; decide +kernel
  | rest => show inV (.str "rest") [.str "go", .str "if"] = false; decide +kernel
  | go q => show inV (.str "go") [.str "go", .str "if"] = true; decide +kernel
  | iff c q => show inV (.str "if") [.str "go", .str "if"] = true; decide +kernel
  | stop => show inV (.str "stop") [.str "go", .str "if"] = false; decide +kernel
theorem Rw.turns_in (r : Rw) : inV (.str r.word) [.str "go", .str "if", .str "stop"] = r.turns := by
  cases r with
  | put b n => show inV (.str "put") [.str "go", .str "if", .str "stop"] = false; decide +kernel
  | move b c => show inV (.str "move") [.str "go", .str "if", .str "stop"] = false; decide +kernel
  | add b c d => show inV (.str "add") [.str "go", .str "if", .str "stop"] = false; decide +kernel
  | take b c d => show inV (.str "take") [.str "go", .str "if", .str "stop"] = false; decide +kernel
  | times b c d => show inV (.str "times") [.str "go", .str "if", .str "stop"] = false; decide +kernel
  | get b c => show inV (.str "get") [.str "go", .str "if", .str "stop"] = false; decide +kernel
  | set c d => show inV (.str "set") [.str "go", .str "if", .str "stop"] = false; decide +kernel
  | say c => show inV (.str "say") [.str "go", .str "if", .str "stop"] = false; decide +kernel
  | rest => show inV (.str "rest") [.str "go", .str "if", .str "stop"] = false; decide +kernel
  | go q => show inV (.str "go") [.str "go", .str "if", .str "stop"] = true; decide +kernel
  | iff c q => show inV (.str "if") [.str "go", .str "if", .str "stop"] = true; decide +kernel
  | stop => show inV (.str "stop") [.str "go", .str "if", .str "stop"] = true; decide +kernel
theorem Rw.to_at {r : Rw} {q : Int} (h : r.to = some q) : atI r.vals (-1) = some (.int q) := by
  cases r <;> first | (cases h; rfl) | cases h
def jmp (ms : List Int) : Int := ms.getD 3 0
theorem jmp_at {ms : List Int} (h : MillOk ms) : atI (ms.map V.int) 3 = some (.int (jmp ms)) ∧ 0 ≤ jmp ms ∧ jmp ms ≤ 3 := by
  obtain ⟨p, g, t, j, rfl, _, _, _, hj⟩ := h
  exact ⟨rfl, hj⟩
abbrev Pl := Int × (Int × Go)
def placesOf (ms : List Int) (r : Rw) (at_ : Int) (g : Go) : List Pl := (if r.on = true then [((0 : Int), pBehind at_ g)] else [] : List Pl) ++ (match r.to with
  | some q => [((1 : Int), pBehind at_ (q, jmp ms + 1))]
  | none => [] : List Pl)
structure Sx where
  at_ : Int
  going : Go
  waits : List Int
def StAt (K : PySem.W.Frag) (H : Hp) (v : V) (s : Sx) : Prop := ∃ a u b, v = .ref a ∧ SqT K H a [.int s.at_, u, .ref b] ∧ GoAt K H u s.going ∧ SqT K H b (s.waits.map V.int)
theorem st_same {K : PySem.W.Frag} {H H' : Hp} {v : V} {s : Sx} (z : Same H H') (h : StAt K H v s) : StAt K H' v s := by
  obtain ⟨a, u, b, e, q, g, w⟩ := h
  exact ⟨a, u, b, e, same_tup z q, go_same z g, same_tup z w⟩
/-- (went, (row, going)) stands at the value -/
def EnAt (K : PySem.W.Frag) (H : Hp) (v : V) (x : Pl) : Prop := ∃ a u, v = .ref a ∧ SqT K H a [.int x.1, u] ∧ PlAt K H u x.2
inductive EnsAt (K : PySem.W.Frag) (H : Hp) : List V → List Pl → Prop
  | nil : EnsAt K H [] []
  | cons {v : V} {vs : List V} {x : Pl} {xs : List Pl} : EnAt K H v x → EnsAt K H vs xs → EnsAt K H (v :: vs) (x :: xs)
theorem en_same {K : PySem.W.Frag} {H H' : Hp} {v : V} {x : Pl} (s : Same H H') (h : EnAt K H v x) : EnAt K H' v x := by
  obtain ⟨a, u, e, q, g⟩ := h
  exact ⟨a, u, e, same_tup s q, pl_same s g⟩
theorem EnsAt.same {K : PySem.W.Frag} {H H' : Hp} {vs : List V} {xs : List Pl} (s : Same H H') (h : EnsAt K H vs xs) : EnsAt K H' vs xs := by
  induction h with
  | nil => exact .nil
  | cons e _ ih => exact .cons (en_same s e) ih
theorem EnsAt.snoc {K : PySem.W.Frag} {H : Hp} {vs : List V} {xs : List Pl} {v : V} {x : Pl} (h : EnsAt K H vs xs) (e : EnAt K H v x) : EnsAt K H (vs ++ [v]) (xs ++ [x]) := by
  induction h with
  | nil => exact .cons e .nil
  | cons e' _ ih => exact .cons e' ih
theorem EnsAt.get {K : PySem.W.Frag} {H : Hp} {vs : List V} {xs : List Pl} (h : EnsAt K H vs xs) : ∀ {i : Nat} {v : V}, vs[i]? = some v → ∃ x, xs[i]? = some x ∧ EnAt K H v x := by
  induction h with
  | nil => intro i v e; cases e
  | cons e _ ih =>
    intro i v q
    cases i with
    | zero => exact ⟨_, rfl, by rw [← Option.some.inj q]; exact e⟩
    | succ i => exact ih q
theorem EnsAt.len {K : PySem.W.Frag} {H : Hp} {vs : List V} {xs : List Pl} (h : EnsAt K H vs xs) : vs.length = xs.length := by
  induction h with
  | nil => rfl
  | cons _ _ ih => simp [ih]
/-- Same but for one new thing -/
theorem ens_over {K : PySem.W.Frag} {H : Hp} {D : Addr} {vs : List V} {xs : List Pl} {zs ys : List V} (h : EnsAt K H vs xs) (hD : H D = some (.lst zs)) : EnsAt K (upd H D (.lst ys)) vs xs := by
  have tk : TK H (upd H D (.lst ys)) := fun t o e z => by
    rw [upd_ne (fun q => ?_)]
    · exact e
    · rw [q, hD] at e
      cases e
      rcases z with ⟨_, z⟩ | ⟨_, _, z⟩ <;> cases z
  induction h with
  | nil => exact .nil
  | cons e _ ih =>
    obtain ⟨a, u, e1, q, b, u2, e2, q2, c, e3, q3⟩ := e
    exact .cons ⟨a, u, e1, tk_tup tk q, b, u2, e2, tk_tup tk q2, c, e3, tk_tup tk q3⟩ ih
section
variable {P : Program} {w : World} {K : PySem.W.Frag} {mg : Str → Option Value} {base : Heap}
def spPlaces (K : PySem.W.Frag) : Sp := fun vs H Q _ => ∃ (ap am : Addr) (v : V) (rs : List Rw) (ms : List Int) (s : Sx) (r : Rw), vs = [.ref ap, .ref am, v] ∧ ProgAt K H ap rs ∧ MillAt K H am ms ∧ MillOk ms ∧ StAt K H v s ∧ 0 ≤ s.at_ ∧ rs[s.at_.toNat]? = some r ∧
  ∀ (D : Addr) (xs : List V) (H' : Hp), Same H H' → H D = none → H' D = some (.lst xs) → EnsAt K H' xs (placesOf ms r s.at_ s.going) → Q (.ref D) H'
abbrev nsPlaces : List Str := ["program", "mill", "state", "at", "going", "_", "row", "places"]
theorem scPlaces : FnScope nsPlaces ["program", "mill", "state"] (defScope s_places_behind) := ⟨rfl, rfl, rfl, by decide +kernel, rfl, by decide +kernel, by decide +kernel⟩
theorem ok_places {f tG : Addr} {fd : FuncData} (F : Fun K "places_behind" "places_behind" s_places_behind f fd) (PB : Cal P w K mg base 1 "place_behind" ["at", "going"] (spPlB K)) (gJ : GJ mg) (gG : GGo K mg tG) : FnOk P w K mg base CX0 2 f fd ["program", "mill", "state"] (spPlaces K) := by
  refine F.ok scPlaces (fun vs H Q E h => ?_) (fun cdv A outer s H vs Q E hr h => ?_)
  · obtain ⟨ap, am, v, rs, ms, s, r, rfl, _⟩ := h
    rfl
  · obtain ⟨ap, am, v, rs, ms, s, r, rfl, ⟨vsP, hTP, hlP, hgP⟩, hM, hMo, ⟨a, u, b, rfl, hS, hG, hW⟩, h0, hr0, k⟩ := h
    refine ⟨_, (pss_cons (ps_asg (pv 2) (pg_tup rfl (pgs_cons (pg_name (i := 3) scPlaces.nd rfl (Or.inl rfl)) (pgs_cons (pg_name (i := 4) scPlaces.nd rfl (Or.inl rfl)) (pgs_cons (pg_name (i := 5) scPlaces.nd rfl (Or.inl rfl)) pgs_nil))))) (pss_cons (ps_set (i := 6) scPlaces.nd rfl (Or.inl rfl) (pe_ix ix_tup (pv 0) (pv 3) (fun _ _ => rfl))) (pss_cons (ps_set (i := 7) scPlaces.nd rfl (Or.inl rfl) (pe_lst pa_nil)) (pss_cons (ps_if (pt_cmpR op_notIn_seq (pe_ix ix_tup (pv 6) pe_int (fun _ _ => rfl)) (pe_tup (pa_cons pe_str (pa_cons pe_str pa_nil))) (by rfl)) (pss_one (ps_expr (pe_bm PySem.F.plainAttrs_list PySem.F.slot_list_append PySem.F.type_list_append mt_append (pv 7) (pa_cons (pe_tup (pa_cons pe_int (pa_cons (pe_cal PB hr (pa_cons (pv 3) (pa_cons (pv 4) pa_nil))) pa_nil))) pa_nil)))) pss_nil) (pss_cons (ps_if (pt_cmpR op_in_seq (pe_ix ix_tup (pv 6) pe_int (fun _ _ => rfl)) (pe_gref gG.1) (by rfl)) (pss_one (ps_expr (pe_bm PySem.F.plainAttrs_list PySem.F.slot_list_append PySem.F.type_list_append mt_append (pv 7) (pa_cons (pe_tup (pa_cons pe_int (pa_cons (pe_cal PB hr (pa_cons (pv 3) (pa_cons (pe_tup (pa_cons (pe_ix ix_tup (pv 6) (pe_un un_neg pe_int) (fun _ _ => rfl)) (pa_cons (pe_op op_add (pe_ix ix_tup (pv 1) (pe_gint gJ) (fun _ _ => rfl)) pe_int) pa_nil))) pa_nil))) pa_nil))) pa_nil)))) pss_nil) (pss_one (ps_ret (pv 7)))))))), ?_⟩
    refine ⟨_, rfl, a, _, rfl, hS, rfl, .int s.at_, [u, .ref b], rfl, u, [.ref b], rfl, .ref b, [], rfl, rfl, ?_⟩
    obtain ⟨v, hv, ra, rfl, hrT⟩ := hgP _ _ hr0
    refine ⟨_, rfl, _, rfl, ap, _, _, .ref ra, rfl, rfl, hTP, at_of (j := s.at_.toNat) (by omega) hv, by show 0 ≤ sizeLine; decide, fun D hD => ?_⟩
    have sD := same_new hD (.lst [])
    have w0 : atI r.vals 0 = some (.str r.word) := by rw [r.vals_eq]; exact atI_nat (j := 0) rfl
    obtain ⟨hj3, hj0, hj1⟩ := jmp_at hMo
    refine ⟨_, rfl, ra, _, _, _, rfl, rfl, same_tup sD hrT, w0, by show 2 ≤ sizeLine; decide, fun T hT => ⟨T, _, rfl, .inr (tup_of upd_same), rfl, rfl, _, rfl, ?_⟩⟩
    have sT := sD.trans (same_new hT (.tup [.str "go", .str "stop"]))
    have hDT := (same_new hT (.tup [.str "go", .str "stop"])) _ _ (upd_same (H := H) (a := D) (o := .lst []))
    refine ifs_cut (fun σ' H' => σ' = [some (.ref ap), some (.ref am), some (.ref a), some (.int s.at_), some u, some (.ref b), some (.ref ra), some (.ref D)] ∧ Same H H' ∧ ∃ xs, H' D = some (.lst xs) ∧ EnsAt K H' xs (if r.on = true then [((0 : Int), pBehind s.at_ s.going)] else [] : List Pl)) (fun e D' _ k' => ?_) (fun e D' _ k' => ?_) ?_
    · have e' : r.on = true := by rw [← r.on_in]; exact e
      rw [if_pos e'] at k'
      refine ⟨_, rfl, .inl ⟨rfl, _, SqL.of hDT⟩, _, rfl, _, rfl, s.at_, u, s.going, rfl, go_same sT hG, fun x H1 s1 p1 => ⟨by show 2 ≤ sizeLine; decide, fun t ht => ?_⟩⟩
      have s2 := s1.trans (same_new ht (.tup [.int 0, x]))
      have hD2 := s2 _ _ hDT
      refine ⟨D, _, _, rfl, rfl, hD2, by show 0 < sizeLine; decide, k' _ _ ⟨rfl, fun c o z => ?_, _, upd_same, ?_⟩⟩
      · rw [upd_ne (ne_of_none z hD)]
        exact (sT.trans s2) _ _ z
      · exact ens_over (.cons ⟨t, x, rfl, tup_of upd_same, pl_same (same_new ht _) p1⟩ .nil) hD2
    · have e' : ¬ r.on = true := by rw [← r.on_in]; intro z; rw [show (!inV (.str r.word) [.str "go", .str "stop"]) = false from e] at z; cases z
      rw [if_neg e'] at k'
      exact k' _ _ ⟨rfl, sT, _, hDT, .nil⟩
    rintro σ' H2 ⟨rfl, s2, xs, hD2, hE⟩
    refine ⟨_, rfl, ra, _, _, _, rfl, rfl, same_tup s2 hrT, w0, tG, _, rfl, .inr gG.2.at_, rfl, rfl, _, rfl, ?_⟩
    have sT2 := Same.refl H2
    have s3 := s2.trans sT2
    have hD3 := sT2 _ _ hD2
    have hE3 := hE.same sT2
    have ek := r.to_in
    cases hto : r.to with
    | none =>
      rw [hto] at ek
      refine if_f ek ⟨_, rfl, k D xs _ s3 hD hD3 ?_⟩
      unfold placesOf
      rw [hto, List.append_nil]
      exact hE3
    | some qq =>
      rw [hto] at ek
      refine if_t ek ?_
      refine ⟨_, rfl, .inl ⟨rfl, _, SqL.of hD3⟩, _, rfl, _, rfl, 1, rfl, ra, _, _, .int qq, rfl, rfl, same_tup s3 hrT, Rw.to_at hto, _, rfl, am, _, _, _, rfl, rfl, same_tup s3 hM, hj3, _, _, rfl, rfl, by show 2 ≤ sizeLine; decide, fun g hg => ?_⟩
      have sg := same_new hg (.tup [.int qq, .int (jmp ms + 1)])
      refine ⟨s.at_, .ref g, (qq, jmp ms + 1), rfl, ⟨g, rfl, tup_of upd_same⟩, fun x H4 s4 p4 => ⟨by show 2 ≤ sizeLine; decide, fun t ht => ?_⟩⟩
      have st := same_new ht (.tup [.int 1, x])
      have s5 := (sg.trans s4).trans st
      have hD5 := s5 _ _ hD3
      have hl : xs.length ≤ 1 := by
        rw [hE.len]
        split <;> simp
      refine ⟨D, _, _, rfl, rfl, hD5, small1000 (by omega), ⟨_, rfl, k D (xs ++ [.ref t]) _ (fun c o z => ?_) hD upd_same ?_⟩⟩
      · rw [upd_ne (ne_of_none z hD)]
        exact (s3.trans s5) _ _ z
      · unfold placesOf
        rw [hto]
        exact ens_over ((hE3.same s5).snoc ⟨t, x, rfl, tup_of upd_same, pl_same st p4⟩) hD5
end
end LB
namespace LB
open PySem L2
def less1 (z : Int) : Int := if z - 1 > 0 then z - 1 else 0
def waitsOf (ms : List Int) (r : Rw) (ws : List Int) : List Int := match r.box with
  | some b => (ws.map less1).set b.toNat (lateOf ms r)
  | none => ws.map less1
theorem Rw.box_ok {r : Rw} {many b : Int} (h : r.ok many) (e : r.box = some b) : Bx b := by
  cases r <;> first | (cases e; exact h.1) | cases e
theorem waitsOf_len {ms : List Int} {r : Rw} {ws : List Int} : (waitsOf ms r ws).length = ws.length := by
  unfold waitsOf
  cases r.box <;> simp
section
variable {P : Program} {w : World} {K : PySem.W.Frag} {mg : Str → Option Value} {base : Heap}
def spWaits (K : PySem.W.Frag) : Sp := fun vs H Q _ => ∃ (v : V) (r : Rw) (am b : Addr) (ms ws : List Int) (many : Int), vs = [v, .ref am, .ref b] ∧ RowAt K H v r ∧ r.ok many ∧ MillAt K H am ms ∧ MillOk ms ∧ SqT K H b (ws.map V.int) ∧ ws.length = 8 ∧
  ∀ t H', Same H H' → SqT K H' t ((waitsOf ms r ws).map V.int) → Q (.ref t) H'
abbrev nsWaits : List Str := ["row", "mill", "waits", "left", "box", "wait"]
theorem scWaits : FnScope nsWaits ["row", "mill", "waits"] (defScope s_waits_behind) := ⟨rfl, rfl, rfl, by decide +kernel, rfl, by decide +kernel, by decide +kernel⟩
theorem ok_waits {f : Addr} {fd : FuncData} (F : Fun K "waits_behind" "waits_behind" s_waits_behind f fd) (MD : Cal P w K mg base 1 "made_in" ["row"] (spMade K)) (LT : Cal P w K mg base 1 "lateness" ["row", "mill"] (spLate K)) (B : Bl2 mg) : FnOk P w K mg base CX0 2 f fd ["row", "mill", "waits"] (spWaits K) := by
  refine F.ok scWaits (fun vs H Q E h => ?_) (fun cdv A outer s H vs Q E hr h => ?_)
  · obtain ⟨v, r, am, b, ms, ws, many, rfl, _⟩ := h
    rfl
  · obtain ⟨v, r, am, b, ms, ws, many, rfl, ⟨ra, rfl, hrT⟩, hok, hM, hMo, hW, hw8, k⟩ := h
    refine ⟨_, (pss_cons (ps_setLc (i := 3) (own := [("wait", 5)]) (g := gName 5) (by rfl) scWaits.nd rfl rfl (sw_true rfl rfl rfl (by decide +kernel)) (pi_tup (pv 2)) (blkOk_by (own := [("wait", 5)]) (N := nsWaits) (sc := defScope s_waits_behind) (by decide +kernel)) (fun _ _ _ _ _ => (pg_name (i := 5) scWaits.nd rfl (Or.inl rfl))) (fun _ _ _ _ _ => pts_nil) (fun _ _ _ _ _ => (pe_callB (call_max2 rfl) (by rfl) B.b.max (by decide +kernel) (pa_cons pe_int (pa_cons (pe_op op_sub (pv 5) pe_int) pa_nil))))) (pss_cons (ps_set (i := 4) scWaits.nd rfl (Or.inl rfl) (pe_cal MD hr (pa_cons (pv 0) pa_nil))) (pss_cons (ps_if (pt_cmpR op_notN (pv 4) pe_non (nomark _)) (pss_one (ps_asg (pe_cal LT hr (pa_cons (pv 0) (pa_cons (pv 1) pa_nil))) (pg_sub (pv 3) (pv 4) set_list))) pss_nil) (pss_one (ps_ret (pe_callTy call_tuple_of (by rfl) B.b.tuple (by decide +kernel) (pa_cons (pv 3) pa_nil))))))), ?_⟩
    refine ⟨_, rfl, b, rfl, ⟨_, hW⟩, fun D hD => ?_⟩
    refine lc_tup (K := K) (xs := ws.map V.int) (fun i H' => Same H H' ∧ H' D = some (.lst (((ws.take i).map less1).map V.int))) ⟨same_new hD _, upd_same⟩ (fun i H' _ h => same_tup h.1 hW) ?_ ?_
    · rintro i x H1 hx ⟨s1, hD1⟩
      obtain ⟨z, hz, rfl⟩ := map_get hx
      refine ⟨rfl, yes_if ?_⟩
      refine ⟨_, rfl, _, _, rfl, rfl, _, _, rfl, _, hD1, ?_, ?_, ?_⟩
      · rw [List.length_map, List.length_map, List.length_take]
        have := Nat.min_le_right i ws.length
        exact small1000 (by omega)
      · exact fun c o zz => by
          rw [upd_ne (ne_of_none zz hD)]
          exact s1 _ _ zz
      · rw [upd_same, List.take_add_one, hz, List.map_append, List.map_append]
        rfl
    · rintro H1 ⟨s1, hD1⟩
      rw [List.length_map, List.take_length] at hD1
      refine ⟨_, rfl, .ref ra, r, rfl, ⟨ra, rfl, same_tup s1 hrT⟩, ?_⟩
      have fin : ∀ (H2 : Hp), Same H H2 → H2 D = some (.lst ((waitsOf ms r ws).map V.int)) → ∃ p ys, [V.ref D] = [.ref p] ∧ ((SqL K H2 p ys ∧ ∀ l, H2 l = none → Q (.ref l) (upd H2 l (.tup ys))) ∨ (SqT K H2 p ys ∧ Q (.ref p) H2)) := fun H2 s2 h2 => ⟨D, _, rfl, .inl ⟨SqL.of h2, fun l hl => k l _ (s2.trans (same_new hl _)) (tup_of upd_same)⟩⟩
      refine ⟨_, rfl, rfl, _, rfl, ?_⟩
      cases hb : r.box with
      | none =>
        refine if_f (by rfl) ?_
        refine ⟨_, rfl, fin H1 s1 ?_⟩
        unfold waitsOf
        rw [hb]
        exact hD1
      | some bb =>
        have hx : r.lix.isSome = true := by rw [← r.box_lix, hb]; rfl
        have hbx := Rw.box_ok hok hb
        refine if_t (by show (!decide (V.int bb = V.non)) = true; rw [decide_eq_false (by intro z; cases z)]; rfl) ?_
        refine ⟨_, rfl, _, rfl, .ref ra, r, am, ms, rfl, ⟨ra, rfl, same_tup s1 hrT⟩, same_tup s1 hM, hMo, _, rfl, _, rfl, D, _, bb, bb.toNat, rfl, rfl, hD1, ?_, ?_⟩
        · unfold ixN
          have h0 : 0 ≤ bb := hbx.1
          have h1 : bb < 8 := hbx.2
          rw [List.length_map, List.length_map, hw8, if_pos h0, if_pos (by omega)]
        · rw [set_ints]
          refine ⟨_, rfl, fin _ (fun c o zz => ?_) ?_⟩
          · rw [upd_ne (ne_of_none zz hD)]
            exact s1 _ _ zz
          · unfold waitsOf
            rw [hb]
            exact upd_same
/-! ### a row in the way of a going -/
theorem seqcut {t u : TS} {D : Ends} {σ : L2.St} {H : Hp} (G : L2.St → Hp → Prop) (h : ∀ D' : Ends, D'.rt = D.rt → (∀ σ' H', G σ' H' → D'.nx σ' H') → t D' σ H) (k : ∀ σ' H', G σ' H' → u D σ' H') : ({ D with nx := tSeq t u D } : Ends).nx σ H := h _ rfl k
theorem eqv_pair (a b c d : Int) : PyData.eqv (.tuple [.int a, .int b]) (.tuple [.int c, .int d]) = decide ((a, b) = (c, d)) := by
  show ((a == c) && ((b == d) && true)) = decide ((a, b) = (c, d))
  by_cases h1 : a = c <;> by_cases h2 : b = d <;> simp [h1, h2]
theorem shaped_pair (a b : Int) : SeqAt.shaped (.tuple [.int a, .int b]) = true := rfl
theorem dp_go {K : PySem.W.Frag} {H : Hp} {v : V} {g : Go} (h : GoAt K H v g) : Dp K H v (.tuple [.int g.1, .int g.2]) := by
  obtain ⟨a, rfl, q⟩ := h
  exact .tup q (.cons (.int _) (.cons (.int _) .nil))
def badPl (many : Int) (p : Pl) : Bool := decide (p.2.1 = many) && !decide (p.2.2 = nog)
def jbad (many : Int) (ms : List Int) (r : Rw) (at_ : Int) (g : Go) : Bool := (!decide (g = nog) && r.turns) || (placesOf ms r at_ g).any (badPl many)
def spJB (K : PySem.W.Frag) : Sp := fun vs H Q _ => ∃ (ap am : Addr) (v : V) (rs : List Rw) (ms : List Int) (s : Sx) (r : Rw), vs = [.ref ap, .ref am, v] ∧ ProgAt K H ap rs ∧ MillAt K H am ms ∧ MillOk ms ∧ StAt K H v s ∧ 0 ≤ s.at_ ∧ rs[s.at_.toNat]? = some r ∧
  ∀ H', Same H H' → Q (.bl (jbad rs.length ms r s.at_ s.going)) H'
abbrev nsJB : List Str := ["program", "mill", "state", "at", "going", "_", "to", "under_way"]
theorem scJB : FnScope nsJB ["program", "mill", "state"] (defScope s_jumps_badly) := ⟨rfl, rfl, rfl, by decide +kernel, rfl, by decide +kernel, by decide +kernel⟩
theorem ok_jb {f tN tL : Addr} {fd : FuncData} (F : Fun K "jumps_badly" "jumps_badly" s_jumps_badly f fd) (PL : Cal P w K mg base 2 "places_behind" ["program", "mill", "state"] (spPlaces K)) (B : Bl2 mg) (GN' : GN K mg tN) (gL : GLv K mg tL) : FnOk P w K mg base CX0 3 f fd ["program", "mill", "state"] (spJB K) := by
  have gN := GN'.1
  refine F.ok scJB (fun vs H Q E h => ?_) (fun cdv A outer s H vs Q E hr h => ?_)
  · obtain ⟨ap, am, v, rs, ms, s, r, rfl, _⟩ := h
    rfl
  · obtain ⟨ap, am, v, rs, ms, s, r, rfl, hP, hM, hMo, hSt, h0, hr0, k⟩ := h
    obtain ⟨vsP, hTP, hlP, hgP⟩ := id hP
    obtain ⟨a, u, b, rfl, hS, hG, hW⟩ := id hSt
    have dN : ∀ H', Dp K H' (.ref tN) (.tuple [.int (-1), .int 0]) := fun H' => .tup GN'.2.at_ (.cons (.int _) (.cons (.int _) .nil))
    refine ⟨_, (pss_cons (ps_asg (pv 2) (pg_tup rfl (pgs_cons (pg_name (i := 3) scJB.nd rfl (Or.inl rfl)) (pgs_cons (pg_name (i := 4) scJB.nd rfl (Or.inl rfl)) (pgs_cons (pg_name (i := 5) scJB.nd rfl (Or.inl rfl)) pgs_nil))))) (pss_cons (ps_if (PW.pt (pw_and (pt_cmpR (op_neD hr.units) (pv 4) (pe_gref gN) (nomark _)) (pw_and1 (pt_cmpR op_in_seq (pe_ix ix_tup (pe_ix ix_tup (pv 0) (pv 3) (fun _ _ => rfl)) pe_int (fun _ _ => rfl)) (pe_gref gL.1) (by rfl))))) (pss_one (ps_ret pe_bl)) pss_nil) (pss_cons (ps_for PassesOwn.never rfl (pi_list (pe_cal PL hr (pa_cons (pv 0) (pa_cons (pv 1) (pa_cons (pv 2) pa_nil))))) (pg_tup rfl (pgs_cons (pg_name (i := 5) scJB.nd rfl (Or.inl rfl)) (pgs_cons (pg_tup rfl (pgs_cons (pg_name (i := 6) scJB.nd rfl (Or.inl rfl)) (pgs_cons (pg_name (i := 7) scJB.nd rfl (Or.inl rfl)) pgs_nil))) pgs_nil))) (pss_one (ps_if (PW.pt (pw_and (pt_cmpR op_eq (pv 6) (pe_callB call_len_seq (by rfl) B.b.len PySem.boot_len (pa_cons (pv 0) pa_nil)) (nomark _)) (pw_and1 (pt_cmpR (op_neD hr.units) (pv 7) (pe_gref gN) (nomark _))))) (pss_one (ps_ret pe_bl)) pss_nil))) (pss_one (ps_ret pe_bl))))), ?_⟩
    refine ⟨_, rfl, a, _, rfl, hS, rfl, .int s.at_, [u, .ref b], rfl, u, [.ref b], rfl, .ref b, [], rfl, rfl, ?_⟩
    obtain ⟨v, hv, ra, rfl, hrT⟩ := hgP _ _ hr0
    have w0 : atI r.vals 0 = some (.str r.word) := by rw [r.vals_eq]; exact atI_nat (j := 0) rfl
    have neq : ∀ g : Go, (!PyData.eqv (.tuple [.int g.1, .int g.2]) (.tuple [.int (-1), .int 0])) = !decide (g = nog) := fun g => by rw [eqv_pair]; rfl
    have ne1 := neq s.going
    unfold jbad at k
    refine seqcut (fun σ' H' => σ' = [some (.ref ap), some (.ref am), some (.ref a), some (.int s.at_), some u, some (.ref b), none, none] ∧ Same H H' ∧ (!decide (s.going = nog) && r.turns) = false) (fun D' hrt kD => ?_) ?_
    · refine ⟨_, rfl, _, _, dp_go hG, dN _, shaped_pair _ _, rfl, _, rfl, ?_⟩
      rw [ne1]
      refine if_both (fun e => ?_) (fun e => ?_)
      · refine ⟨_, rfl, _, rfl, ap, _, _, .ref ra, rfl, rfl, hTP, at_of (j := s.at_.toNat) (by omega) hv, ra, _, _, _, rfl, rfl, hrT, w0, tL, _, rfl, .inr gL.2.at_, rfl, rfl, _, rfl, ?_⟩
        have sT := Same.refl H
        have ek := r.turns_in
        refine if_both (fun e2 => ?_) (fun e2 => ?_)
        · have e3 : r.turns = true := by rw [← ek]; exact e2
          have q := k _ sT
          rw [e, e3] at q
          show D'.rt (V.bl true) _
          rw [hrt]
          exact q
        · have e3 : r.turns = false := by rw [← ek]; exact e2
          exact kD _ _ ⟨rfl, sT, by rw [e3]; cases (!decide (s.going = nog)) <;> rfl⟩
      · exact if_f (b := false) rfl (kD _ _ ⟨rfl, fun _ _ z => z, by rw [e]; rfl⟩)
    rintro σ' H2 ⟨rfl, s2, hfirst⟩
    rw [hfirst, Bool.false_or] at k
    refine ⟨_, rfl, _, rfl, _, rfl, ap, am, .ref a, rs, ms, s, r, rfl, same_prog s2 hP, same_tup s2 hM, hMo, st_same s2 hSt, h0, hr0, fun D xs H3 s3 hD hDx hE => ?_⟩
    have s23 := s2.trans s3
    refine ⟨D, rfl, ⟨_, SqL.of hDx⟩, for_list (K := K) (a := D) (xs := xs) (fun j σ' H' => ∃ v5 v6 v7, σ' = [some (.ref ap), some (.ref am), some (.ref a), some (.int s.at_), some u, v5, v6, v7] ∧ H' = H3 ∧ ((placesOf ms r s.at_ s.going).take j).any (badPl rs.length) = false)
      ⟨_, _, _, rfl, rfl, rfl⟩ (fun j σ' H' _ ⟨_, _, _, _, e, _⟩ => by rw [e]; exact SqL.of hDx) ?_ ?_⟩
    · rintro j x σ' H' hx ⟨v5, v6, v7, rfl, rfl, hb⟩
      obtain ⟨y, hy, aE, uE, rfl, qE, b2, u2, rfl, q2, hg2⟩ := hE.get hx
      refine ⟨aE, _, rfl, qE, rfl, .int y.1, [.ref b2], rfl, .ref b2, [], rfl, b2, _, rfl, q2, rfl, .int y.2.1, [u2], rfl, u2, [], rfl, rfl, rfl, ?_⟩
      have any1 : ((placesOf ms r s.at_ s.going).take (j + 1)).any (badPl rs.length) = badPl rs.length y := by
        rw [List.take_add_one, hy, List.any_append, hb]
        show (false || (badPl rs.length y || false)) = _
        rw [Bool.false_or, Bool.or_false]
      have anyT : badPl rs.length y = true → (placesOf ms r s.at_ s.going).any (badPl rs.length) = true := fun z => List.any_eq_true.mpr ⟨y, List.mem_of_getElem? hy, z⟩
      have e1 : decide (V.int y.2.1 = V.int (vsP.length : Int)) = decide (y.2.1 = (rs.length : Int)) := by
        rw [hlP]
        by_cases z : y.2.1 = (rs.length : Int)
        · rw [decide_eq_true z, decide_eq_true (congrArg V.int z)]
        · rw [decide_eq_false z, decide_eq_false fun q => z (V.int.inj q)]
      refine ⟨_, rfl, _, rfl, ap, _, rfl, .inr (same_tup s23 hTP), rfl, _, rfl, ?_⟩
      rw [e1]
      refine if_both (fun e => ?_) (fun e => ?_)
      · refine ⟨_, rfl, _, _, dp_go hg2, dN _, shaped_pair _ _, rfl, _, rfl, ?_⟩
        rw [neq]
        refine if_both (fun e2 => ?_) (fun e2 => ?_)
        · have q := k _ s23
          rw [anyT (by unfold badPl; rw [e, e2]; rfl)] at q
          exact q
        · exact ⟨_, _, _, rfl, rfl, by rw [any1]; unfold badPl; rw [e2, Bool.and_false]⟩
      · exact if_f (b := false) rfl ⟨_, _, _, rfl, rfl, by rw [any1]; unfold badPl; rw [e]; rfl⟩
    · rintro σ' H' ⟨v5, v6, v7, rfl, rfl, hb⟩
      have q := k _ s23
      rw [hE.len, List.take_length] at hb
      rw [hb] at q
      exact q
end
end LB
namespace LB
open PySem L2
theorem Rw.looks_ok {r : Rw} {many : Int} (h : r.ok many) : ∀ b ∈ r.looks, Bx b := by
  intro b hb
  cases r with
  | put b n => cases hb
  | move b c =>
    simp [Rw.looks] at hb
    rw [hb]; exact h.2
  | add b c d =>
    simp [Rw.looks] at hb
    rcases hb with e | e <;> rw [e]
    · exact h.2.1
    · exact h.2.2
  | take b c d =>
    simp [Rw.looks] at hb
    rcases hb with e | e <;> rw [e]
    · exact h.2.1
    · exact h.2.2
  | times b c d =>
    simp [Rw.looks] at hb
    rcases hb with e | e <;> rw [e]
    · exact h.2.1
    · exact h.2.2
  | get b c =>
    simp [Rw.looks] at hb
    rw [hb]; exact h.2
  | set c d =>
    simp [Rw.looks] at hb
    rcases hb with e | e <;> rw [e]
    · exact h.1
    · exact h.2
  | say c =>
    simp [Rw.looks] at hb
    rw [hb]; exact h
  | rest => cases hb
  | go q => cases hb
  | iff c q =>
    simp [Rw.looks] at hb
    rw [hb]; exact h.1
  | stop => cases hb
theorem Rw.looks_len (r : Rw) : r.looks.length ≤ 2 := by cases r <;> simp [Rw.looks]
abbrev Br := Option (Str × Int)
def overAt (ms : List Int) (r : Rw) (ws : List Int) : Option Int := match r.box with
  | some b => if (lateOf ms r : Int) + 1 ≤ ws.getD b.toNat 0 then some b else none
  | none => none
def earlyB (ws : List Int) (b : Int) : Bool := decide (0 < ws.getD b.toNat 0)
def brOf (many : Int) (ms : List Int) (r : Rw) (s : Sx) : Br := match r.looks.find? (earlyB s.waits) with
  | some b => some ("early", b)
  | none => match overAt ms r s.waits with
    | some b => some ("over", b)
    | none => if jbad many ms r s.at_ s.going = true then some ("jump", -1) else none
def BrAt (K : PySem.W.Frag) (H : Hp) (v : V) : Br → Prop
  | none => v = .non
  | some x => ∃ a, v = .ref a ∧ SqT K H a [.str x.1, .int x.2]
theorem br_same {K : PySem.W.Frag} {H H' : Hp} {v : V} {x : Br} (s : Same H H') (h : BrAt K H v x) : BrAt K H' v x := by
  cases x with
  | none => exact h
  | some x =>
    obtain ⟨a, e, q⟩ := h
    exact ⟨a, e, same_tup s q⟩
theorem find_take_none {α : Type} {p : α → Bool} {xs : List α} {i : Nat} {x : α} (hx : xs[i]? = some x) (h : (xs.take i).find? p = none) (hp : p x = false) : (xs.take (i + 1)).find? p = none := by
  rw [List.take_add_one, hx, List.find?_append, h]
  simp [hp]
theorem find_take_some {α : Type} {p : α → Bool} {xs : List α} {i : Nat} {x : α} (hx : xs[i]? = some x) (h : (xs.take i).find? p = none) (hp : p x = true) : xs.find? p = some x := by
  have e : xs = xs.take i ++ x :: xs.drop (i + 1) := by
    have h1 := (List.getElem?_eq_some_iff.mp hx)
    obtain ⟨hlt, hv⟩ := h1
    rw [← hv, ← List.drop_eq_getElem_cons hlt, List.take_append_drop]
  rw [e, List.find?_append, h]
  simp [hp]
theorem wait_at {ws : List Int} {b : Int} (h : Bx b) (hl : ws.length = 8) : atI (ws.map V.int) b = some (.int (ws.getD b.toNat 0)) := by
  have h0 : 0 ≤ b := h.1
  have h1 : b < 8 := h.2
  have hlt : b.toNat < ws.length := by omega
  refine at_of (j := b.toNat) (by omega) ?_
  rw [List.getElem?_map, List.getElem?_eq_getElem hlt, List.getD_eq_getElem?_getD, List.getElem?_eq_getElem hlt]
  rfl
section
variable {P : Program} {w : World} {K : PySem.W.Frag} {mg : Str → Option Value} {base : Heap}
def spBroken (K : PySem.W.Frag) : Sp := fun vs H Q _ => ∃ (ap am : Addr) (v : V) (rs : List Rw) (ms : List Int) (s : Sx) (r : Rw), vs = [.ref ap, .ref am, v] ∧ ProgAt K H ap rs ∧ MillAt K H am ms ∧ MillOk ms ∧ StAt K H v s ∧ 0 ≤ s.at_ ∧ rs[s.at_.toNat]? = some r ∧ r.ok rs.length ∧ s.waits.length = 8 ∧
  ∀ v H', Same H H' → BrAt K H' v (brOf rs.length ms r s) → Q v H'
abbrev nsBr : List Str := ["program", "mill", "state", "at", "_", "waits", "row", "box"]
theorem scBr : FnScope nsBr ["program", "mill", "state"] (defScope s_broken) := ⟨rfl, rfl, rfl, by decide +kernel, rfl, by decide +kernel, by decide +kernel⟩
theorem ok_broken {f : Addr} {fd : FuncData} (F : Fun K "broken" "broken" s_broken f fd) (LK : Cal P w K mg base 1 "looked_at" ["row"] (spLooked K)) (MD : Cal P w K mg base 1 "made_in" ["row"] (spMade K)) (LT : Cal P w K mg base 1 "lateness" ["row", "mill"] (spLate K)) (JB : Cal P w K mg base 3 "jumps_badly" ["program", "mill", "state"] (spJB K)) : FnOk P w K mg base CX0 4 f fd ["program", "mill", "state"] (spBroken K) := by
  refine F.ok scBr (fun vs H Q E h => ?_) (fun cdv A outer s H vs Q E hr h => ?_)
  · obtain ⟨ap, am, v, rs, ms, s, r, rfl, _⟩ := h
    rfl
  · obtain ⟨ap, am, v, rs, ms, s, r, rfl, hP, hM, hMo, hSt, h0, hr0, hrok, hw8, k⟩ := h
    obtain ⟨vsP, hTP, hlP, hgP⟩ := id hP
    obtain ⟨a, u, b, rfl, hS, hG, hW⟩ := id hSt
    refine ⟨_, (pss_cons (ps_asg (pv 2) (pg_tup rfl (pgs_cons (pg_name (i := 3) scBr.nd rfl (Or.inl rfl)) (pgs_cons (pg_name (i := 4) scBr.nd rfl (Or.inl rfl)) (pgs_cons (pg_name (i := 5) scBr.nd rfl (Or.inl rfl)) pgs_nil))))) (pss_cons (ps_set (i := 6) scBr.nd rfl (Or.inl rfl) (pe_ix ix_tup (pv 0) (pv 3) (fun _ _ => rfl))) (pss_cons (ps_for PassesOwn.never rfl (pi_list (pe_cal LK (hr.mono (by decide)) (pa_cons (pv 6) pa_nil))) (pg_name (i := 7) scBr.nd rfl (Or.inl rfl)) (pss_one (ps_if (pt_cmpR op_gt (pe_ix ix_tup (pv 5) (pv 7) (fun _ _ => rfl)) pe_int (nomark _)) (pss_one (ps_ret (pe_tup (pa_cons pe_str (pa_cons (pv 7) pa_nil))))) pss_nil))) (pss_cons (ps_set (i := 7) scBr.nd rfl (Or.inl rfl) (pe_cal MD (hr.mono (by decide)) (pa_cons (pv 6) pa_nil))) (pss_cons (ps_if (PW.pt (pw_and (pt_cmpR op_notN (pv 7) pe_non (nomark _)) (pw_and1 (pt_cmpR op_le (pe_op op_add (pe_cal LT (hr.mono (by decide)) (pa_cons (pv 6) (pa_cons (pv 1) pa_nil))) pe_int) (pe_ix ix_tup (pv 5) (pv 7) (fun _ _ => rfl)) (nomark _))))) (pss_one (ps_ret (pe_tup (pa_cons pe_str (pa_cons (pv 7) pa_nil))))) pss_nil) (pss_cons (ps_if (pt_val (pe_cal JB hr (pa_cons (pv 0) (pa_cons (pv 1) (pa_cons (pv 2) pa_nil))))) (pss_one (ps_ret (pe_tup (pa_cons pe_str (pa_cons (pe_un un_neg pe_int) pa_nil))))) pss_nil) (pss_one (ps_ret pe_non)))))))), ?_⟩
    refine ⟨_, rfl, a, _, rfl, hS, rfl, .int s.at_, [u, .ref b], rfl, u, [.ref b], rfl, .ref b, [], rfl, rfl, ?_⟩
    obtain ⟨v, hv, ra, rfl, hrT⟩ := hgP _ _ hr0
    refine ⟨_, rfl, _, rfl, ap, _, _, .ref ra, rfl, rfl, hTP, at_of (j := s.at_.toNat) (by omega) hv, ?_⟩
    refine ⟨_, rfl, .ref ra, r, rfl, ⟨ra, rfl, hrT⟩, fun D H1 nD s1 hD => ?_⟩
    have kB : ∀ x H', brOf rs.length ms r s = x → Same H H' → ∀ w, BrAt K H' w x → Q w H' := fun x H' e sm w hw => k w H' sm (by rw [e]; exact hw)
    refine ⟨D, rfl, ⟨_, SqL.of hD⟩, for_list (K := K) (a := D) (xs := r.looks.map V.int) (fun j σ' H' => ∃ v7, σ' = [some (.ref ap), some (.ref am), some (.ref a), some (.int s.at_), some u, some (.ref b), some (.ref ra), v7] ∧ H' = H1 ∧ (r.looks.take j).find? (earlyB s.waits) = none)
      ⟨_, rfl, rfl, rfl⟩ (fun j σ' H' _ ⟨_, _, e, _⟩ => by rw [e]; exact SqL.of hD) ?_ ?_⟩
    · rintro j x σ' H' hx ⟨v7, rfl, rfl, hb⟩
      obtain ⟨z, hz, rfl⟩ := map_get hx
      have hbx := Rw.looks_ok hrok z (List.mem_of_getElem? hz)
      refine ⟨_, rfl, _, rfl, b, _, _, _, rfl, rfl, same_tup s1 hW, wait_at hbx hw8, _, _, rfl, rfl, _, rfl, if_both (fun e => ?_) (fun e => ?_)⟩
      · have ef := find_take_some hz hb (show earlyB s.waits z = true from e)
        refine ⟨_, rfl, by show 2 ≤ sizeLine; decide, fun t ht => kB (some ("early", z)) _ (by unfold brOf; rw [ef]) (s1.trans (same_new ht _)) _ ⟨t, rfl, tup_of upd_same⟩⟩
      · exact ⟨_, rfl, rfl, find_take_none hz hb (show earlyB s.waits z = false from e)⟩
    rintro σ' H' ⟨v7, rfl, rfl, hb⟩
    rw [List.length_map, List.take_length] at hb
    have kO : ∀ x, (match overAt ms r s.waits with
      | some b => some ("over", b)
      | none => if jbad rs.length ms r s.at_ s.going = true then some ("jump", -1) else none) = x → brOf rs.length ms r s = x := fun x e => by unfold brOf; rw [hb]; exact e
    refine ⟨_, rfl, .ref ra, r, rfl, ⟨ra, rfl, same_tup s1 hrT⟩, ?_⟩
    refine seqcut (fun σ2 H2 => H2 = H' ∧ overAt ms r s.waits = none ∧ ∃ v8, σ2 = [some (.ref ap), some (.ref am), some (.ref a), some (.int s.at_), some u, some (.ref b), some (.ref ra), v8]) (fun D' hrt kD => ?_) ?_
    · refine ⟨_, rfl, rfl, _, rfl, ?_⟩
      cases hbo : r.box with
      | none =>
        refine if_f (by rfl) (if_f (b := false) rfl (kD _ _ ⟨rfl, ?_, _, rfl⟩))
        unfold overAt
        rw [hbo]
      | some bb =>
        have hx : r.lix.isSome = true := by rw [← r.box_lix, hbo]; rfl
        have hbx := Rw.box_ok hrok hbo
        refine if_t (by show (!decide (V.int bb = V.non)) = true; rw [decide_eq_false (by intro z; cases z)]; rfl) ?_
        refine ⟨_, rfl, _, rfl, .ref ra, r, am, ms, rfl, ⟨ra, rfl, same_tup s1 hrT⟩, same_tup s1 hM, hMo, _, _, rfl, rfl, _, rfl, _, rfl, b, _, _, _, rfl, rfl, same_tup s1 hW, wait_at hbx hw8, _, _, rfl, rfl, _, rfl, if_both (fun e => ?_) (fun e => ?_)⟩
        · have eo : overAt ms r s.waits = some bb := by
            unfold overAt
            rw [hbo]
            exact if_pos (of_decide_eq_true e)
          refine ⟨_, rfl, by show 2 ≤ sizeLine; decide, fun t ht => ?_⟩
          rw [hrt]
          exact kB (some ("over", bb)) _ (kO _ (by rw [eo])) (s1.trans (same_new ht _)) _ ⟨t, rfl, tup_of upd_same⟩
        · refine kD _ _ ⟨rfl, ?_, _, rfl⟩
          unfold overAt
          rw [hbo]
          exact if_neg (of_decide_eq_false e)
    rintro σ2 H2 ⟨rfl, eo, v8, rfl⟩
    refine ⟨_, rfl, _, rfl, _, rfl, ap, am, .ref a, rs, ms, s, r, rfl, same_prog s1 hP, same_tup s1 hM, hMo, st_same s1 hSt, h0, hr0, fun H3 s3 => ⟨_, rfl, if_both (fun e => ?_) (fun e => ?_)⟩⟩
    · refine ⟨_, rfl, by show 2 ≤ sizeLine; decide, fun t ht => kB (some ("jump", -1)) _ (kO _ (by rw [eo]; exact if_pos e)) ((s1.trans s3).trans (same_new ht _)) _ ⟨t, rfl, tup_of upd_same⟩⟩
    · exact kB none _ (kO _ (by rw [eo]; show (if jbad rs.length ms r s.at_ s.going = true then _ else _) = _; rw [e]; rfl)) (s1.trans s3) _ rfl
end
end LB
namespace LB
open PySem PySem.Spec PyProof.Rows L2
/-! ### the states that were met -/
def keyOf (s : Sx) : NestedKey := .tup [.num s.at_, .tup [.num s.going.1, .num s.going.2], .tup (s.waits.map .num)]
theorem nums_inj : ∀ {a b : List Int}, a.map NestedKey.num = b.map NestedKey.num → a = b
  | [], [], _ => rfl
  | [], _ :: _, h => by cases h
  | _ :: _, [], h => by cases h
  | x :: a, y :: b, h => by
    injection h with h1 h2
    injection h1 with h1
    rw [h1, nums_inj h2]
theorem keyOf_inj {s t : Sx} (h : keyOf s = keyOf t) : s = t := by
  obtain ⟨a, ⟨g, l⟩, w⟩ := s
  obtain ⟨a', ⟨g', l'⟩, w'⟩ := t
  unfold keyOf at h
  injection h with h
  injection h with h1 h
  injection h with h2 h
  injection h with h3 _
  injection h1 with h1
  injection h2 with h2
  injection h2 with h4 h2
  injection h2 with h5 _
  injection h4 with h4
  injection h5 with h5
  injection h3 with h3
  have h6 := nums_inj h3
  subst h1 h4 h5 h6
  rfl
theorem nums_deep (ws : List Int) : NestedKey.depthAll (ws.map .num) ≤ 1 := by
  induction ws with
  | nil => simp [NestedKey.depthAll]
  | cons x r ih =>
    simp only [List.map_cons, NestedKey.depthAll, NestedKey.depth]
    omega
theorem keyOf_deep (s : Sx) : (keyOf s).depth ≤ 8 := by
  have := nums_deep s.waits
  simp only [keyOf, NestedKey.depth, NestedKey.depthAll]
  omega
theorem nk_nums {K : PySem.W.Frag} {H : Hp} : ∀ ws : List Int, NkAll K H (ws.map V.int) (ws.map .num)
  | [] => .nil
  | z :: r => .cons (.int z) (nk_nums r)
theorem st_key {K : PySem.W.Frag} {H : Hp} {a : Addr} {s : Sx} (h : StAt K H (.ref a) s) : NkAt K H (.ref a) (keyOf s) := by
  obtain ⟨a', u, b, e, hS, ⟨c, rfl, hg⟩, hW⟩ := h
  cases e
  exact .tup hS (.cons (.int _) (.cons (.tup hg (.cons (.int _) (.cons (.int _) .nil))) (.cons (.tup hW (nk_nums _)) .nil)))
/-- whence a state came -/
abbrev Pr := Option (Sx × Int)
def PrAt (K : PySem.W.Frag) (H : Hp) (v : V) : Pr → Prop
  | none => v = .non
  | some p => ∃ a u, v = .ref a ∧ SqT K H a [u, .int p.2] ∧ StAt K H u p.1
theorem pr_same {K : PySem.W.Frag} {H H' : Hp} {v : V} {p : Pr} (s : Same H H') (h : PrAt K H v p) : PrAt K H' v p := by
  cases p with
  | none => exact h
  | some p =>
    obtain ⟨a, u, e, q, t⟩ := h
    exact ⟨a, u, e, same_tup s q, st_same s t⟩
abbrev Cm := List (Sx × Pr)
def EcAt (K : PySem.W.Frag) (H : Hp) (x : Ent) (m : Sx × Pr) : Prop := x.1 = keyOf m.1 ∧ StAt K H (.ref x.2.1) m.1 ∧ PrAt K H x.2.2 m.2
theorem ec_same {K : PySem.W.Frag} {H H' : Hp} {x : Ent} {m : Sx × Pr} (s : Same H H') (h : EcAt K H x m) : EcAt K H' x m := ⟨h.1, st_same s h.2.1, pr_same s h.2.2⟩
def lookM (cm : Cm) (s : Sx) : Option Pr := match cm with
  | [] => none
  | m :: r => if keyOf m.1 = keyOf s then some m.2 else lookM r s
theorem paired_imp {α β : Type} {R S : α → β → Prop} (h : ∀ x y, R x y → S x y) : ∀ {xs : List α} {ys : List β}, Paired R xs ys → Paired S xs ys
  | _, _, .nil => .nil
  | _, _, .cons a t => .cons (h _ _ a) (paired_imp h t)
theorem paired_rev {α β : Type} {R : α → β → Prop} : ∀ {xs : List α} {ys : List β}, Paired R xs ys → Paired R xs.reverse ys.reverse
  | _, _, .nil => .nil
  | x :: xs, y :: ys, .cons a t => by
    rw [List.reverse_cons, List.reverse_cons]
    exact (paired_rev t).snoc a
def CameAt (P : Program) (w : World) (K : PySem.W.Frag) (H : Hp) (d : Addr) (cm : Cm) : Prop := ∃ xs, ND P w K H d xs ∧ Paired (EcAt K H) xs cm
theorem came_same {P : Program} {w : World} {K : PySem.W.Frag} {H H' : Hp} {d : Addr} {cm : Cm} (s : Same H H') (h : CameAt P w K H d cm) : CameAt P w K H' d cm := by
  obtain ⟨xs, n, p⟩ := h
  exact ⟨xs, n.keep (fun o e => s _ _ e) (fun t o e _ => s _ _ e), paired_imp (fun _ _ => ec_same s) p⟩
theorem came_look {K : PySem.W.Frag} {H : Hp} (s : Sx) : ∀ {xs : List Ent} {cm : Cm}, Paired (EcAt K H) xs cm → (valN xs (keyOf s) = none ∧ lookM cm s = none) ∨ ∃ v p, valN xs (keyOf s) = some v ∧ lookM cm s = some p ∧ PrAt K H v p
  | _, _, .nil => .inl ⟨rfl, rfl⟩
  | x :: xs, m :: cm, .cons h t => by
    obtain ⟨h1, h2, h3⟩ := h
    by_cases e : keyOf m.1 = keyOf s
    · refine .inr ⟨x.2.2, m.2, ?_, ?_, h3⟩
      · have e' : x.1 = keyOf s := by rw [h1]; exact e
        simp [valN, List.find?_cons, e']
      · exact if_pos e
    · have e' : ¬ x.1 = keyOf s := by rw [h1]; exact e
      have q1 : valN (x :: xs) (keyOf s) = valN xs (keyOf s) := by simp [valN, List.find?_cons, e']
      have q2 : lookM (m :: cm) s = lookM cm s := if_neg e
      rw [q1, q2]
      exact came_look s t
/-- the steps by which a state was met: rows with what they went by -/
inductive Steps (cm : Cm) : Sx → List Go → Prop
  | first {s : Sx} : lookM cm s = some none → Steps cm s []
  | next {s p : Sx} {z : Int} {l : List Go} : lookM cm s = some (some (p, z)) → Steps cm p l → Steps cm s (l ++ [(p.at_, z)])
section
variable {P : Program} {w : World} {K : PySem.W.Frag} {mg : Str → Option Value} {base : Heap}
def spWay (P : Program) (w : World) (K : PySem.W.Frag) : Sp := fun vs H Q _ => ∃ (d : Addr) (v : V) (cm : Cm) (s : Sx) (l : List Go), vs = [.ref d, v] ∧ CameAt P w K H d cm ∧ StAt K H v s ∧ Steps cm s l ∧ l.length ≤ 500 ∧
  ∀ (D : Addr) (xs : List V) (H' : Hp), Same H H' → H D = none → H' D = some (.lst xs) → Paired (GoAt K H') xs (l ++ [(s.at_, 0)]) → Q (.ref D) H'
abbrev nsWay : List Str := ["came", "state", "way", "went"]
theorem scWay : FnScope nsWay ["came", "state"] (defScope s_way_to) := ⟨rfl, rfl, rfl, by decide +kernel, rfl, by decide +kernel, by decide +kernel⟩
theorem gos_over {H : Hp} {D : Addr} {vs zs ys : List V} {xs : List Go} (h : Paired (GoAt K H) vs xs) (hD : H D = some (.lst zs)) : Paired (GoAt K (upd H D (.lst ys))) vs xs := by
  have tk : TK H (upd H D (.lst ys)) := fun t o e z => by
    rw [upd_ne (fun q => ?_)]
    · exact e
    · rw [q, hD] at e
      cases e
      rcases z with ⟨_, z⟩ | ⟨_, _, z⟩ <;> cases z
  exact paired_imp (fun _ _ ⟨a, e, q⟩ => ⟨a, e, tk_tup tk q⟩) h
theorem ok_way {f : Addr} {fd : FuncData} (F : Fun K "way_to" "way_to" s_way_to f fd) : FnOk P w K mg base CX0 1 f fd ["came", "state"] (spWay P w K) := by
  refine F.ok scWay (fun vs H Q E h => ?_) (fun cdv A outer s0 H vs Q E hr h => ?_)
  · obtain ⟨d, v, cm, s, l, rfl, _⟩ := h
    rfl
  · obtain ⟨d, v, cm, s, l, rfl, hC, hSt, hl, hl5, k⟩ := h
    have hu := hr.units
    refine ⟨_, (pss_cons (ps_set (i := 2) scWay.nd rfl (Or.inl rfl) (pe_lst (pa_cons (pe_tup (pa_cons (pe_ix ix_tup (pv 1) pe_int (fun _ _ => rfl)) (pa_cons pe_int pa_nil))) pa_nil))) (pss_cons (ps_while PassesOwn.never (pt_cmpR op_notN (pe_ix (ix_N hu) (pv 0) (pv 1) (fun _ _ => rfl)) pe_non (nomark _)) (pss_cons (ps_asg (pe_ix (ix_N hu) (pv 0) (pv 1) (fun _ _ => rfl)) (pg_tup rfl (pgs_cons (pg_name (i := 1) scWay.nd rfl (Or.inl rfl)) (pgs_cons (pg_name (i := 3) scWay.nd rfl (Or.inl rfl)) pgs_nil)))) (pss_one (ps_expr (pe_bm PySem.F.plainAttrs_list PySem.F.slot_list_append PySem.F.type_list_append mt_append (pv 2) (pa_cons (pe_tup (pa_cons (pe_ix ix_tup (pv 1) pe_int (fun _ _ => rfl)) (pa_cons (pv 3) pa_nil))) pa_nil)))))) (pss_one (ps_ret (pe_revL (pv 2)))))), ?_⟩
    obtain ⟨a, u, b, rfl, hS, hG, hW⟩ := id hSt
    refine ⟨_, rfl, a, _, _, _, rfl, rfl, hS, rfl, by show 2 ≤ sizeLine; decide, fun t ht => ⟨by show 1 ≤ sizeLine; decide, fun D hD0 => ?_⟩⟩
    have hD1 : H D = none := by
      rcases hq : H D with _ | o
      · rfl
      · rw [same_new ht _ _ _ hq] at hD0; cases hD0
    have sD := (same_new ht (.tup [.int s.at_, .int 0])).trans (same_new hD0 (.lst [.ref t]))
    refine ⟨fun m σ H' => ∃ (a' : Addr) (s' : Sx) (l' c : List Go) (vs : List V) (v3 : Option V), m = l'.length ∧ σ = [some (.ref d), some (.ref a'), some (.ref D), v3] ∧ StAt K H' (.ref a') s' ∧ Steps cm s' l' ∧ l' ++ c.reverse = l ++ [(s.at_, 0)] ∧ Same H H' ∧ H' D = some (.lst vs) ∧ Paired (GoAt K H') vs c,
      ⟨_, a, s, l, [(s.at_, 0)], [.ref t], _, rfl, rfl, st_same sD hSt, hl, rfl, sD, upd_same, .cons ⟨t, rfl, tup_of (by rw [upd_ne (ne_of_none upd_same hD0)]; exact upd_same)⟩ .nil⟩, ?_⟩
    rintro m σ H' ⟨a', s', l', c, vs, v3, rfl, rfl, hSt', hl', hlc, s1, hD2, hgo⟩
    obtain ⟨xs, hN, hP⟩ := came_same s1 hC
    rcases came_look s' hP with ⟨_, e2⟩ | ⟨v, p, e1, e2, hPr⟩
    · exfalso
      cases hl' with
      | first q => rw [q] at e2; cases e2
      | next q _ => rw [q] at e2; cases e2
    refine ⟨_, rfl, _, rfl, a', d, keyOf s', xs, v, rfl, rfl, st_key hSt', keyOf_deep s', hN, e1, rfl, _, rfl, ?_⟩
    cases hl' with
    | first q =>
      rw [q] at e2
      cases e2
      obtain rfl : v = .non := hPr
      refine if_f (by rfl) ?_
      refine ⟨_, rfl, D, vs, rfl, SqL.of hD2, fun p hp => k p vs.reverse _ (s1.trans (same_new hp _)) ?_ upd_same ?_⟩
      · rcases hq : H p with _ | o
        · rfl
        · rw [s1 _ _ hq] at hp; cases hp
      · have e3 : l ++ [(s.at_, 0)] = c.reverse := hlc.symm
        rw [e3]
        exact paired_imp (fun _ _ => go_same (same_new hp _)) (paired_rev hgo)
    | next q hp =>
      rename_i p0 z l0
      rw [q] at e2
      cases e2
      obtain ⟨b1, u1, rfl, hT1, hSt1⟩ := hPr
      refine if_t (by show (!decide (V.ref b1 = V.non)) = true; rw [decide_eq_false (by intro z; cases z)]; rfl) ?_
      refine ⟨fun σ' H2 => ∃ m', m' < (l0 ++ [(p0.at_, z)]).length ∧ ∃ (a' : Addr) (s' : Sx) (l' c : List Go) (vs : List V) (v3 : Option V), m' = l'.length ∧ σ' = [some (.ref d), some (.ref a'), some (.ref D), v3] ∧ StAt K H2 (.ref a') s' ∧ Steps cm s' l' ∧ l' ++ c.reverse = l ++ [(s.at_, 0)] ∧ Same H H2 ∧ H2 D = some (.lst vs) ∧ Paired (GoAt K H2) vs c, fun _ _ h => h, ?_⟩
      obtain ⟨a2, u2, b2, rfl, hS2, hG2, hW2⟩ := id hSt1
      refine ⟨_, rfl, _, rfl, a', d, keyOf s', xs, .ref b1, rfl, rfl, st_key hSt', keyOf_deep s', hN, e1, b1, _, rfl, hT1, rfl, .ref a2, [.int z], rfl, .int z, [], rfl, rfl, ?_⟩
      refine ⟨_, rfl, .inl ⟨rfl, _, SqL.of hD2⟩, _, rfl, a2, _, _, _, rfl, rfl, hS2, rfl, _, rfl, by show 2 ≤ sizeLine; decide, fun t2 ht2 => ?_⟩
      have s2 := same_new ht2 (.tup [.int p0.at_, .int z])
      have hll : c.length ≤ 501 := by
        have := congrArg List.length hlc
        rw [List.length_append, List.length_append, List.length_reverse] at this
        simp at this
        omega
      have hD3 := s2 _ _ hD2
      refine ⟨D, vs, _, rfl, rfl, hD3, small1000 (by rw [Paired.length hgo]; omega), ⟨l0.length, by simp, a2, p0, l0, c ++ [(p0.at_, z)], vs ++ [.ref t2], _, rfl, rfl, ?_, hp, ?_, fun b o zz => ?_, upd_same, ?_⟩⟩
      · have e5 : StAt K (upd H' t2 (.tup [.int p0.at_, .int z])) (.ref a2) p0 := st_same s2 hSt1
        obtain ⟨a3, u3, b3, e6, q1, ⟨c3, e7, q2⟩, q3⟩ := e5
        have tk : TK (upd H' t2 (.tup [.int p0.at_, .int z])) (upd (upd H' t2 (.tup [.int p0.at_, .int z])) D (.lst (vs ++ [.ref t2]))) := fun t o e z => by
          rw [upd_ne (fun q => ?_)]
          · exact e
          · rw [q, hD3] at e
            cases e
            rcases z with ⟨_, z⟩ | ⟨_, _, z⟩ <;> cases z
        exact ⟨a3, u3, b3, e6, tk_tup tk q1, ⟨c3, e7, tk_tup tk q2⟩, tk_tup tk q3⟩
      · rw [List.reverse_append, ← hlc, List.append_assoc]
        rfl
      · rw [upd_ne (ne_of_none zz hD1)]
        exact (s1.trans s2) _ _ zz
      · exact gos_over ((paired_imp (fun _ _ => go_same s2) hgo).snoc ⟨t2, rfl, tup_of upd_same⟩) hD3
end
end LB
namespace LB
open PySem PySem.Spec PyProof.Rows L2
/-! ### tuples stay -/
theorem tk_same {H H' : Hp} (s : Same H H') : TK H H' := fun t o e _ => s _ _ e
theorem TK.trans {H H' H'' : Hp} (a : TK H H') (b : TK H' H'') : TK H H'' := fun t o e z => b _ _ (a _ _ e z) z
theorem tk_lst {H : Hp} {D : Addr} {zs : List V} {o : HO} (hD : H D = some (.lst zs)) : TK H (upd H D o) := fun t o e z => by
  rw [upd_ne (fun q => ?_)]
  · exact e
  · rw [q, hD] at e
    cases e
    rcases z with ⟨_, z⟩ | ⟨_, _, z⟩ <;> cases z
theorem tk_ext {H : Hp} {D : Addr} {f : Heap → Prop} {o : HO} (hD : H D = some (.ext f)) : TK H (upd H D o) := fun t o e z => by
  rw [upd_ne (fun q => ?_)]
  · exact e
  · rw [q, hD] at e
    cases e
    rcases z with ⟨_, z⟩ | ⟨_, _, z⟩ <;> cases z
section
variable {K : PySem.W.Frag} {H H' : Hp}
theorem tk_go (s : TK H H') {v : V} {g : Go} (h : GoAt K H v g) : GoAt K H' v g := by
  obtain ⟨a, e, q⟩ := h
  exact ⟨a, e, tk_tup s q⟩
theorem tk_pl (s : TK H H') {v : V} {x : Int × Go} (h : PlAt K H v x) : PlAt K H' v x := by
  obtain ⟨a, u, e, q, g⟩ := h
  exact ⟨a, u, e, tk_tup s q, tk_go s g⟩
theorem tk_en (s : TK H H') {v : V} {x : Pl} (h : EnAt K H v x) : EnAt K H' v x := by
  obtain ⟨a, u, e, q, g⟩ := h
  exact ⟨a, u, e, tk_tup s q, tk_pl s g⟩
theorem tk_ens (s : TK H H') {vs : List V} {xs : List Pl} (h : EnsAt K H vs xs) : EnsAt K H' vs xs := by
  induction h with
  | nil => exact .nil
  | cons e _ ih => exact .cons (tk_en s e) ih
theorem tk_st (s : TK H H') {v : V} {x : Sx} (h : StAt K H v x) : StAt K H' v x := by
  obtain ⟨a, u, b, e, q, g, w⟩ := h
  exact ⟨a, u, b, e, tk_tup s q, tk_go s g, tk_tup s w⟩
theorem tk_pr (s : TK H H') {v : V} {p : Pr} (h : PrAt K H v p) : PrAt K H' v p := by
  cases p with
  | none => exact h
  | some p =>
    obtain ⟨a, u, e, q, t⟩ := h
    exact ⟨a, u, e, tk_tup s q, tk_st s t⟩
theorem tk_ec (s : TK H H') {x : Ent} {m : Sx × Pr} (h : EcAt K H x m) : EcAt K H' x m := ⟨h.1, tk_st s h.2.1, tk_pr s h.2.2⟩
theorem tk_prog (s : TK H H') {a : Addr} {rs : List Rw} (h : ProgAt K H a rs) : ProgAt K H' a rs := by
  obtain ⟨vs, q, l, g⟩ := h
  refine ⟨vs, tk_tup s q, l, fun i r hi => ?_⟩
  obtain ⟨v, e, b, e2, z⟩ := g i r hi
  exact ⟨v, e, b, e2, tk_tup s z⟩
theorem tk_came {P : Program} {w : World} (s : TK H H') {d : Addr} {cm : Cm} (e : ∀ o, H d = some o → H' d = some o) (h : CameAt P w K H d cm) : CameAt P w K H' d cm := by
  obtain ⟨xs, n, p⟩ := h
  exact ⟨xs, n.keep e s, paired_imp (fun _ _ => tk_ec s) p⟩
theorem came_is {cm : Cm} {xs : List Ent} (p : Paired (EcAt K H) xs cm) (s : Sx) : (valN xs (keyOf s)).isSome = (lookM cm s).isSome := by
  rcases came_look s p with ⟨e1, e2⟩ | ⟨v, q, e1, e2, _⟩ <;> rw [e1, e2] <;> rfl
theorem came_put {P : Program} {w : World} {d a : Addr} {xs : List Ent} {cm : Cm} {s : Sx} {v : V} {pr : Pr} (n : ND P w K H d xs) (p : Paired (EcAt K H) xs cm) (hs : StAt K H (.ref a) s) (hv : PrAt K H v pr) (hl : xs.length < sizeLine) :
    CameAt P w K (upd H d (.ext (NdObj P w d (xs ++ [(keyOf s, a, v)])))) d (cm ++ [(s, pr)]) := by
  have tk : TK H (upd H d (.ext (NdObj P w d (xs ++ [(keyOf s, a, v)])))) := tk_ext n.at_
  exact ⟨_, n.stored (st_key hs) (keyOf_deep s) hl, (paired_imp (fun _ _ => tk_ec tk) p).snoc ⟨rfl, tk_st tk hs, tk_pr tk hv⟩⟩
end
/-! ### the states met next -/
def GoOk (g : Go) : Prop := g = nog ∨ (0 ≤ g.1 ∧ 1 ≤ g.2)
def SOk (rs : List Rw) (s : Sx) : Prop := 0 ≤ s.at_ ∧ s.at_ < rs.length ∧ GoOk s.going ∧ s.waits.length = 8
theorem pBehind_ok {at_ : Int} {g : Go} (h0 : 0 ≤ at_) (h : GoOk g) : 0 ≤ (pBehind at_ g).1 ∧ GoOk (pBehind at_ g).2 := by
  unfold pBehind
  rcases h with rfl | ⟨h1, h2⟩
  · exact ⟨by show 0 ≤ at_ + 1; omega, .inl rfl⟩
  · by_cases e1 : g.2 = 1
    · rw [if_pos e1]
      exact ⟨h1, .inl rfl⟩
    · rw [if_neg e1, if_neg (by omega)]
      exact ⟨by show 0 ≤ at_ + 1; omega, .inr ⟨h1, by show 1 ≤ g.2 - 1; omega⟩⟩
theorem Rw.to_ok {r : Rw} {many q : Int} (h : r.ok many) (e : r.to = some q) : 0 ≤ q ∧ q < many := by
  cases r <;> first | (cases e; exact h.2) | (cases e; exact h) | cases e
theorem places_ok {ms : List Int} {r : Rw} {many at_ : Int} {g : Go} (hM : MillOk ms) (hr : r.ok many) (h0 : 0 ≤ at_) (hg : GoOk g) : ∀ x ∈ placesOf ms r at_ g, 0 ≤ x.2.1 ∧ GoOk x.2.2 := by
  intro x hx
  unfold placesOf at hx
  rcases List.mem_append.mp hx with h | h
  · by_cases e : r.on = true
    · rw [if_pos e] at h
      rw [List.mem_singleton.mp h]
      exact pBehind_ok h0 hg
    · rw [if_neg e] at h
      cases h
  · cases e : r.to with
    | none =>
      rw [e] at h
      cases h
    | some q =>
      rw [e] at h
      rw [List.mem_singleton.mp h]
      have := (jmp_at hM).2.1
      exact pBehind_ok h0 (.inr ⟨(Rw.to_ok hr e).1, by show 1 ≤ jmp ms + 1; omega⟩)
abbrev Wl := Cm × List Sx
def freshOf (ms : List Int) (r : Rw) (s : Sx) (x : Pl) : Sx := ⟨x.2.1, x.2.2, waitsOf ms r s.waits⟩
def stepPl (many : Int) (ms : List Int) (r : Rw) (s : Sx) (c : Wl) (x : Pl) : Wl := if decide ((freshOf ms r s x).at_ < many) && !(lookM c.1 (freshOf ms r s x)).isSome then (c.1 ++ [(freshOf ms r s x, some (s, x.1))], c.2 ++ [freshOf ms r s x]) else c
def stepSt (rs : List Rw) (ms : List Int) (c : Wl) (s : Sx) : Wl := match rs[s.at_.toNat]? with
  | some r => (placesOf ms r s.at_ s.going).foldl (stepPl rs.length ms r s) c
  | none => c
theorem stepPl_len (many : Int) (ms : List Int) (r : Rw) (s : Sx) (c : Wl) (x : Pl) : (stepPl many ms r s c x).1.length ≤ c.1.length + 1 ∧ (stepPl many ms r s c x).2.length ≤ c.2.length + 1 := by
  unfold stepPl
  split
  · simp
  · constructor <;> omega
theorem placesOf_len (ms : List Int) (r : Rw) (at_ : Int) (g : Go) : (placesOf ms r at_ g).length ≤ 2 := by
  unfold placesOf
  cases r.to <;> split <;> simp
theorem foldPl_len (many : Int) (ms : List Int) (r : Rw) (s : Sx) : ∀ (xs : List Pl) (c : Wl), (xs.foldl (stepPl many ms r s) c).1.length ≤ c.1.length + xs.length ∧ (xs.foldl (stepPl many ms r s) c).2.length ≤ c.2.length + xs.length
  | [], c => by simp
  | x :: xs, c => by
    have h1 := stepPl_len many ms r s c x
    have h2 := foldPl_len many ms r s xs (stepPl many ms r s c x)
    simp only [List.foldl_cons, List.length_cons]
    omega
theorem stepSt_len (rs : List Rw) (ms : List Int) (c : Wl) (s : Sx) : (stepSt rs ms c s).1.length ≤ c.1.length + 2 ∧ (stepSt rs ms c s).2.length ≤ c.2.length + 2 := by
  unfold stepSt
  split
  · rename_i r _
    have h1 := foldPl_len rs.length ms r s (placesOf ms r s.at_ s.going) c
    have h2 := placesOf_len ms r s.at_ s.going
    omega
  · omega
theorem foldSt_len (rs : List Rw) (ms : List Int) : ∀ (xs : List Sx) (c : Wl), (xs.foldl (stepSt rs ms) c).1.length ≤ c.1.length + 2 * xs.length ∧ (xs.foldl (stepSt rs ms) c).2.length ≤ c.2.length + 2 * xs.length
  | [], c => by simp
  | x :: xs, c => by
    have h1 := stepSt_len rs ms c x
    have h2 := foldSt_len rs ms xs (stepSt rs ms c x)
    simp only [List.foldl_cons, List.length_cons]
    omega
theorem foldl_take {α β : Type} {f : β → α → β} {xs : List α} {i : Nat} {x : α} {b : β} (hx : xs[i]? = some x) : (xs.take (i + 1)).foldl f b = f ((xs.take i).foldl f b) x := by
  rw [List.take_add_one, hx, List.foldl_append]
  rfl
end LB
namespace LB
open PySem PySem.Spec PyProof.Rows L2
def Keep1 (d : Addr) (H H' : Hp) : Prop := ∀ b o, b ≠ d → H b = some o → H' b = some o
theorem Keep1.tk {d : Addr} {f : Heap → Prop} {H H' : Hp} (k : Keep1 d H H') (hd : H d = some (.ext f)) : TK H H' := fun t o e z => k _ _ (fun q => by
  rw [q, hd] at e
  cases e
  rcases z with ⟨_, z⟩ | ⟨_, _, z⟩ <;> cases z) e
theorem Keep1.same {d : Addr} {H H' H'' : Hp} (k : Keep1 d H H') (s : Same H' H'') : Keep1 d H H'' := fun b o n e => s _ _ (k b o n e)
theorem CameAt.ext {P : Program} {w : World} {K : PySem.W.Frag} {H : Hp} {d : Addr} {cm : Cm} (h : CameAt P w K H d cm) : ∃ f, H d = some (.ext f) := by
  obtain ⟨xs, n, _⟩ := h
  exact ⟨_, n.at_⟩
theorem CameAt.len {P : Program} {w : World} {K : PySem.W.Frag} {H : Hp} {d : Addr} {cm : Cm} (h : CameAt P w K H d cm) : ∃ xs, ND P w K H d xs ∧ Paired (EcAt K H) xs cm ∧ xs.length = cm.length := by
  obtain ⟨xs, n, p⟩ := h
  exact ⟨xs, n, p, Paired.length p⟩
theorem paired_get {α β : Type} {R : α → β → Prop} : ∀ {xs : List α} {ys : List β}, Paired R xs ys → ∀ {i : Nat} {x : α}, xs[i]? = some x → ∃ y, ys[i]? = some y ∧ R x y
  | _, _, .nil, i, x, h => by cases h
  | x0 :: xs, y0 :: ys, .cons a t, i, x, h => by
    cases i with
    | zero => exact ⟨y0, rfl, by cases h; exact a⟩
    | succ i => exact paired_get t h
section
variable {P : Program} {w : World} {K : PySem.W.Frag} {mg : Str → Option Value} {base : Heap}
def nextOf (rs : List Rw) (ms : List Int) (ss : List Sx) (cm : Cm) : Wl := ss.foldl (stepSt rs ms) (cm, [])
def spMet (P : Program) (w : World) (K : PySem.W.Frag) : Sp := fun vs H Q _ => ∃ (ap am aS d : Addr) (rs : List Rw) (ms : List Int) (vS : List V) (ss : List Sx) (cm : Cm), vs = [.ref ap, .ref am, .ref aS, .ref d] ∧ ProgAt K H ap rs ∧ RsOk rs ∧ MillAt K H am ms ∧ MillOk ms ∧ H aS = some (.lst vS) ∧ Paired (StAt K H) vS ss ∧ (∀ s ∈ ss, SOk rs s) ∧ CameAt P w K H d cm ∧ cm.length ≤ 250 ∧ ss.length ≤ 250 ∧
  ∀ (D : Addr) (vs : List V) (H' : Hp), Keep1 d H H' → H D = none → H' D = some (.lst vs) → Paired (StAt K H') vs (nextOf rs ms ss cm).2 → CameAt P w K H' d (nextOf rs ms ss cm).1 → Q (.ref D) H'
abbrev nsMet : List Str := ["program", "mill", "states", "came", "met", "state", "waits", "went", "at", "going", "fresh"]
theorem scMet : FnScope nsMet ["program", "mill", "states", "came"] (defScope s_met_next) := ⟨rfl, rfl, rfl, by decide +kernel, rfl, by decide +kernel, by decide +kernel⟩
theorem ok_met {f : Addr} {fd : FuncData} (F : Fun K "met_next" "met_next" s_met_next f fd) (WB : Cal P w K mg base 2 "waits_behind" ["row", "mill", "waits"] (spWaits K)) (PL : Cal P w K mg base 2 "places_behind" ["program", "mill", "state"] (spPlaces K)) (B : Bl2 mg) : FnOk P w K mg base CX0 3 f fd ["program", "mill", "states", "came"] (spMet P w K) := by
  refine F.ok scMet (fun vs H Q E h => ?_) (fun cdv A outer s0 H vs Q E hr h => ?_)
  · obtain ⟨ap, am, aS, d, rs, ms, vS, ss, cm, rfl, _⟩ := h
    rfl
  · obtain ⟨ap, am, aS, d, rs, ms, vS, ss, cm, rfl, hP, hRs, hM, hMo, haS, hSS, hSo, hC, hc250, hs250, k⟩ := h
    have hu := hr.units
    obtain ⟨fd0, hd0⟩ := hC.ext
    obtain ⟨vsP, hTP, hlP, hgP⟩ := id hP
    have hlS := Paired.length hSS
    refine ⟨_, (pss_cons (ps_set (i := 4) scMet.nd rfl (Or.inl rfl) (pe_lst pa_nil)) (pss_cons (ps_for PassesOwn.never rfl (pi_list (pv 2)) (pg_name (i := 5) scMet.nd rfl (Or.inl rfl)) (pss_cons (ps_set (i := 6) scMet.nd rfl (Or.inl rfl) (pe_cal WB (hr.mono (by decide)) (pa_cons (pe_ix ix_tup (pv 0) (pe_ix ix_tup (pv 5) pe_int (fun _ _ => rfl)) (fun _ _ => rfl)) (pa_cons (pv 1) (pa_cons (pe_ix ix_tup (pv 5) pe_int (fun _ _ => rfl)) pa_nil))))) (pss_one (ps_for PassesOwn.never rfl (pi_list (pe_cal PL (hr.mono (by decide)) (pa_cons (pv 0) (pa_cons (pv 1) (pa_cons (pv 5) pa_nil))))) (pg_tup rfl (pgs_cons (pg_name (i := 7) scMet.nd rfl (Or.inl rfl)) (pgs_cons (pg_tup rfl (pgs_cons (pg_name (i := 8) scMet.nd rfl (Or.inl rfl)) (pgs_cons (pg_name (i := 9) scMet.nd rfl (Or.inl rfl)) pgs_nil))) pgs_nil))) (pss_cons (ps_set (i := 10) scMet.nd rfl (Or.inl rfl) (pe_tup (pa_cons (pv 8) (pa_cons (pv 9) (pa_cons (pv 6) pa_nil))))) (pss_one (ps_if (PW.pt (pw_and (pt_cmpR op_lt (pv 8) (pe_callB call_len_seq (by rfl) B.b.len PySem.boot_len (pa_cons (pv 0) pa_nil)) (nomark _)) (pw_and1 (pt_cmpR (op_notinN hu) (pv 10) (pv 3) (by rfl))))) (pss_cons (ps_asg (pe_tup (pa_cons (pv 5) (pa_cons (pv 7) pa_nil))) (pg_sub (pv 3) (pv 10) (set_N hu))) (pss_one (ps_expr (pe_bm PySem.F.plainAttrs_list PySem.F.slot_list_append PySem.F.type_list_append mt_append (pv 4) (pa_cons (pv 10) pa_nil))))) pss_nil))))))) (pss_one (ps_ret (pv 4))))), ?_⟩
    refine ⟨by show 0 ≤ sizeLine; decide, fun D hD => ?_⟩
    have sD := same_new hD (.lst [])
    have nDd : D ≠ d := fun e => by rw [e, hd0] at hD; cases hD
    have nSd : aS ≠ d := fun e => by rw [e, hd0] at haS; cases haS
    have eD : ∀ (b : Addr) (o : HO), H b = some o → b ≠ D := fun b o e z => by rw [z, hD] at e; cases e
    refine ⟨_, rfl, aS, rfl, ⟨_, SqL.of (sD _ _ haS)⟩, for_list (K := K) (a := aS) (xs := vS) (fun j σ' H' => ∃ v6 v7 v8 v9 va vb vs, σ' = [some (.ref ap), some (.ref am), some (.ref aS), some (.ref d), some (.ref D), v6, v7, v8, v9, va, vb] ∧ Keep1 d H H' ∧ H' D = some (.lst vs) ∧ Paired (StAt K H') vs ((ss.take j).foldl (stepSt rs ms) (cm, [])).2 ∧ CameAt P w K H' d ((ss.take j).foldl (stepSt rs ms) (cm, [])).1)
      ⟨_, _, _, _, _, _, _, rfl, fun b o _ e => sD _ _ e, upd_same, .nil, came_same sD hC⟩ (fun j σ' H' _ ⟨_, _, _, _, _, _, _, _, e, _⟩ => SqL.of (e _ _ nSd haS)) ?_ ?_⟩
    · rintro j x σ' H1 hx ⟨v6, v7, v8, v9, va, vb, vs0, rfl, k1, hD1, hst1, hC1⟩
      obtain ⟨s, hs, hxs⟩ := paired_get hSS hx
      have hok := hSo s (List.mem_of_getElem? hs)
      obtain ⟨hs0, hs1, hsg, hs8⟩ := hok
      obtain ⟨a, u, b, rfl, hS, hG, hW⟩ := id hxs
      have hlt : s.at_.toNat < rs.length := by omega
      obtain ⟨r, hr0⟩ : ∃ r, rs[s.at_.toNat]? = some r := ⟨_, List.getElem?_eq_getElem hlt⟩
      have hrok := hRs.2.2 r (List.mem_of_getElem? hr0)
      obtain ⟨v, hv, ra, rfl, hrT⟩ := hgP _ _ hr0
      have tk1 := k1.tk hd0
      refine ⟨_, rfl, _, rfl, a, _, _, _, rfl, rfl, tk_tup tk1 hS, rfl, ap, _, _, .ref ra, rfl, rfl, tk_tup tk1 hTP, at_of (j := s.at_.toNat) (by omega) hv, _, rfl, _, rfl, a, _, _, _, rfl, rfl, tk_tup tk1 hS, rfl, ?_⟩
      refine ⟨.ref ra, r, am, b, ms, s.waits, rs.length, rfl, ⟨ra, rfl, tk_tup tk1 hrT⟩, hrok, tk_tup tk1 hM, hMo, tk_tup tk1 hW, hs8, fun wv H2 s2 hwv => ?_⟩
      refine ⟨_, rfl, _, rfl, _, rfl, ap, am, .ref a, rs, ms, s, r, rfl, tk_prog (tk1.trans (tk_same s2)) hP, tk_tup (tk1.trans (tk_same s2)) hM, hMo, tk_st (tk1.trans (tk_same s2)) hxs, hs0, hr0, fun D2 xs H3 s3 hD2 hx2 hE => ?_⟩
      have s23 := s2.trans s3
      have n2D : D2 ≠ D := fun e => by rw [e, s2 _ _ hD1] at hD2; cases hD2
      obtain ⟨f2, hd2⟩ := (came_same s2 hC1).ext
      have n2d : D2 ≠ d := fun e => by rw [e, hd2] at hD2; cases hD2
      have hl2 := placesOf_len ms r s.at_ s.going
      refine ⟨D2, rfl, ⟨_, SqL.of hx2⟩, for_list (K := K) (a := D2) (xs := xs) (fun i σ' H' => ∃ v8 v9 va vb vs, σ' = [some (.ref ap), some (.ref am), some (.ref aS), some (.ref d), some (.ref D), some (.ref a), some (.ref wv), v8, v9, va, vb] ∧ Keep1 d H H' ∧ H' D = some (.lst vs) ∧ Paired (StAt K H') vs (((placesOf ms r s.at_ s.going).take i).foldl (stepPl rs.length ms r s) ((ss.take j).foldl (stepSt rs ms) (cm, []))).2 ∧ CameAt P w K H' d (((placesOf ms r s.at_ s.going).take i).foldl (stepPl rs.length ms r s) ((ss.take j).foldl (stepSt rs ms) (cm, []))).1 ∧ H' D2 = some (.lst xs) ∧ EnsAt K H' xs (placesOf ms r s.at_ s.going) ∧ SqT K H' wv ((waitsOf ms r s.waits).map V.int))
        ⟨_, _, _, _, _, rfl, k1.same s23, s23 _ _ hD1, paired_imp (fun _ _ => st_same s23) hst1, came_same s23 hC1, hx2, hE, same_tup s3 hwv⟩ (fun i σ' H' _ ⟨_, _, _, _, _, _, _, _, _, _, e, _⟩ => SqL.of e) ?_ ?_⟩
      · rintro i x σ' H4 hx4 ⟨v8, v9, va, vb, vs, rfl, k4, hD4, hst4, hC4, hD24, hE4, hw4⟩
        obtain ⟨y, hy, aE, uE, rfl, qE, b2, u2, rfl, q2, hg2⟩ := hE4.get hx4
        have hil : i < 2 := by
          have := (List.getElem?_eq_some_iff.mp hy).1
          omega
        have hjl : j < 250 := by
          have := (List.getElem?_eq_some_iff.mp hs).1
          omega
        have elen := foldPl_len rs.length ms r s ((placesOf ms r s.at_ s.going).take i) ((ss.take j).foldl (stepSt rs ms) (cm, []))
        have elen2 := foldSt_len rs ms (ss.take j) (cm, [])
        rw [List.length_take] at elen elen2
        have e3 := Nat.min_le_left i (placesOf ms r s.at_ s.going).length
        have e4 := Nat.min_le_left j ss.length
        have eN : ([] : List Sx).length = 0 := rfl
        refine ⟨aE, _, rfl, qE, rfl, .int y.1, [.ref b2], rfl, .ref b2, [], rfl, b2, _, rfl, q2, rfl, .int y.2.1, [u2], rfl, u2, [], rfl, rfl, rfl, ?_⟩
        refine ⟨_, rfl, _, rfl, _, rfl, by show 3 ≤ sizeLine; decide, fun t ht => ?_⟩
        have st := same_new ht (.tup [.int y.2.1, u2, .ref wv])
        have tk4 := (k4.tk hd0).trans (tk_same st)
        have hfr : StAt K (upd H4 t (.tup [.int y.2.1, u2, .ref wv])) (.ref t) (freshOf ms r s y) := ⟨t, u2, wv, rfl, tup_of upd_same, go_same st hg2, same_tup st hw4⟩
        have step := foldl_take (f := stepPl rs.length ms r s) (b := ((ss.take j).foldl (stepSt rs ms) (cm, []))) hy
        have skip : stepPl rs.length ms r s (((placesOf ms r s.at_ s.going).take i).foldl (stepPl rs.length ms r s) ((ss.take j).foldl (stepSt rs ms) (cm, []))) y = (((placesOf ms r s.at_ s.going).take i).foldl (stepPl rs.length ms r s) ((ss.take j).foldl (stepSt rs ms) (cm, []))) → ∃ v8 v9 va vb vs', [some (.ref ap), some (.ref am), some (.ref aS), some (.ref d), some (.ref D), some (.ref a), some (.ref wv), some (.int y.1), some (.int y.2.1), some u2, some (.ref t)] = [some (V.ref ap), some (.ref am), some (.ref aS), some (.ref d), some (.ref D), some (.ref a), some (.ref wv), v8, v9, va, vb] ∧ Keep1 d H (upd H4 t (.tup [.int y.2.1, u2, .ref wv])) ∧ (upd H4 t (.tup [.int y.2.1, u2, .ref wv])) D = some (.lst vs') ∧ Paired (StAt K (upd H4 t (.tup [.int y.2.1, u2, .ref wv]))) vs' (((placesOf ms r s.at_ s.going).take (i + 1)).foldl (stepPl rs.length ms r s) ((ss.take j).foldl (stepSt rs ms) (cm, []))).2 ∧ CameAt P w K (upd H4 t (.tup [.int y.2.1, u2, .ref wv])) d (((placesOf ms r s.at_ s.going).take (i + 1)).foldl (stepPl rs.length ms r s) ((ss.take j).foldl (stepSt rs ms) (cm, []))).1 ∧ (upd H4 t (.tup [.int y.2.1, u2, .ref wv])) D2 = some (.lst xs) ∧ EnsAt K (upd H4 t (.tup [.int y.2.1, u2, .ref wv])) xs (placesOf ms r s.at_ s.going) ∧ SqT K (upd H4 t (.tup [.int y.2.1, u2, .ref wv])) wv ((waitsOf ms r s.waits).map V.int) := fun e => by
          rw [step, e]
          exact ⟨_, _, _, _, _, rfl, k4.same st, st _ _ hD4, paired_imp (fun _ _ => st_same st) hst4, came_same st hC4, st _ _ hD24, hE4.same st, same_tup st hw4⟩
        refine ⟨_, rfl, _, rfl, ap, _, rfl, .inr (tk_tup tk4 hTP), _, _, rfl, rfl, _, rfl, if_both (fun e => ?_) (fun e => ?_)⟩
        · have e1 : decide ((freshOf ms r s y).at_ < (rs.length : Int)) = true := by rw [← hlP]; exact e
          obtain ⟨zs, hN, hPz, hlz⟩ := (came_same st hC4).len
          have hcis := came_is hPz (freshOf ms r s y)
          refine ⟨_, rfl, _, rfl, t, d, _, zs, rfl, rfl, st_key hfr, keyOf_deep _, hN, _, rfl, if_both (fun e2 => ?_) (fun e2 => ?_)⟩
          · have e2' : (!(valN zs (keyOf (freshOf ms r s y))).isSome) = true := e2
            have hnone : valN zs (keyOf (freshOf ms r s y)) = none := by
              cases hq : valN zs (keyOf (freshOf ms r s y)) with
              | none => rfl
              | some _ => rw [hq] at e2'; cases e2'
            have hcond : (decide ((freshOf ms r s y).at_ < (rs.length : Int)) && !(lookM (((placesOf ms r s.at_ s.going).take i).foldl (stepPl rs.length ms r s) ((ss.take j).foldl (stepSt rs ms) (cm, []))).1 (freshOf ms r s y)).isSome) = true := by
              rw [e1, ← hcis, hnone]
              rfl
            have estep : stepPl rs.length ms r s (((placesOf ms r s.at_ s.going).take i).foldl (stepPl rs.length ms r s) ((ss.take j).foldl (stepSt rs ms) (cm, []))) y = ((((placesOf ms r s.at_ s.going).take i).foldl (stepPl rs.length ms r s) ((ss.take j).foldl (stepSt rs ms) (cm, []))).1 ++ [(freshOf ms r s y, some (s, y.1))], (((placesOf ms r s.at_ s.going).take i).foldl (stepPl rs.length ms r s) ((ss.take j).foldl (stepSt rs ms) (cm, []))).2 ++ [freshOf ms r s y]) := if_pos hcond
            refine ⟨_, rfl, _, rfl, by show 2 ≤ sizeLine; decide, fun t2 ht2 => ?_⟩
            have st2 := same_new ht2 (.tup [.ref a, .int y.1])
            have hN2 : ND P w K (upd (upd H4 t (.tup [.int y.2.1, u2, .ref wv])) t2 (.tup [.ref a, .int y.1])) d zs := hN.keep (fun o e => st2 _ _ e) (tk_same st2)
            have hlz2 : zs.length < sizeLine := small1000 (by rw [hlz]; simp only at elen2; omega)
            have tk5 := tk4.trans (tk_same st2)
            have hpr : PrAt K (upd (upd H4 t (.tup [.int y.2.1, u2, .ref wv])) t2 (.tup [.ref a, .int y.1])) (.ref t2) (some (s, y.1)) := ⟨t2, .ref a, rfl, tup_of upd_same, tk_st tk5 hxs⟩
            refine ⟨_, rfl, _, rfl, t, d, keyOf (freshOf ms r s y), zs, rfl, rfl, st_key (st_same st2 hfr), keyOf_deep _, hN2, hnone, hlz2, ?_⟩
            have hput := came_put hN2 (paired_imp (fun _ _ => ec_same st2) hPz) (st_same st2 hfr) hpr hlz2
            have tk6 : TK (upd (upd H4 t (.tup [.int y.2.1, u2, .ref wv])) t2 (.tup [.ref a, .int y.1])) (upd (upd (upd H4 t (.tup [.int y.2.1, u2, .ref wv])) t2 (.tup [.ref a, .int y.1])) d (.ext (NdObj P w d (zs ++ [(keyOf (freshOf ms r s y), t, .ref t2)])))) := tk_ext hN2.at_
            have s45 := st.trans st2
            generalize hH5 : upd (upd H4 t (.tup [.int y.2.1, u2, .ref wv])) t2 (.tup [.ref a, .int y.1]) = H5 at *
            have hD6 : (upd H5 d (.ext (NdObj P w d (zs ++ [(keyOf (freshOf ms r s y), t, .ref t2)])))) D = some (.lst vs) := by rw [upd_ne nDd]; exact s45 _ _ hD4
            have hD26 : (upd H5 d (.ext (NdObj P w d (zs ++ [(keyOf (freshOf ms r s y), t, .ref t2)])))) D2 = some (.lst xs) := by rw [upd_ne n2d]; exact s45 _ _ hD24
            have k6 : Keep1 d H (upd H5 d (.ext (NdObj P w d (zs ++ [(keyOf (freshOf ms r s y), t, .ref t2)])))) := fun b o n e => by rw [upd_ne n]; exact s45 _ _ (k4 b o n e)
            have tk7 : TK _ (upd _ D (.lst (vs ++ [.ref t]))) := tk_lst hD6
            have tk47 := ((tk_same s45).trans tk6).trans tk7
            have hvl : vs.length < sizeLine := small1000 (by rw [Paired.length hst4]; simp only at elen2; omega)
            refine ⟨_, rfl, .inl ⟨rfl, _, SqL.of hD6⟩, _, rfl, D, vs, _, rfl, rfl, hD6, hvl, ?_⟩
            show ∃ v8 v9 va vb vs', _ ∧ _
            rw [step, estep]
            refine ⟨_, _, _, _, _, rfl, fun b o n e => by rw [upd_ne (eD b o e)]; exact k6 b o n e, upd_same, ?_, ?_, by rw [upd_ne n2D]; exact hD26, tk_ens tk47 hE4, tk_tup tk47 hw4⟩
            · refine (paired_imp (fun _ _ => tk_st tk47) hst4).snoc ?_
              exact tk_st (tk6.trans tk7) (st_same st2 hfr)
            · exact tk_came tk7 (fun o e => by rw [upd_ne nDd.symm]; exact e) hput
          · have e2' : (!(valN zs (keyOf (freshOf ms r s y))).isSome) = false := e2
            refine skip (if_neg ?_)
            rw [← hcis, e2', Bool.and_false]
            exact Bool.false_ne_true
        · refine if_f (b := false) rfl (skip (if_neg ?_))
          have e1 : decide ((freshOf ms r s y).at_ < (rs.length : Int)) = false := by rw [← hlP]; exact e
          rw [e1]
          exact Bool.false_ne_true
      · rintro σ' H4 ⟨v8, v9, va, vb, vs, rfl, k4, hD4, hst4, hC4, _⟩
        have estep : ((ss.take (j + 1)).foldl (stepSt rs ms) (cm, [])) = (((placesOf ms r s.at_ s.going).take xs.length).foldl (stepPl rs.length ms r s) ((ss.take j).foldl (stepSt rs ms) (cm, []))) := by
          rw [foldl_take hs, hE.len, List.take_length]
          show (match rs[s.at_.toNat]? with
            | some r => (placesOf ms r s.at_ s.going).foldl (stepPl rs.length ms r s) _
            | none => _) = _
          rw [hr0]
        show ∃ v6 v7 v8 v9 va vb vs', _ ∧ _
        rw [estep]
        exact ⟨_, _, _, _, _, _, _, rfl, k4, hD4, hst4, hC4⟩
    · rintro σ' H' ⟨v6, v7, v8, v9, va, vb, vs, rfl, k1, hD1, hst1, hC1⟩
      have ef : ss.take vS.length = ss := by rw [hlS, List.take_length]
      rw [ef] at hst1 hC1
      exact ⟨_, rfl, k D vs H' k1 hD hD1 hst1 hC1⟩
end
end LB
namespace LB
open PySem PySem.Spec PyProof.Rows L2
/-! ### the search as a plain function -/
theorem lookM_more {cm : Cm} {s : Sx} {p : Pr} {m : Sx × Pr} (h : lookM cm s = some p) : lookM (cm ++ [m]) s = some p := by
  induction cm with
  | nil => cases h
  | cons x r ih =>
    by_cases e : keyOf x.1 = keyOf s
    · have q : lookM (x :: r) s = some x.2 := if_pos e
      rw [q] at h
      show (if keyOf x.1 = keyOf s then some x.2 else lookM (r ++ [m]) s) = some p
      rw [if_pos e, h]
    · have q : lookM (x :: r) s = lookM r s := if_neg e
      rw [q] at h
      show (if keyOf x.1 = keyOf s then some x.2 else lookM (r ++ [m]) s) = some p
      rw [if_neg e]
      exact ih h
theorem lookM_last {cm : Cm} {s : Sx} {p : Pr} (h : lookM cm s = none) : lookM (cm ++ [(s, p)]) s = some p := by
  induction cm with
  | nil => exact if_pos rfl
  | cons x r ih =>
    by_cases e : keyOf x.1 = keyOf s
    · have q : lookM (x :: r) s = some x.2 := if_pos e
      rw [q] at h
      cases h
    · have q : lookM (x :: r) s = lookM r s := if_neg e
      rw [q] at h
      show (if keyOf x.1 = keyOf s then some x.2 else lookM (r ++ [(s, p)]) s) = some p
      rw [if_neg e]
      exact ih h
theorem Steps.more {cm : Cm} {m : Sx × Pr} {s : Sx} {l : List Go} (h : Steps cm s l) : Steps (cm ++ [m]) s l := by
  induction h with
  | first q => exact .first (lookM_more q)
  | next q _ ih => exact .next (lookM_more q) ih
/-- what a level of states keeps -/
def LvOk (rs : List Rw) (n : Nat) (cm : Cm) (ss : List Sx) : Prop := ∀ s ∈ ss, SOk rs s ∧ ∃ l, Steps cm s l ∧ l.length ≤ n
structure J (rs : List Rw) (n : Nat) (cm : Cm) (c : Wl) : Prop where
  new : LvOk rs (n + 1) c.1 c.2
  old : ∀ s l, Steps cm s l → Steps c.1 s l
  len : c.1.length = cm.length + c.2.length
theorem J.pl {rs : List Rw} {ms : List Int} {n : Nat} {cm : Cm} {c : Wl} {r : Rw} {s : Sx} {x : Pl} (h : J rs n cm c) (hs : ∃ l, Steps cm s l ∧ l.length ≤ n) (hw : s.waits.length = 8) (hx : 0 ≤ x.2.1 ∧ GoOk x.2.2) : J rs n cm (stepPl rs.length ms r s c x) := by
  unfold stepPl
  by_cases e : (decide ((freshOf ms r s x).at_ < (rs.length : Int)) && !(lookM c.1 (freshOf ms r s x)).isSome) = true
  · rw [if_pos e]
    rw [Bool.and_eq_true] at e
    obtain ⟨e1, e2⟩ := e
    have e1' := of_decide_eq_true e1
    have hn : lookM c.1 (freshOf ms r s x) = none := by
      cases q : lookM c.1 (freshOf ms r s x) with
      | none => rfl
      | some _ => rw [q] at e2; cases e2
    obtain ⟨l, hl, hln⟩ := hs
    refine ⟨fun t ht => ?_, fun t l' q => (h.old t l' q).more, ?_⟩
    · rcases List.mem_append.mp ht with q | q
      · obtain ⟨o, l', q1, q2⟩ := h.new t q
        exact ⟨o, l', q1.more, q2⟩
      · rw [List.mem_singleton.mp q]
        refine ⟨⟨hx.1, e1', hx.2, by show (waitsOf ms r s.waits).length = 8; rw [waitsOf_len, hw]⟩, l ++ [(s.at_, x.1)], .next (lookM_last hn) (h.old _ _ hl).more, by simp; exact hln⟩
    · have := h.len
      rw [List.length_append, List.length_append, this]
      show cm.length + c.2.length + 1 = cm.length + (c.2.length + 1)
      omega
  · rw [if_neg e]
    exact h
theorem J.pls {rs : List Rw} {ms : List Int} {n : Nat} {cm : Cm} {r : Rw} {s : Sx} (hs : ∃ l, Steps cm s l ∧ l.length ≤ n) (hw : s.waits.length = 8) : ∀ (xs : List Pl) (c : Wl), J rs n cm c → (∀ x ∈ xs, 0 ≤ x.2.1 ∧ GoOk x.2.2) → J rs n cm (xs.foldl (stepPl rs.length ms r s) c)
  | [], _, h, _ => h
  | x :: xs, c, h, hx => J.pls hs hw xs _ (h.pl hs hw (hx x (List.mem_cons_self ..))) fun y hy => hx y (List.mem_cons_of_mem _ hy)
theorem J.st {rs : List Rw} {ms : List Int} {n : Nat} {cm : Cm} (hR : RsOk rs) (hM : MillOk ms) : ∀ (ss : List Sx) (c : Wl), J rs n cm c → LvOk rs n cm ss → J rs n cm (ss.foldl (stepSt rs ms) c)
  | [], _, h, _ => h
  | s :: ss, c, h, hs => by
    refine J.st hR hM ss _ ?_ fun t ht => hs t (List.mem_cons_of_mem _ ht)
    obtain ⟨⟨h0, h1, h2, h3⟩, hl⟩ := hs s (List.mem_cons_self ..)
    unfold stepSt
    cases e : rs[s.at_.toNat]? with
    | none => exact h
    | some r => exact J.pls hl h3 _ c h (places_ok hM (hR.2.2 r (List.mem_of_getElem? e)) h0 h2)
theorem next_ok {rs : List Rw} {ms : List Int} {n : Nat} {cm : Cm} {ss : List Sx} (hR : RsOk rs) (hM : MillOk ms) (h : LvOk rs n cm ss) : J rs n cm (nextOf rs ms ss cm) := J.st hR hM ss (cm, []) ⟨fun s hs => (by cases hs), fun _ _ q => q, by show cm.length = cm.length + 0; rfl⟩ h
/-- how a state's row breaks -/
def flawOf (rs : List Rw) (ms : List Int) (s : Sx) : Br := match rs[s.at_.toNat]? with
  | some r => brOf rs.length ms r s
  | none => none
inductive Out
  | nil
  | many
  | at_ (s : Sx) (why : Str) (box : Int)
/-- the first of a level's states that breaks -/
def badOf (rs : List Rw) (ms : List Int) : List Sx → Option (Sx × Str × Int)
  | [] => none
  | s :: r => match flawOf rs ms s with
    | some x => some (s, x)
    | none => badOf rs ms r
/-- the search from a level on, with the states met and the levels that may come -/
def lookP (rs : List Rw) (ms : List Int) : Nat → Cm → List Sx → Cm × Out
  | 0, cm, ss => (cm, if ss = [] then .nil else .many)
  | n + 1, cm, ss => if ss = [] then (cm, .nil) else if cm.length > 250 then (cm, .many) else match badOf rs ms ss with
    | some x => (cm, .at_ x.1 x.2.1 x.2.2)
    | none => lookP rs ms n (nextOf rs ms ss cm).1 (nextOf rs ms ss cm).2
def first0 : Sx := ⟨0, nog, List.replicate 8 0⟩
def lookAll (rs : List Rw) (ms : List Int) : Cm × Out := lookP rs ms 252 [(first0, none)] [first0]
theorem badOf_take {rs : List Rw} {ms : List Int} : ∀ {ss : List Sx} {i : Nat} {s : Sx}, ss[i]? = some s → badOf rs ms (ss.take i) = none → (flawOf rs ms s = none → badOf rs ms (ss.take (i + 1)) = none) ∧ ∀ x, flawOf rs ms s = some x → badOf rs ms ss = some (s, x)
  | [], i, s, h, _ => by cases h
  | t :: ss, 0, s, h, _ => by
    cases h
    refine ⟨fun e => ?_, fun x e => ?_⟩
    · show (match flawOf rs ms t with | some x => some (t, x) | none => badOf rs ms (ss.take 0)) = none
      rw [e]
      rfl
    · show (match flawOf rs ms t with | some x => some (t, x) | none => badOf rs ms ss) = some (t, x)
      rw [e]
  | t :: ss, i + 1, s, h, hb => by
    have hb' : (match flawOf rs ms t with | some x => some (t, x) | none => badOf rs ms (ss.take i)) = none := hb
    cases e : flawOf rs ms t with
    | some x => rw [e] at hb'; cases hb'
    | none =>
      rw [e] at hb'
      obtain ⟨q1, q2⟩ := badOf_take (ss := ss) (i := i) (s := s) h hb'
      refine ⟨fun z => ?_, fun x z => ?_⟩
      · show (match flawOf rs ms t with | some x => some (t, x) | none => badOf rs ms (ss.take (i + 1))) = none
        rw [e]
        exact q1 z
      · show (match flawOf rs ms t with | some x => some (t, x) | none => badOf rs ms ss) = some (s, x)
        rw [e]
        exact q2 x z
theorem first_ok {rs : List Rw} (h : RsOk rs) : LvOk rs 0 [(first0, none)] [first0] := fun s hs => by
  rw [List.mem_singleton.mp hs]
  have := h.1
  exact ⟨⟨by show (0 : Int) ≤ 0; omega, by show (0 : Int) < rs.length; omega, .inl rfl, rfl⟩, [], .first (if_pos rfl), Nat.le_refl _⟩
end LB
namespace LB
open PySem PySem.Spec PyProof.Rows L2
/-- a refusal's class without own __init__ -/
structure OwnE (K : PySem.W.Frag) (mg : Str → Option Value) (x : Str) (C : Addr) : Prop where
  base : ∃ (B newId initId : String) (bmB : List Value), ExcBaseFacts B newId initId bmB ∧ PySem.W.excIn K C bmB newId = true
  g : mg x = some (.ref C)
  keep : PySem.W.keepIn K (.ref C) = true
  sub : PySem.W.subIn K (.ref C) (.type "BaseException") = some true
  ty : PySem.W.typeIn K (.ref C) = some (.type "type")
theorem pmk_ownE {X : Cx} {C : Addr} {x m : Str} {j : Nat} {p p2 pos : Pos} (O : OwnE X.K X.mg x C) (hg : Gl X x := by rfl) (hdb : (x == ("__debug__" : Str)) = false := by decide) : PMk X (.Call (.Name x p) [.Constant (.str m) j p2] [] pos) (fun _ H Q => Q (.ref C) none H) := by
  obtain ⟨B, n, i, b, F, q⟩ := O.base
  exact pmk_own F q O.g O.keep (raises_own O.sub O.ty) hg hdb
theorem rep8 : (List.replicate (8 : Int).toNat [V.int 0]).flatten = (List.replicate 8 (0 : Int)).map V.int := by decide +kernel
theorem look_nil (rs : List Rw) (ms : List Int) (n : Nat) (cm : Cm) : (lookP rs ms n cm []).2 = .nil := by cases n <;> rfl
theorem look_many {rs : List Rw} {ms : List Int} {n : Nat} {cm : Cm} {ss : List Sx} (h : ss ≠ []) (g : cm.length > 250) : (lookP rs ms n cm ss).2 = .many := by
  cases n with
  | zero =>
    show (if ss = [] then Out.nil else .many) = .many
    rw [if_neg h]
  | succ n =>
    unfold lookP
    rw [if_neg h, if_pos g]
theorem look_bad {rs : List Rw} {ms : List Int} {n : Nat} {cm : Cm} {ss : List Sx} {x : Sx × Str × Int} (h : ss ≠ []) (g : cm.length ≤ 250) (b : badOf rs ms ss = some x) : lookP rs ms (n + 1) cm ss = (cm, .at_ x.1 x.2.1 x.2.2) := by
  unfold lookP
  rw [if_neg h, if_neg (by omega), b]
theorem look_go {rs : List Rw} {ms : List Int} {n : Nat} {cm : Cm} {ss : List Sx} (h : ss ≠ []) (g : cm.length ≤ 250) (b : badOf rs ms ss = none) : lookP rs ms (n + 1) cm ss = lookP rs ms n (nextOf rs ms ss cm).1 (nextOf rs ms ss cm).2 := by
  conv => lhs; unfold lookP
  rw [if_neg h, if_neg (by omega), b]
section
variable {P : Program} {w : World} {K : PySem.W.Frag} {mg : Str → Option Value} {base : Heap}
def LkInv (P : Program) (w : World) (K : PySem.W.Frag) (H : Hp) (rs : List Rw) (ms : List Int) (ap am a0 d : Addr) (m : Nat) (σ : L2.St) (H' : Hp) : Prop := ∃ (n : Nat) (cm : Cm) (ss : List Sx) (vS : List V) (aS : Addr) (v5 v6 : Option V), m = (if ss = [] then 0 else n + 1) ∧
  σ = [some (.ref ap), some (.ref am), some (.ref a0), some (.ref d), some (.ref aS), v5, v6] ∧ Same H H' ∧ CameAt P w K H' d cm ∧ H' aS = some (.lst vS) ∧ Paired (StAt K H') vS ss ∧ LvOk rs (252 - n) cm ss ∧ lookP rs ms n cm ss = lookAll rs ms ∧ (ss = [] ∨ 252 ≤ cm.length + n) ∧ ss.length ≤ cm.length ∧ n ≤ 252
abbrev GMs (mg : Str → Option Value) : Prop := ∃ t, mg "MOST_STATES" = some (.int 250 t)
/-- (way, why, box) stands at the value, the way's list new since H -/
def LookAt (K : PySem.W.Frag) (H H' : Hp) (v : V) (cm : Cm) (s : Sx) (why : Str) (box : Int) : Prop := ∃ (p W : Addr) (xs : List V) (l : List Go), v = .ref p ∧ SqT K H' p [.ref W, .str why, .int box] ∧ H W = none ∧ H' W = some (.lst xs) ∧ Steps cm s l ∧ Paired (GoAt K H') xs (l ++ [(s.at_, 0)])
def spLook (K : PySem.W.Frag) (C : Addr) : Sp := fun vs H Q E => ∃ (ap am : Addr) (rs : List Rw) (ms : List Int), vs = [.ref ap, .ref am] ∧ ProgAt K H ap rs ∧ RsOk rs ∧ MillAt K H am ms ∧ MillOk ms ∧
  ((lookAll rs ms).2 = .nil → ∀ H', Same H H' → Q .non H') ∧ ((lookAll rs ms).2 = .many → ∀ H', Same H H' → E (.ref C) none H') ∧
  (∀ s why box, (lookAll rs ms).2 = .at_ s why box → ∀ v H', Same H H' → LookAt K H H' v (lookAll rs ms).1 s why box → Q v H')
abbrev nsLook : List Str := ["program", "mill", "first", "came", "states", "state", "flaw"]
theorem scLook : FnScope nsLook ["program", "mill"] (defScope s_look) := ⟨rfl, rfl, rfl, by decide +kernel, rfl, by decide +kernel, by decide +kernel⟩
theorem ok_look {f tN dS dL tM C : Addr} {fd : FuncData} (F : Fun K "look" "look" s_look f fd) (CP : Cal P w K mg base 4 "check_program" ["program"] (spChkP K)) (CM : Cal P w K mg base 2 "check_mill" ["mill"] (spChkM K)) (BR : Cal P w K mg base 4 "broken" ["program", "mill", "state"] (spBroken K)) (WY : Cal P w K mg base 1 "way_to" ["came", "state"] (spWay P w K))
    (MN : Cal P w K mg base 3 "met_next" ["program", "mill", "states", "came"] (spMet P w K)) (B : Bl2 mg) (G : Gs K w mg dS dL tM) (GN' : GN K mg tN) (GM : GMs mg) (O : OwnE K mg "TooMany" C) : FnOk P w K mg base (L2.CX P w) 5 f fd ["program", "mill"] (spLook K C) := by
  have gN := GN'.1
  refine F.okX scLook (fun vs H Q E h => ?_) (fun cdv A outer s0 H vs Q E hr h => ?_)
  · obtain ⟨ap, am, rs, ms, rfl, _⟩ := h
    rfl
  · obtain ⟨ap, am, rs, ms, rfl, hP, hR, hM, hMo, kNil, kMany, kAt⟩ := h
    have hu := hr.units
    refine ⟨_, (pss_cons (ps_expr (pe_cal CP (hr.mono (by decide)) (pa_cons (pv 0) pa_nil))) (pss_cons (ps_expr (pe_cal CM (hr.mono (by decide)) (pa_cons (pv 1) pa_nil))) (pss_cons (ps_set (i := 2) scLook.nd rfl (Or.inl rfl) (pe_tup (pa_cons pe_int (pa_cons (pe_gref gN) (pa_cons (pe_op op_repT (pe_tup (pa_cons pe_int pa_nil)) (pe_gint G.boxes)) pa_nil))))) (pss_cons (ps_set (i := 3) scLook.nd rfl (Or.inl rfl) (pe_ndisp hu (pv 2) pe_non)) (pss_cons (ps_set (i := 4) scLook.nd rfl (Or.inl rfl) (pe_lst (pa_cons (pv 2) pa_nil))) (pss_cons (ps_while (passes_of (by rfl)) (pt_truth (pv 4) (fun _ => rfl)) (pss_cons (ps_if (pt_cmpR op_gt (pe_callB call_lenN (by rfl) B.b.len PySem.boot_len (pa_cons (pv 3) pa_nil)) (pe_gint GM) (nomark _)) (pss_one (ps_raise rfl (takes_of rfl rfl rfl rfl) (pmk_ownE O))) pss_nil) (pss_cons (ps_for (passes_of (by rfl)) rfl (pi_list (pv 4)) (pg_name (i := 5) scLook.nd rfl (Or.inl rfl)) (pss_cons (ps_set (i := 6) scLook.nd rfl (Or.inl rfl) (pe_cal BR (hr.mono (by decide)) (pa_cons (pv 0) (pa_cons (pv 1) (pa_cons (pv 5) pa_nil))))) (pss_one (ps_if (pt_cmpR op_notN (pv 6) pe_non (nomark _)) (pss_one (ps_ret (pe_tup (pa_cons (pe_cal WY (hr.mono (by decide)) (pa_cons (pv 3) (pa_cons (pv 5) pa_nil))) (pa_cons (pe_ix ix_tup (pv 6) pe_int (fun _ _ => rfl)) (pa_cons (pe_ix ix_tup (pv 6) pe_int (fun _ _ => rfl)) pa_nil)))))) pss_nil)))) (pss_one (ps_set (i := 4) scLook.nd rfl (Or.inl rfl) (pe_cal MN (hr.mono (by decide)) (pa_cons (pv 0) (pa_cons (pv 1) (pa_cons (pv 4) (pa_cons (pv 3) pa_nil)))))))))) (pss_one (ps_ret pe_non)))))))), ?_⟩
    refine ⟨_, rfl, ap, rs, rfl, hP, hR, fun H1 s1 => ?_⟩
    refine ⟨_, rfl, am, ms, rfl, same_tup s1 hM, hMo, fun H2 s2 => ?_⟩
    refine ⟨by show 1 ≤ sizeLine; decide, fun t0 ht0 => ⟨t0, 8, [.int 0], rfl, rfl, tup_of upd_same, by simp, by decide, by decide, by decide, fun t1 ht1 => ⟨by show 3 ≤ sizeLine; decide, fun a0 ha0 => ?_⟩⟩⟩
    have sA := (((s1.trans s2).trans (same_new ht0 (.tup [.int 0]))).trans (same_new ht1 (.tup (List.replicate (8 : Int).toNat [V.int 0]).flatten))).trans (same_new ha0 (.tup [.int 0, .ref tN, .ref t1]))
    have st0 : StAt K _ (.ref a0) first0 := ⟨a0, .ref tN, t1, rfl, tup_of (upd_same (H := upd (upd H2 t0 (.tup [.int 0])) t1 (.tup (List.replicate (8 : Int).toNat [V.int 0]).flatten)) (a := a0) (o := .tup [.int 0, .ref tN, .ref t1])), ⟨tN, rfl, GN'.2.at_⟩, same_tup (same_new ha0 _) (tup_of (by rw [upd_same, rep8]; rfl))⟩
    generalize hHa : upd (upd (upd H2 t0 (.tup [.int 0])) t1 (.tup (List.replicate (8 : Int).toNat [V.int 0]).flatten)) a0 (.tup [.int 0, .ref tN, .ref t1]) = Ha at *
    refine fun d hd => ⟨_, rfl, a0, keyOf first0, rfl, (st_key st0).keep (tk_same (same_new hd _)), keyOf_deep _, upd_same, ?_⟩
    refine ⟨_, rfl, by show 1 ≤ sizeLine; decide, fun aS haS => ?_⟩
    have hHd : H d = none := sA.free hd
    have sB : Same Ha (upd (upd Ha d (.ext (NdObj P w d []))) d (.ext (NdObj P w d [(keyOf first0, a0, .non)]))) := fun b o e => by
      rw [upd_ne (ne_of_none e hd), upd_ne (ne_of_none e hd)]
      exact e
    have hC0 : CameAt P w K (upd (upd Ha d (.ext (NdObj P w d []))) d (.ext (NdObj P w d [(keyOf first0, a0, .non)]))) d [(first0, none)] := ⟨_, ND.made upd_same ((st_key st0).keep (tk_same (same_new hd _))) (keyOf_deep _), .cons ⟨rfl, st_same sB st0, rfl⟩ .nil⟩
    have sC := same_new haS (.lst [.ref a0])
    refine ⟨LkInv P w K H rs ms ap am a0 d, ⟨_, 252, [(first0, none)], [first0], [.ref a0], aS, _, _, rfl, rfl, (sA.trans sB).trans sC, came_same sC hC0, upd_same, .cons (st_same (sB.trans sC) st0) .nil, first_ok hR, rfl, .inr (by decide), by decide, by decide⟩, ?_⟩
    rintro m σ H' ⟨n, cm, ss, vS, aS', v5, v6, rfl, rfl, sH, hC, hS, hSt, hLv, hLk, hcn, hsl, hn⟩
    have hvl := Paired.length hSt
    refine ⟨_, rfl, !vS.isEmpty, .inl ⟨vS, SqL.of hS, rfl⟩, if_both (fun e => ?_) (fun e => ?_)⟩
    · have hne : ss ≠ [] := by
        rintro rfl
        cases vS with
        | nil => cases e
        | cons _ _ => cases hvl
      rw [if_neg hne]
      have hcn2 : 252 ≤ cm.length + n := by
        rcases hcn with q | q
        · exact absurd q hne
        · exact q
      refine ⟨fun σ' H2 => ∃ m', m' < n + 1 ∧ LkInv P w K H rs ms ap am a0 d m' σ' H2, fun _ _ h => h, ?_⟩
      obtain ⟨xs, hN, hPx, hxl⟩ := hC.len
      refine ⟨_, rfl, d, xs, rfl, hN, _, _, rfl, rfl, _, rfl, if_both (fun e2 => ?_) (fun e2 => ?_)⟩
      · have hg : cm.length > 250 := by
          have := of_decide_eq_true e2
          rw [hxl] at this
          omega
        exact kMany (by rw [← hLk]; exact look_many hne hg) H' sH
      · have hle : cm.length ≤ 250 := by
          have := of_decide_eq_false e2
          rw [hxl] at this
          omega
        obtain ⟨n', rfl⟩ : ∃ n', n = n' + 1 := ⟨n - 1, by omega⟩
        refine ⟨_, rfl, aS', rfl, ⟨_, SqL.of hS⟩, for_list (K := K) (a := aS') (xs := vS) (fun j σ' H2 => ∃ v5 v6, σ' = [some (.ref ap), some (.ref am), some (.ref a0), some (.ref d), some (.ref aS'), v5, v6] ∧ Same H' H2 ∧ badOf rs ms (ss.take j) = none)
          ⟨_, _, rfl, fun _ _ z => z, rfl⟩ (fun j σ' H2 _ ⟨_, _, _, s, _⟩ => SqL.of (s _ _ hS)) ?_ ?_⟩
        · rintro j x σ' H3 hx ⟨v5', v6', rfl, s3, hb⟩
          obtain ⟨s, hs, hxs⟩ := paired_get hSt hx
          obtain ⟨⟨h0, h1, h2, h3⟩, l, hl, hln⟩ := hLv s (List.mem_of_getElem? hs)
          obtain ⟨a, u, b, rfl, _⟩ := id hxs
          have hlt : s.at_.toNat < rs.length := by omega
          obtain ⟨r, hr0⟩ : ∃ r, rs[s.at_.toNat]? = some r := ⟨_, List.getElem?_eq_getElem hlt⟩
          have efl : flawOf rs ms s = brOf rs.length ms r s := by unfold flawOf; rw [hr0]
          refine ⟨_, rfl, _, rfl, _, rfl, ap, am, .ref a, rs, ms, s, r, rfl, same_prog (sH.trans s3) hP, same_tup (sH.trans s3) hM, hMo, st_same s3 hxs, h0, hr0, hR.2.2 r (List.mem_of_getElem? hr0), h3, fun v H4 s4 hbr => ?_⟩
          obtain ⟨q1, q2⟩ := badOf_take hs hb
          refine ⟨_, rfl, rfl, _, rfl, ?_⟩
          cases hx2 : brOf rs.length ms r s with
          | none =>
            rw [hx2] at hbr
            obtain rfl : v = .non := hbr
            exact if_f (by rfl) ⟨_, _, rfl, s3.trans s4, q1 (by rw [efl, hx2])⟩
          | some x2 =>
            rw [hx2] at hbr
            obtain ⟨fa, rfl, hfa⟩ := hbr
            refine if_t (by show (!decide (V.ref fa = V.non)) = true; rw [decide_eq_false (by intro z; cases z)]; rfl) ?_
            refine ⟨_, rfl, _, rfl, d, .ref a, cm, s, l, rfl, came_same (s3.trans s4) hC, st_same (s3.trans s4) hxs, hl, by omega, fun D ys H5 s5 hD hDx hgo => ?_⟩
            refine ⟨_, rfl, fa, _, _, _, rfl, rfl, same_tup s5 hfa, rfl, _, rfl, fa, _, _, _, rfl, rfl, same_tup s5 hfa, rfl, by show 3 ≤ sizeLine; decide, fun t ht => ?_⟩
            have efin : lookP rs ms (n' + 1) cm ss = (cm, .at_ s x2.1 x2.2) := look_bad hne hle (q2 x2 (by rw [efl, hx2]))
            have s05 := ((sH.trans s3).trans s4).trans s5
            exact kAt s x2.1 x2.2 (by rw [← hLk, efin]) _ _ (s05.trans (same_new ht _)) ⟨t, D, ys, l, rfl, tup_of upd_same, ((sH.trans s3).trans s4).free hD, same_new ht _ _ _ hDx, by rw [← hLk, efin]; exact hl, paired_imp (fun _ _ => go_same (same_new ht _)) hgo⟩
        · rintro σ' H3 ⟨v5', v6', rfl, s3, hb⟩
          rw [hvl, List.take_length] at hb
          have s03 := sH.trans s3
          refine ⟨_, rfl, _, rfl, _, rfl, _, rfl, ap, am, aS', d, rs, ms, vS, ss, cm, rfl, same_prog s03 hP, hR, same_tup s03 hM, hMo, s3 _ _ hS, paired_imp (fun _ _ => st_same s3) hSt, fun s hs => (hLv s hs).1, came_same s3 hC, hle, by omega, fun D vs H4 k4 hD hDv hst4 hC4 => ?_⟩
          have jn := next_ok (n := 252 - (n' + 1)) hR hMo hLv
          have hlen := jn.len
          have hgo := look_go (n := n') hne hle hb
          refine ⟨_, ?_, n', (nextOf rs ms ss cm).1, (nextOf rs ms ss cm).2, vs, D, _, _, rfl, rfl, fun b o e => k4 b o (ne_of_none e hHd) (s03 _ _ e), hC4, hDv, hst4, ?_, ?_, ?_, by omega, by omega⟩
          · split <;> omega
          · have q := jn.new
            rw [show 252 - (n' + 1) + 1 = 252 - n' by omega] at q
            exact q
          · rw [← hgo]; exact hLk
          · cases hq : (nextOf rs ms ss cm).2 with
            | nil => exact .inl rfl
            | cons y ys =>
              rw [hq, List.length_cons] at hlen
              exact .inr (by omega)
    · have hse : ss = [] := by
        cases vS with
        | nil =>
          cases ss with
          | nil => rfl
          | cons _ _ => cases hvl
        | cons _ _ => cases e
      subst hse
      exact kNil (by rw [← hLk]; exact look_nil rs ms n cm) H' sH
end
end LB
namespace LB
open PySem PySem.Spec PyProof.Rows L2
/-! ### the law's way of telling a bad jump -/
def jbadL (many : Int) (ms : List Int) (r : Rw) (at_ : Int) (g : Go) : Bool := (!decide (g = nog) && r.turns) || (((!decide (g = nog) && decide (1 < g.2)) || (r.to.isSome && decide (0 < jmp ms))) && decide (at_ + 1 = many))
theorem nog_of {g : Go} (h : GoOk g) : g = nog ∨ (¬ g = nog ∧ 0 ≤ g.1 ∧ 1 ≤ g.2) := by
  rcases h with h | ⟨h1, h2⟩
  · exact .inl h
  · refine .inr ⟨fun e => ?_, h1, h2⟩
    rw [e] at h2
    exact absurd h2 (by decide)
theorem Rw.on_turns {r : Rw} (h : r.turns = false) : r.on = true ∧ r.to = none := by
  cases r <;> first | exact ⟨rfl, rfl⟩ | cases h
theorem badPl_to {many at_ q j : Int} (h0 : 0 ≤ at_) (hq : 0 ≤ q ∧ q < many) (hj : 0 ≤ j) (w : Int) : badPl many (w, pBehind at_ (q, j + 1)) = (decide (0 < j) && decide (at_ + 1 = many)) := by
  unfold badPl pBehind
  by_cases e : j + 1 = 1
  · have ej : ¬ 0 < j := by omega
    show (decide ((if j + 1 = 1 then _ else _ : Int × Go).1 = many) && !decide ((if j + 1 = 1 then _ else _ : Int × Go).2 = nog)) = _
    rw [if_pos e, decide_eq_false ej, decide_eq_true (rfl : ((q, nog) : Int × Go).2 = nog)]
    simp
  · have ej : 0 < j := by omega
    have e0 : ¬ j + 1 = 0 := by omega
    have en : ¬ ((q, j + 1 - 1) : Go) = nog := fun z => by
      have := congrArg Prod.fst z
      have h1 : q = -1 := this
      omega
    show (decide ((if j + 1 = 1 then _ else if j + 1 = 0 then _ else _ : Int × Go).1 = many) && !decide ((if j + 1 = 1 then _ else if j + 1 = 0 then _ else _ : Int × Go).2 = nog)) = _
    rw [if_neg e, if_neg e0, decide_eq_false en, decide_eq_true ej]
    simp
theorem badPl_on {many at_ : Int} {g : Go} (h0 : 0 ≤ at_) (hg : GoOk g) (w : Int) : badPl many (w, pBehind at_ g) = ((!decide (g = nog) && decide (1 < g.2)) && decide (at_ + 1 = many)) := by
  rcases nog_of hg with rfl | ⟨e, h1, h2⟩
  · show (decide (at_ + 1 = many) && !decide (nog = nog)) = _
    rw [decide_eq_true (rfl : nog = nog)]
    simp
  · have ee : g = (g.1, (g.2 - 1) + 1) := by
      rw [show g.2 - 1 + 1 = g.2 by omega]
    rw [decide_eq_false e]
    by_cases e1 : g.2 = 1
    · unfold badPl pBehind
      rw [if_pos e1, decide_eq_false (show ¬ 1 < g.2 by omega)]
      show (decide (g.1 = many) && !decide (nog = nog)) = _
      rw [decide_eq_true (rfl : nog = nog)]
      simp
    · have en : ¬ ((g.1, g.2 - 1) : Go) = nog := fun z => by
        have := congrArg Prod.fst z
        have h3 : g.1 = -1 := this
        omega
      unfold badPl pBehind
      rw [if_neg e1, if_neg (show ¬ g.2 = 0 by omega), decide_eq_true (show 1 < g.2 by omega)]
      show (decide (at_ + 1 = many) && !decide (((g.1, g.2 - 1) : Go) = nog)) = _
      rw [decide_eq_false en]
      simp
theorem jbad_law {many at_ : Int} {ms : List Int} {r : Rw} {g : Go} (hM : MillOk ms) (hr : r.ok many) (h0 : 0 ≤ at_) (hg : GoOk g) : jbad many ms r at_ g = jbadL many ms r at_ g := by
  obtain ⟨_, hj, _⟩ := jmp_at hM
  unfold jbad jbadL
  cases e1 : (!decide (g = nog) && r.turns) with
  | true => rfl
  | false =>
    rw [Bool.false_or, Bool.false_or]
    unfold placesOf
    rw [List.any_append]
    have p2 : (match r.to with
      | some q => [((1 : Int), pBehind at_ (q, jmp ms + 1))]
      | none => [] : List Pl).any (badPl many) = ((r.to.isSome && decide (0 < jmp ms)) && decide (at_ + 1 = many)) := by
      cases e : r.to with
      | none => rfl
      | some q =>
        show (badPl many _ || false) = _
        rw [badPl_to h0 (Rw.to_ok hr e) hj, Bool.or_false]
        rfl
    refine (congrArg (fun z => List.any (if r.on = true then [((0 : Int), pBehind at_ g)] else ([] : List Pl)) (badPl many) || z) p2).trans ?_
    show (List.any (if r.on = true then [((0 : Int), pBehind at_ g)] else ([] : List Pl)) (badPl many) || ((r.to.isSome && decide (0 < jmp ms)) && decide (at_ + 1 = many))) = _
    cases ho : r.on with
    | true =>
      rw [if_pos rfl]
      show ((badPl many _ || false) || _) = _
      rw [badPl_on h0 hg, Bool.or_false]
      cases (!decide (g = nog) && decide (1 < g.2)) <;> cases (r.to.isSome && decide (0 < jmp ms)) <;> cases decide (at_ + 1 = many) <;> rfl
    | false =>
      rw [if_neg Bool.false_ne_true]
      have ht : r.turns = true := by cases r <;> first | rfl | cases ho
      rw [ht, Bool.and_true] at e1
      rw [e1]
      rfl
end LB
namespace LB
open PySem PySem.Spec PyProof.Rows L2
/-! ### a state as the law keeps it: None for no going, else (in how many beats, its row) -/
def LGoAt (K : PySem.W.Frag) (H : Hp) (u : V) (g : Go) : Prop := if g = nog then u = .non else ∃ c, u = .ref c ∧ SqT K H c [.int g.2, .int g.1]
def LStAt (K : PySem.W.Frag) (H : Hp) (v : V) (s : Sx) : Prop := ∃ a u b, v = .ref a ∧ SqT K H a [.int s.at_, u, .ref b] ∧ LGoAt K H u s.going ∧ SqT K H b (s.waits.map V.int)
theorem tk_lgo {K : PySem.W.Frag} {H H' : Hp} (s : TK H H') {v : V} {g : Go} (h : LGoAt K H v g) : LGoAt K H' v g := by
  unfold LGoAt at h ⊢
  by_cases e : g = nog
  · rw [if_pos e] at h ⊢
    exact h
  · rw [if_neg e] at h ⊢
    obtain ⟨c, e1, q⟩ := h
    exact ⟨c, e1, tk_tup s q⟩
theorem tk_lst_ {K : PySem.W.Frag} {H H' : Hp} (s : TK H H') {v : V} {x : Sx} (h : LStAt K H v x) : LStAt K H' v x := by
  obtain ⟨a, u, b, e, q, g, w⟩ := h
  exact ⟨a, u, b, e, tk_tup s q, tk_lgo s g, tk_tup s w⟩
theorem lgo_non {K : PySem.W.Frag} {H : Hp} {u : V} {g : Go} (h : LGoAt K H u g) : (!decide (u = V.non)) = !decide (g = nog) := by
  unfold LGoAt at h
  by_cases e : g = nog
  · rw [if_pos e] at h
    rw [h, decide_eq_true e]
    rfl
  · rw [if_neg e] at h
    obtain ⟨c, e1, _⟩ := h
    rw [e1, decide_eq_false e, decide_eq_false (by intro z; cases z)]
theorem Rw.box_val {r : Rw} {b : Int} (h : r.box = some b) : atI r.vals 1 = some (.int b) := by cases r <;> first | (cases h; rfl) | cases h
theorem seqcutT {t u : TS} {D : Ends} {σ : L2.St} {H : Hp} (G : L2.St → Hp → Prop) (h : ∀ D' : Ends, D'.rt = D.rt → (∀ σ' H', G σ' H' → D'.nx σ' H') → t D' σ H) (k : ∀ σ' H', G σ' H' → u D σ' H') : tSeq t u D σ H := h _ rfl k
theorem early_find (ws : List Int) (xs : List Int) : xs.find? (earlyB ws) = (xs.filter (earlyB ws)).head? := by rw [List.head?_filter]
section
variable {P : Program} {w : World} {K : PySem.W.Frag} {mg : Str → Option Value} {base : Heap}
def spLBroken (K : PySem.W.Frag) : Sp := fun vs H Q _ => ∃ (ap am : Addr) (v : V) (rs : List Rw) (ms : List Int) (s : Sx) (r : Rw), vs = [.ref ap, .ref am, v] ∧ ProgAt K H ap rs ∧ MillAt K H am ms ∧ MillOk ms ∧ LStAt K H v s ∧ SOk rs s ∧ rs[s.at_.toNat]? = some r ∧ r.ok rs.length ∧
  ∀ v H', Same H H' → BrAt K H' v (brOf rs.length ms r s) → Q v H'
abbrev nsLBr : List Str := ["_law_program", "_law_mill_here", "_law_state", "_law_here", "_law_going", "_law_waits", "_law_row", "_law_early", "_law_k", "_law_under", "_law_left", "_law_box"]
theorem scLBr : FnScope nsLBr ["_law_program", "_law_mill_here", "_law_state"] (defScope s__law_broken) := ⟨rfl, rfl, rfl, by decide +kernel, rfl, by decide +kernel, by decide +kernel⟩
theorem ok_lbroken {f : Addr} {fd : FuncData} (F : Fun K "_law_broken" "_law_broken" s__law_broken f fd) (LK : Cal P w K mg base 1 "_law_looks" ["_law_row"] (spLooked K)) (LT : Cal P w K mg base 1 "_law_late" psLLate (spLLate K)) (B : Bl2 mg) : FnOk P w K mg base CX0 2 f fd ["_law_program", "_law_mill_here", "_law_state"] (spLBroken K) := by
  refine F.ok scLBr (fun vs H Q E h => ?_) (fun cdv A outer s0 H vs Q E hr h => ?_)
  · obtain ⟨ap, am, v, rs, ms, s, r, rfl, _⟩ := h
    rfl
  · obtain ⟨ap, am, v, rs, ms, s, r, rfl, hP, hM, hMo, hSt, ⟨h0, h1, hg, hw8⟩, hr0, hrok, k⟩ := h
    obtain ⟨vsP, hTP, hlP, hgP⟩ := id hP
    obtain ⟨a, u, b, rfl, hS, hG, hW⟩ := id hSt
    refine ⟨_, (pss_cons (ps_asg (pv 2) (pg_tup rfl (pgs_cons (pg_name (i := 3) scLBr.nd rfl (Or.inl rfl)) (pgs_cons (pg_name (i := 4) scLBr.nd rfl (Or.inl rfl)) (pgs_cons (pg_name (i := 5) scLBr.nd rfl (Or.inr rfl)) pgs_nil))))) (pss_cons (ps_set (i := 6) scLBr.nd rfl (Or.inl rfl) (pe_ix ix_tup (pv 0) (pv 3) (fun _ _ => rfl))) (pss_cons (ps_setLc (i := 7) (own := [("_law_box", 11)]) (g := gName 11) (by rfl) scLBr.nd rfl rfl (sw_true rfl rfl rfl (by decide +kernel)) (pi_list (pe_cal LK (hr.mono (by decide)) (pa_cons (pv 6) pa_nil))) (blkOk_by (own := [("_law_box", 11)]) (N := nsLBr) (sc := defScope s__law_broken) (by decide +kernel)) (fun _ _ _ _ _ => (pg_name (i := 11) scLBr.nd rfl (Or.inl rfl))) (fun _ _ _ _ _ => pts_one (pt_cmpR op_gt (pe_ix (show IxR _ (rIxT K) from ix_tup) (pv 5) (pv 11) (fun _ _ => rfl)) pe_int (nomark _))) (fun _ _ _ _ _ => (pv 11))) (pss_cons (ps_if (pt_cmpR (op_neD hr.units) (pv 7) (pe_lst pa_nil) (nomark _)) (pss_one (ps_ret (pe_tup (pa_cons pe_str (pa_cons (pe_ix ix_list (pv 7) pe_int (fun _ _ => rfl)) pa_nil))))) pss_nil) (pss_cons (ps_set (i := 8) scLBr.nd rfl (Or.inl rfl) (pe_cal LT (hr.mono (by decide)) (pa_cons (pv 6) (pa_cons (pv 1) pa_nil)))) (pss_cons (ps_if (PW.pt (pw_and (pt_cmpR op_ge (pv 8) pe_int (nomark _)) (pw_and1 (pt_cmpR op_gt (pe_ix ix_tup (pv 5) (pe_ix ix_tup (pv 6) pe_int (fun _ _ => rfl)) (fun _ _ => rfl)) (pv 8) (nomark _))))) (pss_one (ps_ret (pe_tup (pa_cons pe_str (pa_cons (pe_ix ix_tup (pv 6) pe_int (fun _ _ => rfl)) pa_nil))))) pss_nil) (pss_cons (ps_set (i := 9) scLBr.nd rfl (Or.inl rfl) (pe_cmpR op_notN (pv 4) pe_non (nomark _))) (pss_cons (ps_if (PW.pt (pw_and (pt_val (pv 9)) (pw_and1 (pt_cmpR op_in_seq (pe_ix ix_tup (pv 6) pe_int (fun _ _ => rfl)) (pe_tup (pa_cons pe_str (pa_cons pe_str (pa_cons pe_str pa_nil)))) (by rfl))))) (pss_one (ps_ret (pe_tup (pa_cons pe_str (pa_cons (pe_un un_neg pe_int) pa_nil))))) pss_nil) (pss_cons (ps_set (i := 10) scLBr.nd rfl (Or.inl rfl) (pe_or (pe_and (pv 9) (pe_one (pe_cmpR op_gt (pe_ix ix_tup (pv 4) pe_int (fun _ _ => rfl)) pe_int (nomark _)))) (pe_one (pe_and (pe_cmpR op_in_seq (pe_ix ix_tup (pv 6) pe_int (fun _ _ => rfl)) (pe_tup (pa_cons pe_str (pa_cons pe_str pa_nil))) (by rfl)) (pe_one (pe_cmpR op_gt (pe_ix ix_tup (pv 1) pe_int (fun _ _ => rfl)) pe_int (nomark _))))))) (pss_one (ps_ret (pe_ifExp (PW.pt (pw_and (pt_val (pv 10)) (pw_and1 (pt_cmpR op_eq (pe_op op_add (pv 3) pe_int) (pe_callB call_len_seq (by rfl) B.b.len PySem.boot_len (pa_cons (pv 0) pa_nil)) (nomark _))))) (pe_tup (pa_cons pe_str (pa_cons (pe_un un_neg pe_int) pa_nil))) pe_non)))))))))))), ?_⟩
    refine ⟨_, rfl, a, _, rfl, hS, rfl, .int s.at_, [u, .ref b], rfl, u, [.ref b], rfl, .ref b, [], rfl, rfl, ?_⟩
    obtain ⟨v, hv, ra, rfl, hrT⟩ := hgP _ _ hr0
    refine ⟨_, rfl, _, rfl, ap, _, _, .ref ra, rfl, rfl, hTP, at_of (j := s.at_.toNat) (by omega) hv, ?_⟩
    refine ⟨_, rfl, .ref ra, r, rfl, ⟨ra, rfl, hrT⟩, fun D0 H1 nD0 s1 hD0 => ?_⟩
    refine ⟨D0, rfl, ⟨_, SqL.of hD0⟩, fun D hD => ?_⟩
    have hle := r.looks_len
    refine lc_list (K := K) (xs := r.looks.map V.int) (fun i H' => Same H1 H' ∧ H' D = some (.lst (((r.looks.take i).filter (earlyB s.waits)).map V.int))) ⟨same_new hD _, upd_same⟩ (fun i H' _ h => SqL.of (h.1 _ _ hD0)) ?_ ?_
    · rintro i x H2 hx ⟨s2, hD2⟩
      obtain ⟨z, hz, rfl⟩ := map_get hx
      have hbx := Rw.looks_ok hrok z (List.mem_of_getElem? hz)
      have estep : (r.looks.take (i + 1)).filter (earlyB s.waits) = (r.looks.take i).filter (earlyB s.waits) ++ (if earlyB s.waits z = true then [z] else []) := by
        rw [List.take_add_one, hz, List.filter_append]
        cases hq : earlyB s.waits z <;> simp [hq]
      refine ⟨rfl, ?_⟩
      refine ⟨_, rfl, _, rfl, b, _, _, _, rfl, rfl, same_tup (s1.trans s2) hW, wait_at hbx hw8, _, _, rfl, rfl, _, rfl, if_both (fun e => ?_) (fun e => ?_)⟩
      · have e' : earlyB s.waits z = true := e
        refine ⟨_, rfl, _, hD2, ?_, fun c o zz => ?_, ?_⟩
        · rw [List.length_map]
          have h2 := List.length_filter_le (earlyB s.waits) (r.looks.take i)
          rw [List.length_take] at h2
          have h3 := Nat.min_le_right i r.looks.length
          exact small1000 (by omega)
        · rw [upd_ne (ne_of_none zz hD)]
          exact s2 _ _ zz
        · rw [upd_same, estep, if_pos e', List.map_append]
          rfl
      · have e' : ¬ earlyB s.waits z = true := by intro q; have e2 : earlyB s.waits z = false := e; rw [q] at e2; cases e2
        refine ⟨s2, ?_⟩
        rw [estep, if_neg e', List.append_nil]
        exact hD2
    rintro H2 ⟨s2, hD2⟩
    rw [List.length_map, List.take_length] at hD2
    have s12 := s1.trans s2
    have kB : ∀ x H', brOf rs.length ms r s = x → Same H H' → ∀ w, BrAt K H' w x → Q w H' := fun x H' e sm w hw => k w H' sm (by rw [e]; exact hw)
    have hfind := early_find s.waits r.looks
    have w0 : atI r.vals 0 = some (.str r.word) := by rw [r.vals_eq]; exact atI_nat (j := 0) rfl
    refine ⟨_, rfl, by show 0 ≤ sizeLine; decide, fun L0 hL0 => ?_⟩
    have sL := same_new hL0 (.lst [])
    refine ⟨.list ((r.looks.filter (earlyB s.waits)).map PyData.int), .list (([] : List Int).map PyData.int), Dp.ints (SqL.of (sL _ _ hD2)), Dp.ints (SqL.of upd_same), shaped_ints _, shaped_ints [], _, rfl, ?_⟩
    rw [eqv_lists]
    refine if_both (fun e => ?_) (fun e => ?_)
    · cases hf : r.looks.filter (earlyB s.waits) with
      | nil =>
        rw [hf] at e
        exact absurd e (by decide)
      | cons z zs =>
        rw [hf] at hD2 hfind
        refine ⟨_, rfl, D, _, _, _, rfl, rfl, SqL.of (sL _ _ hD2), (show atI ((z :: zs).map V.int) 0 = some (.int z) from atI_nat (j := 0) rfl), by show 2 ≤ sizeLine; decide, fun t ht => kB (some ("early", z)) _ (by unfold brOf; rw [hfind]; rfl) ((s12.trans sL).trans (same_new ht _)) _ ⟨t, rfl, tup_of upd_same⟩⟩
    have hf : r.looks.filter (earlyB s.waits) = [] := by
      cases hf : r.looks.filter (earlyB s.waits) with
      | nil => rfl
      | cons z zs =>
        rw [hf] at e
        cases e
    rw [hf] at hfind
    have kO : ∀ x, (match overAt ms r s.waits with
      | some b => some ("over", b)
      | none => if jbad rs.length ms r s.at_ s.going = true then some ("jump", -1) else none) = x → brOf rs.length ms r s = x := fun x e => by unfold brOf; rw [hfind]; exact e
    have s2L := s12.trans sL
    refine ⟨_, rfl, _, rfl, .ref ra, r, am, ms, rfl, ⟨ra, rfl, same_tup s2L hrT⟩, same_tup s2L hM, hMo, fun H3 s3 => ?_⟩
    have sH3 := s2L.trans s3
    refine seqcut (fun σ2 H4 => Same H H4 ∧ overAt ms r s.waits = none ∧ ∃ v8 v11, σ2 = [some (.ref ap), some (.ref am), some (.ref a), some (.int s.at_), some u, some (.ref b), some (.ref ra), some (.ref D), v8, none, none, v11]) (fun D' hrt kD => ?_) ?_
    · refine ⟨_, rfl, _, _, rfl, rfl, _, rfl, ?_⟩
      cases hbo : r.box with
      | none =>
        have hx : r.lix.isSome = false := by rw [← r.box_lix, hbo]; rfl
        have hli : lateI ms r = -1 := by
          unfold lateI
          cases q : r.lix with
          | none => rfl
          | some _ => rw [q] at hx; cases hx
        exact if_f (by rw [hli]; rfl) (if_f (b := false) rfl (kD _ _ ⟨sH3, by unfold overAt; rw [hbo], _, _, rfl⟩))
      | some bb =>
        have hx : r.lix.isSome = true := by rw [← r.box_lix, hbo]; rfl
        have hbx := Rw.box_ok hrok hbo
        have hli : lateI ms r = (lateOf ms r : Int) := by
          unfold lateI
          cases q : r.lix with
          | none => rw [q] at hx; cases hx
          | some _ => rfl
        refine if_t (decide_eq_true (by rw [hli]; omega)) ?_
        refine ⟨_, rfl, _, rfl, ra, _, _, _, rfl, rfl, same_tup sH3 hrT, Rw.box_val hbo, b, _, _, _, rfl, rfl, same_tup sH3 hW, wait_at hbx hw8, _, rfl, _, _, rfl, rfl, _, rfl, if_both (fun e => ?_) (fun e => ?_)⟩
        · have e' := of_decide_eq_true e
          rw [hli] at e'
          have eo : overAt ms r s.waits = some bb := by
            unfold overAt
            rw [hbo]
            exact if_pos (by omega)
          refine ⟨_, rfl, ra, _, _, _, rfl, rfl, same_tup sH3 hrT, Rw.box_val hbo, by show 2 ≤ sizeLine; decide, fun t ht => ?_⟩
          rw [hrt]
          exact kB (some ("over", bb)) _ (kO _ (by rw [eo])) (sH3.trans (same_new ht _)) _ ⟨t, rfl, tup_of upd_same⟩
        · have e' := of_decide_eq_false e
          rw [hli] at e'
          refine kD _ _ ⟨sH3, ?_, _, _, rfl⟩
          unfold overAt
          rw [hbo]
          exact if_neg (by omega)
    rintro σ2 H4 ⟨s4, eo, v8, v11, rfl⟩
    have kJ : brOf rs.length ms r s = if jbadL rs.length ms r s.at_ s.going = true then some (("jump" : Str), (-1 : Int)) else (none : Br) := kO _ (by rw [eo, jbad_law hMo hrok h0 hg])
    refine ⟨_, rfl, rfl, ?_⟩
    have eu := lgo_non hG
    rw [eu]
    refine seqcut (fun σ2 H5 => Same H H5 ∧ (!decide (s.going = nog) && r.turns) = false ∧ σ2 = [some (.ref ap), some (.ref am), some (.ref a), some (.int s.at_), some u, some (.ref b), some (.ref ra), some (.ref D), v8, some (.bl (!decide (s.going = nog))), none, v11]) (fun D' hrt kD => ?_) ?_
    · refine ⟨_, rfl, _, rfl, if_both (fun e2 => ?_) (fun e2 => ?_)⟩
      · refine ⟨_, rfl, ra, _, _, _, rfl, rfl, same_tup s4 hrT, w0, by show 3 ≤ sizeLine; decide, fun T hT => ⟨T, _, rfl, .inr (tup_of upd_same), rfl, rfl, _, rfl, ?_⟩⟩
        have sT := s4.trans (same_new hT (.tup [.str "go", .str "if", .str "stop"]))
        have ek := r.turns_in
        refine if_both (fun e3 => ?_) (fun e3 => ?_)
        · have e4 : r.turns = true := by rw [← ek]; exact e3
          refine ⟨_, rfl, by show 2 ≤ sizeLine; decide, fun t ht => ?_⟩
          rw [hrt]
          exact kB (some ("jump", -1)) _ (by rw [kJ]; unfold jbadL; rw [e2, e4]; rfl) (sT.trans (same_new ht _)) _ ⟨t, rfl, tup_of upd_same⟩
        · have e4 : r.turns = false := by rw [← ek]; exact e3
          exact kD _ _ ⟨sT, by rw [e4, Bool.and_false], rfl⟩
      · exact if_f (b := false) rfl (kD _ _ ⟨s4, by rw [e2]; rfl, rfl⟩)
    rintro σ2 H5 ⟨s5, hfirst, rfl⟩
    obtain ⟨lf, hleft⟩ : ∃ lf, lf = ((!decide (s.going = nog) && decide (1 < s.going.2)) || (r.to.isSome && decide (0 < jmp ms))) := ⟨_, rfl⟩
    refine seqcutT (fun σ2 H6 => Same H H6 ∧ ∃ c, lf = c ∧ σ2 = [some (.ref ap), some (.ref am), some (.ref a), some (.int s.at_), some u, some (.ref b), some (.ref ra), some (.ref D), v8, some (.bl (!decide (s.going = nog))), some (.bl c), v11]) (fun D' hrt kD => ?_) ?_
    · refine ⟨_, rfl, _, rfl, if_both (fun e => ?_) (fun e => ?_)⟩
      · have en : ¬ s.going = nog := fun z => by rw [z] at e; cases e
        have hG' := hG
        unfold LGoAt at hG'
        rw [if_neg en] at hG'
        obtain ⟨c, rfl, hc⟩ := hG'
        refine ⟨_, rfl, c, _, _, _, rfl, rfl, same_tup s5 hc, rfl, _, _, rfl, rfl, _, rfl, if_both (fun e2 => ?_) (fun e2 => ?_)⟩
        · exact kD _ _ ⟨s5, true, by rw [hleft, e, e2]; rfl, rfl⟩
        · have e12 : (!decide (s.going = nog) && decide (1 < s.going.2)) = false := by rw [e2, Bool.and_false]
          refine ⟨_, rfl, ra, _, _, _, rfl, rfl, same_tup s5 hrT, w0, by show 2 ≤ sizeLine; decide, fun T hT => ⟨T, _, rfl, .inr (tup_of upd_same), rfl, rfl, _, rfl, ?_⟩⟩
          have s6 := s5.trans (same_new hT (.tup [.str "go", .str "if"]))
          have ek := r.to_in
          refine if_both (fun e3 => ?_) (fun e3 => ?_)
          · have e4 : r.to.isSome = true := by rw [← ek]; exact e3
            exact ⟨_, rfl, am, _, _, _, rfl, rfl, same_tup s6 hM, (jmp_at hMo).1, _, _, rfl, rfl, kD _ _ ⟨s6, _, by rw [hleft, e12, e4]; rfl, rfl⟩⟩
          · have e4 : r.to.isSome = false := by rw [← ek]; exact e3
            exact kD _ _ ⟨s6, _, by rw [hleft, e12, e4]; rfl, rfl⟩
      · have e12 : (!decide (s.going = nog) && decide (1 < s.going.2)) = false := by rw [e]; rfl
        refine ⟨_, rfl, if_f (b := false) rfl ?_⟩
        refine ⟨_, rfl, ra, _, _, _, rfl, rfl, same_tup s5 hrT, w0, by show 2 ≤ sizeLine; decide, fun T hT => ⟨T, _, rfl, .inr (tup_of upd_same), rfl, rfl, _, rfl, ?_⟩⟩
        have s6 := s5.trans (same_new hT (.tup [.str "go", .str "if"]))
        have ek := r.to_in
        refine if_both (fun e3 => ?_) (fun e3 => ?_)
        · have e4 : r.to.isSome = true := by rw [← ek]; exact e3
          exact ⟨_, rfl, am, _, _, _, rfl, rfl, same_tup s6 hM, (jmp_at hMo).1, _, _, rfl, rfl, kD _ _ ⟨s6, _, by rw [hleft, e12, e4]; rfl, rfl⟩⟩
        · have e4 : r.to.isSome = false := by rw [← ek]; exact e3
          exact kD _ _ ⟨s6, _, by rw [hleft, e12, e4]; rfl, rfl⟩
    rintro σ2 H6 ⟨s6, c, hc, rfl⟩
    have kJ2 : brOf rs.length ms r s = if (c && decide (s.at_ + 1 = (rs.length : Int))) = true then some (("jump" : Str), (-1 : Int)) else (none : Br) := by
      rw [kJ]
      unfold jbadL
      rw [hfirst, Bool.false_or, ← hleft, hc]
    have e1 : decide (V.int (s.at_ + 1) = V.int (vsP.length : Int)) = decide (s.at_ + 1 = (rs.length : Int)) := by
      rw [hlP]
      by_cases z : s.at_ + 1 = (rs.length : Int)
      · rw [decide_eq_true z, decide_eq_true (congrArg V.int z)]
      · rw [decide_eq_false z, decide_eq_false fun q => z (V.int.inj q)]
    refine ⟨_, rfl, _, rfl, if_both (fun e2 => ?_) (fun e2 => ?_)⟩
    · refine ⟨_, rfl, _, _, rfl, rfl, _, rfl, ap, _, rfl, .inr (same_tup s6 hTP), rfl, _, rfl, ?_⟩
      rw [e1]
      refine if_both (fun e3 => ?_) (fun e3 => ?_)
      · exact ⟨_, rfl, by show 2 ≤ sizeLine; decide, fun t ht => kB (some ("jump", -1)) _ (by rw [kJ2, e2, e3]; rfl) (s6.trans (same_new ht _)) _ ⟨t, rfl, tup_of upd_same⟩⟩
      · exact kB none _ (by rw [kJ2, e3, Bool.and_false]; rfl) s6 _ rfl
    · exact if_f (b := false) rfl (kB none _ (by rw [kJ2, e2]; rfl) s6 _ rfl)
end
end LB
namespace LB
open PySem PySem.Spec PyProof.Rows L2
/-! ### what may come behind a state, as the law tells it -/
def Rw.isStop : Rw → Bool
  | .stop => true
  | _ => false
theorem Rw.isStop_eq (r : Rw) : decide (V.str r.word = V.str "stop") = r.isStop := by
  cases r with
  | put b n => show decide (V.str "put" = V.str "stop") = false; decide +kernel
  | move b c => show decide (V.str "move" = V.str "stop") = false; decide +kernel
  | add b c d => show decide (V.str "add" = V.str "stop") = false; decide +kernel
  | take b c d => show decide (V.str "take" = V.str "stop") = false; decide +kernel
  | times b c d => show decide (V.str "times" = V.str "stop") = false; decide +kernel
  | get b c => show decide (V.str "get" = V.str "stop") = false; decide +kernel
  | set c d => show decide (V.str "set" = V.str "stop") = false; decide +kernel
  | say c => show decide (V.str "say" = V.str "stop") = false; decide +kernel
  | rest => show decide (V.str "rest" = V.str "stop") = false; decide +kernel
  | go q => show decide (V.str "go" = V.str "stop") = false; decide +kernel
  | iff c q => show decide (V.str "if" = V.str "stop") = false; decide +kernel
  | stop => show decide (V.str "stop" = V.str "stop") = true; decide +kernel
theorem Rw.notgo_eq (r : Rw) (h : r.isStop = false) : (!decide (V.str r.word = V.str "go")) = r.on := by
  cases r with
  | put b n => show (!decide (V.str "put" = V.str "go")) = true; decide +kernel
  | move b c => show (!decide (V.str "move" = V.str "go")) = true; decide +kernel
  | add b c d => show (!decide (V.str "add" = V.str "go")) = true; decide +kernel
  | take b c d => show (!decide (V.str "take" = V.str "go")) = true; decide +kernel
  | times b c d => show (!decide (V.str "times" = V.str "go")) = true; decide +kernel
  | get b c => show (!decide (V.str "get" = V.str "go")) = true; decide +kernel
  | set c d => show (!decide (V.str "set" = V.str "go")) = true; decide +kernel
  | say c => show (!decide (V.str "say" = V.str "go")) = true; decide +kernel
  | rest => show (!decide (V.str "rest" = V.str "go")) = true; decide +kernel
  | go q => show (!decide (V.str "go" = V.str "go")) = false; decide +kernel
  | iff c q => show (!decide (V.str "if" = V.str "go")) = true; decide +kernel
  | stop => cases h
theorem Rw.stop_no {r : Rw} (h : r.isStop = true) : r.on = false ∧ r.to = none := by cases r <;> first | exact ⟨rfl, rfl⟩ | cases h
abbrev Way := Int × Go
def waysOf (ms : List Int) (r : Rw) (g : Go) : List Way := (if r.on = true then [((0 : Int), g)] else [] : List Way) ++ (match r.to with
  | some q => [((1 : Int), ((q, jmp ms + 1) : Go))]
  | none => [] : List Way)
theorem ways_places (ms : List Int) (r : Rw) (at_ : Int) (g : Go) : placesOf ms r at_ g = (waysOf ms r g).map fun x => (x.1, pBehind at_ x.2) := by
  unfold placesOf waysOf
  cases r.to <;> by_cases e : r.on = true <;> simp [e]
theorem waysOf_len (ms : List Int) (r : Rw) (g : Go) : (waysOf ms r g).length ≤ 2 := by
  unfold waysOf
  cases r.to <;> split <;> simp
def behindOf (ms : List Int) (r : Rw) (s : Sx) (x : Way) : Int × Sx := (x.1, freshOf ms r s (x.1, pBehind s.at_ x.2))
def onwardOf (rs : List Rw) (ms : List Int) (r : Rw) (s : Sx) : List (Int × Sx) := ((waysOf ms r s.going).map (behindOf ms r s)).filter fun x => decide (x.2.at_ < rs.length)
theorem onward_stop {rs : List Rw} {ms : List Int} {r : Rw} {s : Sx} (h : r.isStop = true) : onwardOf rs ms r s = [] := by
  obtain ⟨h1, h2⟩ := Rw.stop_no h
  unfold onwardOf waysOf
  rw [h1, h2]
  rfl
def LPairAt (K : PySem.W.Frag) (H : Hp) (v : V) (x : Int × Sx) : Prop := ∃ a u, v = .ref a ∧ SqT K H a [.int x.1, u] ∧ LStAt K H u x.2
def LWayAt (K : PySem.W.Frag) (H : Hp) (v : V) (x : Way) : Prop := ∃ a u, v = .ref a ∧ SqT K H a [.int x.1, u] ∧ LGoAt K H u x.2
theorem tk_lpair {K : PySem.W.Frag} {H H' : Hp} (s : TK H H') {v : V} {x : Int × Sx} (h : LPairAt K H v x) : LPairAt K H' v x := by
  obtain ⟨a, u, e, q, g⟩ := h
  exact ⟨a, u, e, tk_tup s q, tk_lst_ s g⟩
theorem tk_lway {K : PySem.W.Frag} {H H' : Hp} (s : TK H H') {v : V} {x : Way} (h : LWayAt K H v x) : LWayAt K H' v x := by
  obtain ⟨a, u, e, q, g⟩ := h
  exact ⟨a, u, e, tk_tup s q, tk_lgo s g⟩
theorem seqcutN {t u : TS} {D : Ends} {σ : L2.St} {H : Hp} (G : L2.St → Hp → Prop) (h : ∀ D' : Ends, D'.rt = D.rt → (∀ σ' H', G σ' H' → D'.nx σ' H') → t D' σ H) (k : ∀ σ' H', G σ' H' → u D σ' H') : tNext ({ D with nx := tSeq t u D } : Ends) σ H := h _ rfl k
theorem ways_ok {ms : List Int} {r : Rw} {many : Int} {g : Go} (hM : MillOk ms) (hr : r.ok many) (hg : GoOk g) : ∀ x ∈ waysOf ms r g, GoOk x.2 := by
  intro x hx
  unfold waysOf at hx
  rcases List.mem_append.mp hx with h | h
  · by_cases e : r.on = true
    · rw [if_pos e] at h
      rw [List.mem_singleton.mp h]
      exact hg
    · rw [if_neg e] at h
      cases h
  · cases e : r.to with
    | none =>
      rw [e] at h
      cases h
    | some q =>
      rw [e] at h
      rw [List.mem_singleton.mp h]
      have := (jmp_at hM).2.1
      exact .inr ⟨(Rw.to_ok hr e).1, by show 1 ≤ jmp ms + 1; omega⟩
theorem waits_law (ms : List Int) (r : Rw) (ws : List Int) : waitsOf ms r ws = match r.box with
  | some b => (ws.map less1).set b.toNat (lateOf ms r)
  | none => ws.map less1 := rfl
section
variable {P : Program} {w : World} {K : PySem.W.Frag} {mg : Str → Option Value} {base : Heap}
def spLOn (K : PySem.W.Frag) : Sp := fun vs H Q _ => ∃ (ap am : Addr) (v : V) (rs : List Rw) (ms : List Int) (s : Sx) (r : Rw), vs = [.ref ap, .ref am, v] ∧ ProgAt K H ap rs ∧ MillAt K H am ms ∧ MillOk ms ∧ LStAt K H v s ∧ SOk rs s ∧ rs[s.at_.toNat]? = some r ∧ r.ok rs.length ∧
  ∀ (D : Addr) (xs : List V) (H' : Hp), Same H H' → H D = none → H' D = some (.lst xs) → Paired (LPairAt K H') xs (onwardOf rs ms r s) → Q (.ref D) H'
abbrev nsLOn : List Str := ["_law_program", "_law_mill_here", "_law_state", "_law_here", "_law_going", "_law_waits", "_law_row", "_law_ways", "_law_found", "_law_went", "_law_left", "_law_one"]
theorem scLOn : FnScope nsLOn ["_law_program", "_law_mill_here", "_law_state"] (defScope s__law_onward) := ⟨rfl, rfl, rfl, by decide +kernel, rfl, by decide +kernel, by decide +kernel⟩
theorem ok_lon {f : Addr} {fd : FuncData} (F : Fun K "_law_onward" "_law_onward" s__law_onward f fd) (LT : Cal P w K mg base 1 "_law_late" psLLate (spLLate K)) (B : Bl2 mg) : FnOk P w K mg base CX0 2 f fd ["_law_program", "_law_mill_here", "_law_state"] (spLOn K) := by
  refine F.ok scLOn (fun vs H Q E h => ?_) (fun cdv A outer s0 H vs Q E hr h => ?_)
  · obtain ⟨ap, am, v, rs, ms, s, r, rfl, _⟩ := h
    rfl
  · obtain ⟨ap, am, v, rs, ms, s, r, rfl, hP, hM, hMo, hSt, ⟨h0, h1, hg, hw8⟩, hr0, hrok, k⟩ := h
    obtain ⟨vsP, hTP, hlP, hgP⟩ := id hP
    obtain ⟨a, u, b, rfl, hS, hG, hW⟩ := id hSt
    refine ⟨_, (pss_cons (ps_asg (pv 2) (pg_tup rfl (pgs_cons (pg_name (i := 3) scLOn.nd rfl (Or.inl rfl)) (pgs_cons (pg_name (i := 4) scLOn.nd rfl (Or.inl rfl)) (pgs_cons (pg_name (i := 5) scLOn.nd rfl (Or.inl rfl)) pgs_nil))))) (pss_cons (ps_set (i := 6) scLOn.nd rfl (Or.inl rfl) (pe_ix ix_tup (pv 0) (pv 3) (fun _ _ => rfl))) (pss_cons (ps_setLc (i := 5) (own := [("_law_one", 11)]) (g := gName 11) (by rfl) scLOn.nd rfl rfl (sw_true rfl rfl rfl (by decide +kernel)) (pi_tup (pv 5)) (blkOk_by (own := [("_law_one", 11)]) (N := nsLOn) (sc := defScope s__law_onward) (by decide +kernel)) (fun _ _ _ _ _ => (pg_name (i := 11) scLOn.nd rfl (Or.inl rfl))) (fun _ _ _ _ _ => pts_nil) (fun _ _ _ _ _ => (pe_callB (call_max2 rfl) (by rfl) B.b.max (by decide +kernel) (pa_cons pe_int (pa_cons (pe_op op_sub (pv 11) pe_int) pa_nil))))) (pss_cons (ps_if (pt_cmpR op_ge (pe_cal LT (hr.mono (by decide)) (pa_cons (pv 6) (pa_cons (pv 1) pa_nil))) pe_int (nomark _)) (pss_one (ps_asg (pe_cal LT (hr.mono (by decide)) (pa_cons (pv 6) (pa_cons (pv 1) pa_nil))) (pg_sub (pv 5) (pe_ix ix_tup (pv 6) pe_int (fun _ _ => rfl)) set_list))) pss_nil) (pss_cons (ps_if (pt_cmpR op_eq (pe_ix ix_tup (pv 6) pe_int (fun _ _ => rfl)) pe_str (nomark _)) (pss_one (ps_ret (pe_lst pa_nil))) pss_nil) (pss_cons (ps_set (i := 7) scLOn.nd rfl (Or.inl rfl) (pe_ifExp (pt_cmpR op_ne (pe_ix ix_tup (pv 6) pe_int (fun _ _ => rfl)) pe_str (nomark _)) (pe_lst (pa_cons (pe_tup (pa_cons pe_int (pa_cons (pv 4) pa_nil))) pa_nil)) (pe_lst pa_nil))) (pss_cons (ps_if (pt_cmpR op_in_seq (pe_ix ix_tup (pv 6) pe_int (fun _ _ => rfl)) (pe_tup (pa_cons pe_str (pa_cons pe_str pa_nil))) (by rfl)) (pss_one (ps_expr (pe_bm PySem.F.plainAttrs_list PySem.F.slot_list_append PySem.F.type_list_append mt_append (pv 7) (pa_cons (pe_tup (pa_cons pe_int (pa_cons (pe_tup (pa_cons (pe_op op_add (pe_ix ix_tup (pv 1) pe_int (fun _ _ => rfl)) pe_int) (pa_cons (pe_ix ix_tup (pv 6) (pe_un un_neg pe_int) (fun _ _ => rfl)) pa_nil))) pa_nil))) pa_nil)))) pss_nil) (pss_cons (ps_set (i := 8) scLOn.nd rfl (Or.inl rfl) (pe_lst pa_nil)) (pss_cons (ps_for PassesOwn.never rfl (pi_list (pv 7)) (pg_tup rfl (pgs_cons (pg_name (i := 9) scLOn.nd rfl (Or.inl rfl)) (pgs_cons (pg_name (i := 10) scLOn.nd rfl (Or.inl rfl)) pgs_nil))) (pss_one (ps_if (pt_cmpR op_isN (pv 10) pe_non (nomark _)) (pss_one (ps_expr (pe_bm PySem.F.plainAttrs_list PySem.F.slot_list_append PySem.F.type_list_append mt_append (pv 8) (pa_cons (pe_tup (pa_cons (pv 9) (pa_cons (pe_tup (pa_cons (pe_op op_add (pv 3) pe_int) (pa_cons pe_non (pa_cons (pe_callTy call_tuple_of (by rfl) B.b.tuple (by decide +kernel) (pa_cons (pv 5) pa_nil)) pa_nil)))) pa_nil))) pa_nil)))) (pss_one (ps_if (pt_cmpR op_eq (pe_ix ix_tup (pv 10) pe_int (fun _ _ => rfl)) pe_int (nomark _)) (pss_one (ps_expr (pe_bm PySem.F.plainAttrs_list PySem.F.slot_list_append PySem.F.type_list_append mt_append (pv 8) (pa_cons (pe_tup (pa_cons (pv 9) (pa_cons (pe_tup (pa_cons (pe_ix ix_tup (pv 10) pe_int (fun _ _ => rfl)) (pa_cons pe_non (pa_cons (pe_callTy call_tuple_of (by rfl) B.b.tuple (by decide +kernel) (pa_cons (pv 5) pa_nil)) pa_nil)))) pa_nil))) pa_nil)))) (pss_one (ps_expr (pe_bm PySem.F.plainAttrs_list PySem.F.slot_list_append PySem.F.type_list_append mt_append (pv 8) (pa_cons (pe_tup (pa_cons (pv 9) (pa_cons (pe_tup (pa_cons (pe_op op_add (pv 3) pe_int) (pa_cons (pe_tup (pa_cons (pe_op op_sub (pe_ix ix_tup (pv 10) pe_int (fun _ _ => rfl)) pe_int) (pa_cons (pe_ix ix_tup (pv 10) pe_int (fun _ _ => rfl)) pa_nil))) (pa_cons (pe_callTy call_tuple_of (by rfl) B.b.tuple (by decide +kernel) (pa_cons (pv 5) pa_nil)) pa_nil)))) pa_nil))) pa_nil))))))))) (pss_one (ps_ret (pe_lc (own := [("_law_one", 11)]) (g := gName 11) (by rfl) scLOn.nd (pi_list (pv 8)) (blkOk_by (own := [("_law_one", 11)]) (N := nsLOn) (sc := defScope s__law_onward) (by decide +kernel)) (fun _ _ _ _ _ => (pg_name (i := 11) scLOn.nd rfl (Or.inl rfl))) (fun _ _ _ _ _ => pts_one (pt_cmpR op_lt (pe_ix (show IxR _ (rIxT K) from ix_tup) (pe_ix (show IxR _ (rIxT K) from ix_tup) (pv 11) pe_int (fun _ _ => rfl)) pe_int (fun _ _ => rfl)) (pe_callB (show CallR _ (.builtin "len") (fun xs H Q => ∃ p ys, xs = [V.ref p] ∧ (SqL K H p ys ∨ SqT K H p ys) ∧ Q (V.int ys.length) H) from call_len_seq) (by rfl) B.b.len PySem.boot_len (pa_cons (pv 0) pa_nil)) (nomark _))) (fun _ _ _ _ _ => (pv 11)))))))))))))), ?_⟩
    refine ⟨_, rfl, a, _, rfl, hS, rfl, .int s.at_, [u, .ref b], rfl, u, [.ref b], rfl, .ref b, [], rfl, rfl, ?_⟩
    obtain ⟨v, hv, ra, rfl, hrT⟩ := hgP _ _ hr0
    refine ⟨_, rfl, _, rfl, ap, _, _, .ref ra, rfl, rfl, hTP, at_of (j := s.at_.toNat) (by omega) hv, ?_⟩
    refine ⟨_, rfl, b, rfl, ⟨_, hW⟩, fun D hD => ?_⟩
    refine lc_tup (K := K) (xs := s.waits.map V.int) (fun i H' => Same H H' ∧ H' D = some (.lst (((s.waits.take i).map less1).map V.int))) ⟨same_new hD _, upd_same⟩ (fun i H' _ h => same_tup h.1 hW) ?_ ?_
    · rintro i x H1 hx ⟨s1, hD1⟩
      obtain ⟨z, hz, rfl⟩ := map_get hx
      refine ⟨rfl, yes_if ?_⟩
      refine ⟨_, rfl, _, _, rfl, rfl, _, _, rfl, _, hD1, ?_, ?_, ?_⟩
      · rw [List.length_map, List.length_map, List.length_take]
        have := Nat.min_le_right i s.waits.length
        exact small1000 (by omega)
      · exact fun c o zz => by
          rw [upd_ne (ne_of_none zz hD)]
          exact s1 _ _ zz
      · rw [upd_same, List.take_add_one, hz, List.map_append, List.map_append]
        rfl
    rintro H1 ⟨s1, hD1⟩
    rw [List.length_map, List.take_length] at hD1
    have w0 : atI r.vals 0 = some (.str r.word) := by rw [r.vals_eq]; exact atI_nat (j := 0) rfl
    refine seqcut (fun σ2 H4 => Same H H4 ∧ H4 D = some (.lst ((waitsOf ms r s.waits).map V.int)) ∧ σ2 = [some (.ref ap), some (.ref am), some (.ref a), some (.int s.at_), some u, some (.ref D), some (.ref ra), none, none, none, none, none]) (fun D' hrt kD => ?_) ?_
    · refine ⟨_, rfl, _, rfl, .ref ra, r, am, ms, rfl, ⟨ra, rfl, same_tup s1 hrT⟩, same_tup s1 hM, hMo, fun H2 s2 => ⟨_, _, rfl, rfl, _, rfl, ?_⟩⟩
      have s12 := s1.trans s2
      cases hbo : r.box with
      | none =>
        have hx : r.lix.isSome = false := by rw [← r.box_lix, hbo]; rfl
        have hli : lateI ms r = -1 := by
          unfold lateI
          cases q : r.lix with
          | none => rfl
          | some _ => rw [q] at hx; cases hx
        exact if_f (by rw [hli]; rfl) (kD _ _ ⟨s12, by rw [waits_law, hbo]; exact s2 _ _ hD1, rfl⟩)
      | some bb =>
        have hx : r.lix.isSome = true := by rw [← r.box_lix, hbo]; rfl
        have hbx := Rw.box_ok hrok hbo
        have hli : lateI ms r = (lateOf ms r : Int) := by
          unfold lateI
          cases q : r.lix with
          | none => rw [q] at hx; cases hx
          | some _ => rfl
        refine if_t (decide_eq_true (by rw [hli]; omega)) ?_
        refine ⟨_, rfl, _, rfl, .ref ra, r, am, ms, rfl, ⟨ra, rfl, same_tup s12 hrT⟩, same_tup s12 hM, hMo, fun H3 s3 => ?_⟩
        have s13 := s12.trans s3
        have hD3 := s3 _ _ (s2 _ _ hD1)
        refine ⟨_, rfl, _, rfl, ra, _, _, _, rfl, rfl, same_tup s13 hrT, Rw.box_val hbo, D, _, bb, bb.toNat, rfl, rfl, hD3, ?_, ?_⟩
        · unfold ixN
          have b0 : 0 ≤ bb := hbx.1
          have b1 : bb < 8 := hbx.2
          rw [List.length_map, List.length_map, hw8, if_pos b0, if_pos (by omega)]
        · rw [set_ints, hli]
          refine kD _ _ ⟨fun c o zz => ?_, ?_, rfl⟩
          · rw [upd_ne (ne_of_none zz hD)]
            exact s13 _ _ zz
          · rw [upd_same, waits_law, hbo]
    rintro σ2 H4 ⟨s4, hD4, rfl⟩
    refine ⟨_, rfl, ra, _, _, _, rfl, rfl, same_tup s4 hrT, w0, rfl, _, rfl, ?_⟩
    rw [r.isStop_eq]
    refine if_both (fun e => ?_) (fun e => ?_)
    · refine ⟨by show 0 ≤ sizeLine; decide, fun l hl => k l [] _ (s4.trans (same_new hl _)) (s4.free hl) upd_same ?_⟩
      rw [onward_stop e]
      exact .nil
    have wy0 : ∀ H', Same H H' → ∀ t, H' t = some (.tup [.int 0, u]) → LWayAt K H' (.ref t) (0, s.going) := fun H' sm t e => ⟨t, u, rfl, tup_of e, tk_lgo (tk_same sm) hG⟩
    refine seqcutN (fun σ2 H5 => ∃ Wl ws, Same H H5 ∧ H Wl = none ∧ Wl ≠ D ∧ H5 D = some (.lst ((waitsOf ms r s.waits).map V.int)) ∧ H5 Wl = some (.lst ws) ∧ Paired (LWayAt K H5) ws (if r.on = true then [((0 : Int), s.going)] else [] : List Way) ∧ σ2 = [some (.ref ap), some (.ref am), some (.ref a), some (.int s.at_), some u, some (.ref D), some (.ref ra), some (.ref Wl), none, none, none, none]) (fun D' hrt kD => ?_) ?_
    · refine ⟨_, rfl, ra, _, _, _, rfl, rfl, same_tup s4 hrT, w0, rfl, _, rfl, ?_⟩
      rw [r.notgo_eq e]
      refine if_both (fun e2 => ?_) (fun e2 => ?_)
      · refine ⟨_, rfl, by show 2 ≤ sizeLine; decide, fun t ht => ⟨by show 1 ≤ sizeLine; decide, fun l hl => ?_⟩⟩
        have s5 := s4.trans (same_new ht (.tup [.int 0, u]))
        have s6 := s5.trans (same_new hl (.lst [.ref t]))
        refine kD _ _ ⟨l, _, s6, s5.free hl, fun q => ?_, ((same_new ht _).trans (same_new hl _)) _ _ hD4, upd_same, ?_, rfl⟩
        · rw [q, (same_new ht _) _ _ hD4] at hl; cases hl
        · rw [if_pos e2]
          exact .cons (wy0 _ s6 t ((same_new hl _) _ _ upd_same)) .nil
      · refine ⟨by show 0 ≤ sizeLine; decide, fun l hl => ?_⟩
        refine kD _ _ ⟨l, _, s4.trans (same_new hl _), s4.free hl, fun q => ?_, (same_new hl _) _ _ hD4, upd_same, ?_, rfl⟩
        · rw [q, hD4] at hl; cases hl
        · rw [if_neg (by rw [e2]; exact Bool.false_ne_true)]
          exact .nil
    rintro σ2 H5 ⟨Wl, ws, s5, nW, nWD, hD5, hW5, hws, rfl⟩
    refine seqcutT (fun σ2 H6 => ∃ ws, Same H H6 ∧ H6 D = some (.lst ((waitsOf ms r s.waits).map V.int)) ∧ H6 Wl = some (.lst ws) ∧ Paired (LWayAt K H6) ws (waysOf ms r s.going) ∧ σ2 = [some (.ref ap), some (.ref am), some (.ref a), some (.int s.at_), some u, some (.ref D), some (.ref ra), some (.ref Wl), none, none, none, none]) (fun D' hrt kD => ?_) ?_
    · refine ⟨_, rfl, ra, _, _, _, rfl, rfl, same_tup s5 hrT, w0, by show 2 ≤ sizeLine; decide, fun T2 hT2 => ⟨T2, _, rfl, .inr (tup_of upd_same), rfl, rfl, _, rfl, ?_⟩⟩
      have sT := same_new hT2 (.tup [.str "go", .str "if"])
      have s6 := s5.trans sT
      have ek := r.to_in
      cases hto : r.to with
      | none =>
        rw [hto] at ek
        refine if_f ek (kD _ _ ⟨ws, s6, sT _ _ hD5, sT _ _ hW5, ?_, rfl⟩)
        unfold waysOf
        rw [hto, List.append_nil]
        exact paired_imp (fun _ _ => tk_lway (tk_same sT)) hws
      | some qq =>
        rw [hto] at ek
        have hqq := Rw.to_ok hrok hto
        obtain ⟨hj3, hj0, hj1⟩ := jmp_at hMo
        refine if_t ek ?_
        refine ⟨_, rfl, .inl ⟨rfl, _, SqL.of (sT _ _ hW5)⟩, _, rfl, am, _, _, _, rfl, rfl, same_tup s6 hM, hj3, _, _, rfl, rfl, _, rfl, 1, rfl, ra, _, _, .int qq, rfl, rfl, same_tup s6 hrT, Rw.to_at hto, by show 2 ≤ sizeLine; decide, fun g hg' => ⟨by show 2 ≤ sizeLine; decide, fun t ht => ?_⟩⟩
        have sg := same_new hg' (.tup [.int (jmp ms + 1), .int qq])
        have st := same_new ht (.tup [.int 1, .ref g])
        have s8 := (s6.trans sg).trans st
        have hW8 := st _ _ (sg _ _ (sT _ _ hW5))
        have tk8 : TK _ (upd (upd (upd (upd H5 T2 (.tup [.str "go", .str "if"])) g (.tup [.int (jmp ms + 1), .int qq])) t (.tup [.int 1, .ref g])) Wl (.lst (ws ++ [.ref t]))) := tk_lst hW8
        have hwl : ws.length ≤ 1 := by
          rw [Paired.length hws]
          split <;> simp
        refine ⟨Wl, ws, _, rfl, rfl, hW8, small1000 (by omega), kD _ _ ⟨ws ++ [.ref t], fun c o zz => ?_, ?_, upd_same, ?_, rfl⟩⟩
        · rw [upd_ne (ne_of_none zz nW)]
          exact s8 _ _ zz
        · rw [upd_ne nWD.symm]
          exact st _ _ (sg _ _ (sT _ _ hD5))
        · have en : ¬ ((qq, jmp ms + 1) : Go) = nog := fun z => by
            have := congrArg Prod.fst z
            have h3 : qq = -1 := this
            omega
          unfold waysOf
          rw [hto]
          refine (paired_imp (fun _ _ => tk_lway ((tk_same ((sT.trans sg).trans st)).trans tk8)) hws).snoc ⟨t, .ref g, rfl, tk_tup tk8 (tup_of upd_same), ?_⟩
          unfold LGoAt
          rw [if_neg en]
          exact ⟨g, rfl, tk_tup tk8 (tup_of (st _ _ upd_same))⟩
    rintro σ2 H6 ⟨ws, s6, hD6, hW6, hws, rfl⟩
    refine ⟨by show 0 ≤ sizeLine; decide, fun Fd hFd => ?_⟩
    have nF : H Fd = none := s6.free hFd
    have nFD : Fd ≠ D := fun q => by rw [q, hD6] at hFd; cases hFd
    have nFW : Fd ≠ Wl := fun q => by rw [q, hW6] at hFd; cases hFd
    have sF := same_new hFd (.lst [])
    have hwl := waysOf_len ms r s.going
    refine ⟨_, rfl, Wl, rfl, ⟨_, SqL.of (sF _ _ hW6)⟩, for_list (K := K) (a := Wl) (xs := ws) (fun j σ' H' => ∃ v9 va vb vs, σ' = [some (.ref ap), some (.ref am), some (.ref a), some (.int s.at_), some u, some (.ref D), some (.ref ra), some (.ref Wl), some (.ref Fd), v9, va, vb] ∧ Same H H' ∧ H' D = some (.lst ((waitsOf ms r s.waits).map V.int)) ∧ H' Wl = some (.lst ws) ∧ Paired (LWayAt K H') ws (waysOf ms r s.going) ∧ H' Fd = some (.lst vs) ∧ Paired (LPairAt K H') vs (((waysOf ms r s.going).take j).map (behindOf ms r s)))
      ⟨_, _, _, _, rfl, s6.trans sF, sF _ _ hD6, sF _ _ hW6, paired_imp (fun _ _ => tk_lway (tk_same sF)) hws, upd_same, .nil⟩ (fun j σ' H' _ ⟨_, _, _, _, _, _, _, e, _⟩ => SqL.of e) ?_ ?_⟩
    · rintro j x σ' H7 hx ⟨v9, va, vb0, vs, rfl, s7, hD7, hW7, hws7, hF7, hvs⟩
      obtain ⟨y, hy, tE, uE, rfl, qE, hgE⟩ := paired_get hws7 hx
      have hgo := ways_ok hMo hrok hg y (List.mem_of_getElem? hy)
      have hjl : j < 2 := by
        have := (List.getElem?_eq_some_iff.mp hy).1
        omega
      have hvl : vs.length < sizeLine := small1000 (by
        rw [Paired.length hvs, List.length_map, List.length_take]
        have := Nat.min_le_left j (waysOf ms r s.going).length
        omega)
      refine ⟨tE, _, rfl, qE, rfl, .int y.1, [uE], rfl, uE, [], rfl, rfl, ?_⟩
      have fin : ∀ (H8 : Hp) (t : Addr), Same H7 H8 → LPairAt K H8 (.ref t) (behindOf ms r s y) → ∃ v9 va vb vs', [some (V.ref ap), some (.ref am), some (.ref a), some (.int s.at_), some u, some (.ref D), some (.ref ra), some (.ref Wl), some (.ref Fd), some (.int y.1), some uE, vb0] = [some (V.ref ap), some (.ref am), some (.ref a), some (.int s.at_), some u, some (.ref D), some (.ref ra), some (.ref Wl), some (.ref Fd), v9, va, vb] ∧ Same H (upd H8 Fd (.lst (vs ++ [.ref t]))) ∧ (upd H8 Fd (.lst (vs ++ [.ref t]))) D = some (.lst ((waitsOf ms r s.waits).map V.int)) ∧ (upd H8 Fd (.lst (vs ++ [.ref t]))) Wl = some (.lst ws) ∧ Paired (LWayAt K (upd H8 Fd (.lst (vs ++ [.ref t])))) ws (waysOf ms r s.going) ∧ (upd H8 Fd (.lst (vs ++ [.ref t]))) Fd = some (.lst vs') ∧ Paired (LPairAt K (upd H8 Fd (.lst (vs ++ [.ref t])))) vs' (((waysOf ms r s.going).take (j + 1)).map (behindOf ms r s)) := fun H8 t s8 hp => by
        have hF8 := s8 _ _ hF7
        have tk : TK H7 (upd H8 Fd (.lst (vs ++ [.ref t]))) := (tk_same s8).trans (tk_lst hF8)
        refine ⟨_, _, _, _, rfl, fun c o zz => ?_, ?_, ?_, paired_imp (fun _ _ => tk_lway tk) hws7, upd_same, ?_⟩
        · rw [upd_ne (ne_of_none zz nF)]
          exact s8 _ _ (s7 _ _ zz)
        · rw [upd_ne nFD.symm]
          exact s8 _ _ hD7
        · rw [upd_ne nFW.symm]
          exact s8 _ _ hW7
        · rw [List.take_add_one, hy, List.map_append]
          exact (paired_imp (fun _ _ => tk_lpair tk) hvs).snoc (tk_lpair (tk_lst hF8) hp)
      have eu := lgo_non hgE
      refine ⟨_, rfl, rfl, _, rfl, if_both (fun e2 => ?_) (fun e2 => ?_)⟩
      · have en : y.2 = nog := by
          rw [e2] at eu
          exact of_decide_eq_true (by cases q : decide (y.2 = nog) with
            | true => rfl
            | false => rw [q] at eu; cases eu)
        refine ⟨_, rfl, .inl ⟨rfl, _, SqL.of hF7⟩, _, rfl, _, rfl, _, _, rfl, rfl, _, rfl, D, _, rfl, .inl ⟨SqL.of hD7, fun l hl => ⟨by show 3 ≤ sizeLine; decide, fun t1 ht1 => ⟨by show 2 ≤ sizeLine; decide, fun t ht => ?_⟩⟩⟩⟩
        have s8 := ((same_new hl (.tup ((waitsOf ms r s.waits).map V.int))).trans (same_new ht1 (.tup [.int (s.at_ + 1), .non, .ref l]))).trans (same_new ht (.tup [.int y.1, .ref t1]))
        refine ⟨Fd, vs, _, rfl, rfl, s8 _ _ hF7, hvl, fin _ t s8 ⟨t, .ref t1, rfl, tup_of upd_same, t1, .non, l, rfl, ?_, ?_, ?_⟩⟩
        · have : (behindOf ms r s y).2.at_ = s.at_ + 1 := by unfold behindOf freshOf pBehind; rw [en]; rfl
          rw [this]
          exact tup_of ((same_new ht _) _ _ upd_same)
        · have : (behindOf ms r s y).2.going = nog := by unfold behindOf freshOf pBehind; rw [en]; rfl
          rw [this]
          unfold LGoAt
          rw [if_pos rfl]
        · exact tup_of (((same_new ht1 _).trans (same_new ht _)) _ _ upd_same)
      · have en : ¬ y.2 = nog := fun z => by
          rw [e2, decide_eq_true z] at eu
          cases eu
        unfold LGoAt at hgE
        rw [if_neg en] at hgE
        obtain ⟨c, rfl, hc⟩ := hgE
        have e1 : decide (V.int y.2.2 = V.int 1) = decide (y.2.2 = 1) := by
          by_cases z : y.2.2 = 1
          · rw [decide_eq_true z, decide_eq_true (congrArg V.int z)]
          · rw [decide_eq_false z, decide_eq_false fun q => z (V.int.inj q)]
        refine ⟨_, rfl, c, _, _, _, rfl, rfl, hc, rfl, rfl, _, rfl, ?_⟩
        rw [e1]
        refine if_both (fun e3 => ?_) (fun e3 => ?_)
        · have e4 := of_decide_eq_true e3
          refine ⟨_, rfl, .inl ⟨rfl, _, SqL.of hF7⟩, _, rfl, _, rfl, c, _, _, _, rfl, rfl, hc, rfl, _, rfl, D, _, rfl, .inl ⟨SqL.of hD7, fun l hl => ⟨by show 3 ≤ sizeLine; decide, fun t1 ht1 => ⟨by show 2 ≤ sizeLine; decide, fun t ht => ?_⟩⟩⟩⟩
          have s8 := ((same_new hl (.tup ((waitsOf ms r s.waits).map V.int))).trans (same_new ht1 (.tup [.int y.2.1, .non, .ref l]))).trans (same_new ht (.tup [.int y.1, .ref t1]))
          have eb : pBehind s.at_ y.2 = (y.2.1, nog) := by unfold pBehind; rw [if_pos e4]
          refine ⟨Fd, vs, _, rfl, rfl, s8 _ _ hF7, hvl, fin _ t s8 ⟨t, .ref t1, rfl, tup_of upd_same, t1, .non, l, rfl, ?_, ?_, ?_⟩⟩
          · have : (behindOf ms r s y).2.at_ = y.2.1 := congrArg Prod.fst eb
            rw [this]
            exact tup_of ((same_new ht _) _ _ upd_same)
          · have : (behindOf ms r s y).2.going = nog := congrArg Prod.snd eb
            rw [this]
            unfold LGoAt
            rw [if_pos rfl]
          · exact tup_of (((same_new ht1 _).trans (same_new ht _)) _ _ upd_same)
        · have e4 := of_decide_eq_false e3
          have ho := (nog_of hgo).resolve_left en
          refine ⟨_, rfl, .inl ⟨rfl, _, SqL.of hF7⟩, _, rfl, _, rfl, _, _, rfl, rfl, _, rfl, c, _, _, _, rfl, rfl, hc, rfl, _, _, rfl, rfl, _, rfl, c, _, _, _, rfl, rfl, hc, rfl, by show 2 ≤ sizeLine; decide, fun g hg2 => ?_⟩
          have sg := same_new hg2 (.tup [.int (y.2.2 - 1), .int y.2.1])
          refine ⟨_, rfl, D, _, rfl, .inl ⟨SqL.of (sg _ _ hD7), fun l hl => ⟨by show 3 ≤ sizeLine; decide, fun t1 ht1 => ⟨by show 2 ≤ sizeLine; decide, fun t ht => ?_⟩⟩⟩⟩
          have s9 := ((same_new hl (.tup ((waitsOf ms r s.waits).map V.int))).trans (same_new ht1 (.tup [.int (s.at_ + 1), .ref g, .ref l]))).trans (same_new ht (.tup [.int y.1, .ref t1]))
          have s8 := sg.trans s9
          have eb : pBehind s.at_ y.2 = (s.at_ + 1, (y.2.1, y.2.2 - 1)) := by unfold pBehind; rw [if_neg e4, if_neg (by omega)]
          have en2 : ¬ ((y.2.1, y.2.2 - 1) : Go) = nog := fun z => by
            have := congrArg Prod.fst z
            have h3 : y.2.1 = -1 := this
            omega
          refine ⟨Fd, vs, _, rfl, rfl, s8 _ _ hF7, hvl, fin _ t s8 ⟨t, .ref t1, rfl, tup_of upd_same, t1, .ref g, l, rfl, ?_, ?_, ?_⟩⟩
          · have : (behindOf ms r s y).2.at_ = s.at_ + 1 := congrArg Prod.fst eb
            rw [this]
            exact tup_of ((same_new ht _) _ _ upd_same)
          · have : (behindOf ms r s y).2.going = (y.2.1, y.2.2 - 1) := congrArg Prod.snd eb
            rw [this]
            unfold LGoAt
            rw [if_neg en2]
            exact ⟨g, rfl, tup_of (s9 _ _ upd_same)⟩
          · exact tup_of (((same_new ht1 _).trans (same_new ht _)) _ _ upd_same)
    · rintro σ' H7 ⟨v9, va, vb, vs, rfl, s7, hD7, hW7, hws7, hF7, hvs⟩
      rw [Paired.length hws, List.take_length] at hvs
      refine ⟨_, rfl, Fd, rfl, ⟨_, SqL.of hF7⟩, fun R hR => ?_⟩
      have hRn : H R = none := s7.free hR
      have nRF : R ≠ Fd := fun q => by rw [q, hF7] at hR; cases hR
      refine lc_list (K := K) (xs := vs) (fun i H' => Same H7 H' ∧ ∃ ys, H' R = some (.lst ys) ∧ Paired (LPairAt K H') ys ((((waysOf ms r s.going).map (behindOf ms r s)).take i).filter fun x => decide (x.2.at_ < (rs.length : Int)))) ⟨same_new hR _, [], upd_same, .nil⟩ (fun i H' _ h => SqL.of (h.1 _ _ hF7)) ?_ ?_
      · rintro i x H8 hx ⟨s8, ys, hR8, hys⟩
        obtain ⟨y, hy, tE, uE, rfl, qE, aE, u9, b9, rfl, q9, g9, w9⟩ := paired_get hvs hx
        have estep : (((waysOf ms r s.going).map (behindOf ms r s)).take (i + 1)).filter (fun x => decide (x.2.at_ < (rs.length : Int))) = (((waysOf ms r s.going).map (behindOf ms r s)).take i).filter (fun x => decide (x.2.at_ < (rs.length : Int))) ++ (if decide (y.2.at_ < (rs.length : Int)) = true then [y] else []) := by
          rw [List.take_add_one, hy, List.filter_append]
          cases hq : decide (y.2.at_ < (rs.length : Int)) <;> simp [hq]
        have s78 := s7.trans s8
        refine ⟨rfl, ?_⟩
        refine ⟨_, rfl, tE, _, _, _, rfl, rfl, same_tup s8 qE, rfl, aE, _, _, _, rfl, rfl, same_tup s8 q9, rfl, _, rfl, ap, _, rfl, .inr (same_tup s78 hTP), _, _, rfl, rfl, _, rfl, ?_⟩
        rw [hlP]
        refine if_both (fun e2 => ?_) (fun e2 => ?_)
        · have hyl : ys.length ≤ 2 := by
            rw [Paired.length hys]
            refine Nat.le_trans (List.length_filter_le _ _) ?_
            rw [List.length_take, List.length_map]
            have := Nat.min_le_right i (waysOf ms r s.going).length
            omega
          refine ⟨_, rfl, ys, hR8, small1000 (by omega), fun c o zz => ?_, _, upd_same, ?_⟩
          · rw [upd_ne (ne_of_none zz hR)]
            exact s8 _ _ zz
          · rw [estep, if_pos e2]
            exact (paired_imp (fun _ _ => tk_lpair (tk_lst hR8)) hys).snoc (tk_lpair ((tk_same s8).trans (tk_lst hR8)) ⟨tE, .ref aE, rfl, qE, aE, u9, b9, rfl, q9, g9, w9⟩)
        · refine ⟨s8, ys, hR8, ?_⟩
          rw [estep, if_neg (by rw [e2]; exact Bool.false_ne_true), List.append_nil]
          exact hys
      · rintro H8 ⟨s8, ys, hR8, hys⟩
        rw [Paired.length hvs, List.take_length] at hys
        exact k R ys H8 (s7.trans s8) hRn hR8 hys
end
end LB
namespace LB
open PySem L2
/-! ### the law's states, ways, flaws as data -/
def goD (g : Go) : PyData := if g = nog then .none else .tuple [.int g.2, .int g.1]
def lstD (s : Sx) : PyData := .tuple [.int s.at_, goD s.going, .tuple (s.waits.map .int)]
def pairD (x : Int × Sx) : PyData := .tuple [.int x.1, lstD x.2]
def brD : Br → PyData
  | none => .none
  | some x => .tuple [.str x.1, .int x.2]
def stepD (g : Go) : PyData := .tuple [.int g.1, .int g.2]
def lvD (x : List Go × Sx) : PyData := .tuple [.list (x.1.map stepD), lstD x.2]
theorem noL_go (g : Go) : noL (goD g) = true := by
  unfold goD
  split <;> rfl
theorem noL_lst (s : Sx) : noL (lstD s) = true := by
  show (true && (noL (goD s.going) && (noLs (s.waits.map .int) && true))) = true
  rw [noL_go, noLs_ints]
  rfl
theorem noL_pair (x : Int × Sx) : noL (pairD x) = true := by
  show (true && (noL (lstD x.2) && true)) = true
  rw [noL_lst]
  rfl
theorem noL_step (g : Go) : noL (stepD g) = true := rfl
section
variable {K : PySem.W.Frag} {H : Hp}
theorem dp_lgo {u : V} {g : Go} (h : Dp K H u (goD g)) : LGoAt K H u g := by
  unfold goD at h
  unfold LGoAt
  by_cases e : g = nog
  · rw [if_pos e] at h ⊢
    cases h
    rfl
  · rw [if_neg e] at h ⊢
    cases h with
    | tup hs a =>
      cases a with
      | cons h1 a =>
        cases a with
        | cons h2 a =>
          cases a; cases h1; cases h2
          exact ⟨_, rfl, hs⟩
theorem lgo_dp {u : V} {g : Go} (h : LGoAt K H u g) : Dp K H u (goD g) := by
  unfold LGoAt at h
  unfold goD
  by_cases e : g = nog
  · rw [if_pos e] at h ⊢
    rw [h]
    exact .non
  · rw [if_neg e] at h ⊢
    obtain ⟨c, rfl, q⟩ := h
    exact .tup q (.cons (.int _) (.cons (.int _) .nil))
theorem dp_lst {v : V} {s : Sx} (h : Dp K H v (lstD s)) : LStAt K H v s := by
  unfold lstD at h
  cases h with
  | tup hs a =>
    cases a with
    | cons h1 a =>
      cases a with
      | cons h2 a =>
        cases a with
        | cons h3 a =>
          cases a; cases h1
          cases h3 with
          | tup ht b =>
            rw [dpAll_int_eq b] at ht
            exact ⟨_, _, _, rfl, hs, dp_lgo h2, ht⟩
theorem lst_dp {v : V} {s : Sx} (h : LStAt K H v s) : Dp K H v (lstD s) := by
  obtain ⟨a, u, b, rfl, hs, hg, hw⟩ := h
  exact .tup hs (.cons (.int _) (.cons (lgo_dp hg) (.cons (.tup hw (dpAll_ints K H _)) .nil)))
theorem br_dp {v : V} {x : Br} (h : BrAt K H v x) : Dp K H v (brD x) := by
  cases x with
  | none =>
    obtain rfl : v = .non := h
    exact .non
  | some x =>
    obtain ⟨a, rfl, q⟩ := h
    exact .tup q (.cons (.str _) (.cons (.int _) .nil))
theorem pairs_dp : ∀ {vs : List V} {xs : List (Int × Sx)}, Paired (LPairAt K H) vs xs → DpAll K H vs (xs.map pairD)
  | _, _, .nil => .nil
  | _, _, .cons h t => by
    obtain ⟨a, u, rfl, q, g⟩ := h
    exact .cons (.tup q (.cons (.int _) (.cons (lst_dp g) .nil))) (pairs_dp t)
theorem gos_dp : ∀ {vs : List V} {xs : List Go}, Paired (GoAt K H) vs xs → DpAll K H vs (xs.map stepD)
  | _, _, .nil => .nil
  | _, _, .cons h t => by
    obtain ⟨a, rfl, q⟩ := h
    exact .cons (.tup q (.cons (.int _) (.cons (.int _) .nil))) (gos_dp t)
end
section
variable {P : Program} {w : World} {K : PySem.W.Frag} {mg : Str → Option Value} {base : Heap} {k : Nat}
abbrev LIx := List Rw × List Int × Sx × Rw
abbrev LPre (i : LIx) : Prop := MillOk i.2.1 ∧ SOk i.1 i.2.2.1 ∧ i.1[i.2.2.1.at_.toNat]? = some i.2.2.2 ∧ i.2.2.2.ok i.1.length
abbrev dLBr (K : PySem.W.Frag) : Sp := spD K (fun i : LIx => [progD i.1, millD i.2.1, lstD i.2.2.1]) LPre (fun i => brD (brOf i.1.length i.2.1 i.2.2.2 i.2.2.1))
theorem lbr_d {x : Str} {ps : List Str} (C : Cal P w K mg base k x ps (spLBroken K)) : Cal P w K mg base k x ps (dLBr K) := C.imp fun vs H Q E ⟨⟨rs, ms, s, r⟩, ⟨h1, h2, h3, h4⟩, a, q⟩ => by
  rcases a with _ | ⟨d1, _ | ⟨d2, _ | ⟨d3, ⟨⟩⟩⟩⟩
  obtain ⟨ap, rfl, hP⟩ := dp_prog d1
  obtain ⟨am, rfl, hM⟩ := dp_mill d2
  exact ⟨ap, am, _, rs, ms, s, r, rfl, hP, hM, h1, dp_lst d3, h2, h3, h4, fun v H' sm hb => q v H' sm (br_dp hb)⟩
abbrev dLOn (K : PySem.W.Frag) : Sp := spN K (fun i : LIx => [progD i.1, millD i.2.1, lstD i.2.2.1]) LPre (fun i => (onwardOf i.1 i.2.1 i.2.2.2 i.2.2.1).map pairD)
theorem lon_d {x : Str} {ps : List Str} (C : Cal P w K mg base k x ps (spLOn K)) : Cal P w K mg base k x ps (dLOn K) := C.imp fun vs H Q E ⟨⟨rs, ms, s, r⟩, ⟨h1, h2, h3, h4⟩, a, q⟩ => by
  rcases a with _ | ⟨d1, _ | ⟨d2, _ | ⟨d3, ⟨⟩⟩⟩⟩
  obtain ⟨ap, rfl, hP⟩ := dp_prog d1
  obtain ⟨am, rfl, hM⟩ := dp_mill d2
  exact ⟨ap, am, _, rs, ms, s, r, rfl, hP, hM, h1, dp_lst d3, h2, h3, h4, fun D xs H' sm nD eD hp => q D xs H' nD sm eD (pairs_dp hp)⟩
end
/-! ### a state as a key -/
def lkey (s : Sx) : NestedKey := .tup [.num s.at_, if s.going = nog then .none else .tup [.num s.going.2, .num s.going.1], .tup (s.waits.map .num)]
theorem lkey_inj {s t : Sx} (h : lkey s = lkey t) : s = t := by
  obtain ⟨a, ⟨g, l⟩, w⟩ := s
  obtain ⟨a', ⟨g', l'⟩, w'⟩ := t
  unfold lkey at h
  injection h with h
  injection h with h1 h
  injection h with h2 h
  injection h with h3 _
  injection h1 with h1
  injection h3 with h3
  have h6 := nums_inj h3
  have h7 : ((g, l) : Go) = (g', l') := by
    dsimp only at h2
    by_cases e : ((g, l) : Go) = nog
    · by_cases e' : ((g', l') : Go) = nog
      · rw [e, e']
      · rw [if_pos e, if_neg e'] at h2
        cases h2
    · by_cases e' : ((g', l') : Go) = nog
      · rw [if_neg e, if_pos e'] at h2
        cases h2
      · rw [if_neg e, if_neg e'] at h2
        injection h2 with h2
        injection h2 with h4 h2
        injection h2 with h5 _
        injection h4 with h4
        injection h5 with h5
        rw [h4, h5]
  dsimp only at h1 h6
  rw [h1, h6, h7]
theorem lkey_deep (s : Sx) : (lkey s).depth ≤ 8 := by
  have := nums_deep s.waits
  unfold lkey
  split <;> (simp only [NestedKey.depth, NestedKey.depthAll]; omega)
theorem lst_key {K : PySem.W.Frag} {H : Hp} {v : V} {s : Sx} (h : Dp K H v (lstD s)) : ∃ a, v = .ref a ∧ NkAt K H (.ref a) (lkey s) := by
  obtain ⟨a, u, b, rfl, hs, hg, hw⟩ := dp_lst h
  refine ⟨a, rfl, .tup hs (.cons (.int _) (.cons ?_ (.cons (.tup hw (nk_nums _)) .nil)))⟩
  unfold LGoAt at hg
  by_cases e : s.going = nog
  · rw [if_pos e] at hg ⊢
    rw [hg]
    exact .non
  · rw [if_neg e] at hg ⊢
    obtain ⟨c, rfl, q⟩ := hg
    exact .tup q (.cons (.int _) (.cons (.int _) .nil))
/-- the states met, as the law's dict keeps them -/
def MetAt (P : Program) (w : World) (K : PySem.W.Frag) (H : Hp) (d : Addr) (ms : List Sx) : Prop := ∃ xs, ND P w K H d xs ∧ xs.map (·.1) = ms.map lkey
def hasS (ms : List Sx) (s : Sx) : Bool := ms.any fun t => decide (lkey t = lkey s)
theorem val_has (s : Sx) : ∀ {xs : List Ent} {ms : List Sx}, xs.map (·.1) = ms.map lkey → (valN xs (lkey s)).isSome = hasS ms s
  | [], [], _ => rfl
  | [], _ :: _, h => by cases h
  | _ :: _, [], h => by cases h
  | x :: xs, m :: ms, h => by
    rw [List.map_cons, List.map_cons] at h
    injection h with h1 h2
    have ih := val_has s h2
    unfold hasS at ih ⊢
    rw [List.any_cons, ← ih]
    by_cases e : lkey m = lkey s
    · rw [decide_eq_true e]
      have e' : x.1 = lkey s := by rw [h1]; exact e
      simp [valN, List.find?_cons, e']
    · rw [decide_eq_false e]
      have e' : ¬ x.1 = lkey s := by rw [h1]; exact e
      simp [valN, List.find?_cons, e']
theorem has_look (s : Sx) : ∀ cm : Cm, hasS (cm.map (·.1)) s = (lookM cm s).isSome
  | [] => rfl
  | m :: cm => by
    have ih := has_look s cm
    unfold hasS at ih ⊢
    rw [List.map_cons, List.any_cons, ih]
    show _ = (if keyOf m.1 = keyOf s then some m.2 else lookM cm s).isSome
    by_cases e : m.1 = s
    · rw [e, decide_eq_true rfl, if_pos rfl]
      rfl
    · rw [decide_eq_false (fun z => e (lkey_inj z)), if_neg (fun z => e (keyOf_inj z))]
      rfl
theorem met_tk {P : Program} {w : World} {K : PySem.W.Frag} {H H' : Hp} {d : Addr} {ms : List Sx} (e : ∀ o, H d = some o → H' d = some o) (s : TK H H') (h : MetAt P w K H d ms) : MetAt P w K H' d ms := by
  obtain ⟨xs, n, p⟩ := h
  exact ⟨xs, n.keep e s, p⟩
theorem met_same {P : Program} {w : World} {K : PySem.W.Frag} {H H' : Hp} {d : Addr} {ms : List Sx} (s : Same H H') (h : MetAt P w K H d ms) : MetAt P w K H' d ms := met_tk (fun o e => s _ _ e) (fun t o e _ => s _ _ e) h
theorem met_len {P : Program} {w : World} {K : PySem.W.Frag} {H : Hp} {d : Addr} {ms : List Sx} (h : MetAt P w K H d ms) : ∃ xs, ND P w K H d xs ∧ xs.map (·.1) = ms.map lkey ∧ xs.length = ms.length := by
  obtain ⟨xs, n, p⟩ := h
  have := congrArg List.length p
  rw [List.length_map, List.length_map] at this
  exact ⟨xs, n, p, this⟩
/-! ### the law's search told by the program's -/
def stepOn (s : Sx) (c : Wl) (x : Int × Sx) : Wl := if (lookM c.1 x.2).isSome = true then c else (c.1 ++ [(x.2, some (s, x.1))], c.2 ++ [x.2])
theorem fold_on (rs : List Rw) (ms : List Int) (r : Rw) (s : Sx) : ∀ (ws : List Way) (c : Wl), (ws.map fun x => (x.1, pBehind s.at_ x.2)).foldl (stepPl rs.length ms r s) c = ((ws.map (behindOf ms r s)).filter fun x => decide (x.2.at_ < (rs.length : Int))).foldl (stepOn s) c
  | [], c => rfl
  | x :: ws, c => by
    rw [List.map_cons, List.foldl_cons, fold_on rs ms r s ws, List.map_cons, List.filter_cons]
    by_cases e : (behindOf ms r s x).2.at_ < (rs.length : Int)
    · rw [if_pos (by simpa using e), List.foldl_cons]
      congr 1
      have e2 : (freshOf ms r s (x.1, pBehind s.at_ x.2)).at_ < (rs.length : Int) := e
      unfold stepPl stepOn
      rw [decide_eq_true e2, Bool.true_and]
      show (if (!(lookM c.1 (freshOf ms r s (x.1, pBehind s.at_ x.2))).isSome) = true then _ else c) = if (lookM c.1 (freshOf ms r s (x.1, pBehind s.at_ x.2))).isSome = true then c else _
      cases (lookM c.1 (freshOf ms r s (x.1, pBehind s.at_ x.2))).isSome <;> rfl
    · rw [if_neg (by simpa using e)]
      congr 1
      have e2 : ¬ (freshOf ms r s (x.1, pBehind s.at_ x.2)).at_ < (rs.length : Int) := e
      unfold stepPl
      rw [decide_eq_false e2, Bool.false_and]
      rfl
theorem step_on {rs : List Rw} {ms : List Int} {r : Rw} {s : Sx} (h : rs[s.at_.toNat]? = some r) (c : Wl) : stepSt rs ms c s = (onwardOf rs ms r s).foldl (stepOn s) c := by
  unfold stepSt onwardOf
  rw [h]
  show (placesOf ms r s.at_ s.going).foldl (stepPl rs.length ms r s) c = _
  rw [ways_places]
  exact fold_on rs ms r s _ c
theorem steps_det {cm : Cm} : ∀ {l l' : List Go} {s : Sx}, Steps cm s l → Steps cm s l' → l = l' := by
  intro l l' s h
  induction h generalizing l' with
  | first e =>
    intro h'
    cases h' with
    | first _ => rfl
    | next e' _ => rw [e] at e'; cases e'
  | next e _ ih =>
    intro h'
    cases h' with
    | first e' => rw [e] at e'; cases e'
    | next e' h' =>
      rw [e] at e'
      cases e'
      rw [ih h']
/-- the ways of a level are those by which its states were met -/
def Ways (cm : Cm) (lv : List (List Go × Sx)) : Prop := ∀ x, x ∈ lv → Steps cm x.2 x.1
theorem Ways.more {cm : Cm} {m : Sx × Pr} {lv : List (List Go × Sx)} (h : Ways cm lv) : Ways (cm ++ [m]) lv := fun x hx => (h x hx).more
theorem stepOn_ways {s : Sx} {way : List Go} {c : Wl} {x : Int × Sx} {lv cur : List (List Go × Sx)} (hw : Steps c.1 s way) (hl : Ways c.1 lv) (hc : Ways c.1 cur) (e : lv.map (·.2) = c.2) :
    ∃ lv', lv' = (if (lookM c.1 x.2).isSome = true then lv else lv ++ [(way ++ [(s.at_, x.1)], x.2)]) ∧ Ways (stepOn s c x).1 lv' ∧ Ways (stepOn s c x).1 cur ∧ lv'.map (·.2) = (stepOn s c x).2 ∧ Steps (stepOn s c x).1 s way := by
  refine ⟨_, rfl, ?_⟩
  unfold stepOn
  cases h : (lookM c.1 x.2).isSome with
  | true => exact ⟨hl, hc, e, hw⟩
  | false =>
    have hn : lookM c.1 x.2 = none := by
      cases z : lookM c.1 x.2 with
      | none => rfl
      | some y => rw [z] at h; cases h
    refine ⟨fun y hy => ?_, hc.more, ?_, hw.more⟩
    · have hy : y ∈ lv ++ [(way ++ [(s.at_, x.1)], x.2)] := hy
      rcases List.mem_append.mp hy with q | q
      · exact (hl y q).more
      · rw [List.mem_singleton.mp q]
        exact .next (lookM_last hn) hw.more
    · show (lv ++ [(way ++ [(s.at_, x.1)], x.2)]).map (·.2) = c.2 ++ [x.2]
      rw [List.map_append, e]
      rfl
theorem stepOn_len (s : Sx) (c : Wl) (x : Int × Sx) : (stepOn s c x).1.length ≤ c.1.length + 1 ∧ (stepOn s c x).2.length ≤ c.2.length + 1 := by
  unfold stepOn
  split
  · exact ⟨by omega, by omega⟩
  · exact ⟨by simp, by simp⟩
theorem onward_len (rs : List Rw) (ms : List Int) (r : Rw) (s : Sx) : (onwardOf rs ms r s).length ≤ 2 := by
  unfold onwardOf
  refine Nat.le_trans (List.length_filter_le _ _) ?_
  rw [List.length_map]
  exact waysOf_len ms r s.going
end LB
namespace LB
open PySem PySem.Spec PyProof.Rows L2
/-! ### data of known depth -/
def Shp (k : Nat) (d : PyData) : Prop := PyData.canLay0 d = true ∧ PyData.depth d ≤ k
def ShpA (k : Nat) (ds : List PyData) : Prop := PyData.canLayAll0 ds = true ∧ PyData.depthAll ds ≤ k
theorem shpA_nil (k : Nat) : ShpA k [] := ⟨rfl, Nat.zero_le _⟩
theorem shpA_cons {k : Nat} {d : PyData} {ds : List PyData} (h : Shp k d) (t : ShpA k ds) : ShpA k (d :: ds) := ⟨by
  show (PyData.canLay0 d && PyData.canLayAll0 ds) = true
  rw [h.1, t.1]
  rfl, Nat.max_le.mpr ⟨h.2, t.2⟩⟩
theorem shpA_map {α : Type} {k : Nat} {c : α → PyData} (h : ∀ x, Shp k (c x)) : ∀ xs : List α, ShpA k (xs.map c)
  | [] => shpA_nil k
  | x :: xs => shpA_cons (h x) (shpA_map h xs)
theorem shp_list {k : Nat} {ds : List PyData} (h : ShpA k ds) : Shp (k + 1) (.list ds) := ⟨h.1, Nat.succ_le_succ h.2⟩
theorem shp_tup {k : Nat} {ds : List PyData} (h : ShpA k ds) : Shp (k + 1) (.tuple ds) := ⟨h.1, Nat.succ_le_succ h.2⟩
theorem shp_int (k : Nat) (i : Int) : Shp k (.int i) := ⟨rfl, Nat.zero_le _⟩
theorem shp_non (k : Nat) : Shp k .none := ⟨rfl, Nat.zero_le _⟩
theorem shp_up {k m : Nat} {d : PyData} (h : Shp k d) (e : k ≤ m) : Shp m d := ⟨h.1, Nat.le_trans h.2 e⟩
theorem Shp.shaped {k : Nat} {d : PyData} (h : Shp k d) (e : k ≤ 64) : SeqAt.shaped d = true := by
  unfold SeqAt.shaped
  rw [h.1, decide_eq_true (Nat.le_trans h.2 e)]
  rfl
theorem shp_go (g : Go) : Shp 1 (goD g) := by
  unfold goD
  split
  · exact shp_non 1
  · exact shp_tup (shpA_cons (shp_int 0 _) (shpA_cons (shp_int 0 _) (shpA_nil 0)))
theorem shp_lst (s : Sx) : Shp 2 (lstD s) := shp_tup (shpA_cons (shp_int 1 _) (shpA_cons (shp_go _) (shpA_cons (shp_tup (shpA_map (fun i => shp_int 0 i) _)) (shpA_nil 1))))
theorem shp_step (g : Go) : Shp 1 (stepD g) := shp_tup (shpA_cons (shp_int 0 _) (shpA_cons (shp_int 0 _) (shpA_nil 0)))
theorem shp_lv (x : List Go × Sx) : Shp 3 (lvD x) := shp_tup (shpA_cons (shp_list (shpA_map shp_step _)) (shpA_cons (shp_lst _) (shpA_nil 2)))
theorem shp_lvs (lv : List (List Go × Sx)) : SeqAt.shaped (.list (lv.map lvD)) = true := (shp_list (shpA_map shp_lv lv)).shaped (by decide)
theorem eqv_nilL (ds : List PyData) : PyData.eqv (.list ds) (.list []) = ds.isEmpty := by cases ds <;> rfl
theorem notN_br (x : Br) : (!isNo (brD x)) = x.isSome := by cases x <;> rfl
def lookD (l : List Go) (s : Sx) (why : Str) (box : Int) : PyData := .tuple [.list ((l ++ [(s.at_, 0)]).map stepD), .str why, .int box]
theorem state_at (s : Sx) : atI [PyData.int s.at_, goD s.going, .tuple (s.waits.map .int)] 0 = some (.int s.at_) := atI_nat (j := 0) rfl
section
variable {P : Program} {w : World} {K : PySem.W.Frag} {σ : L2.St} {H H' : Hp} {ta : TE}
theorem eb_notinN {i : Nat} {d : Addr} {ms : List Sx} {s : Sx} (ha : EvD K ta σ H (lstD s)) (hv : σ[i]? = some (some (.ref d))) (hm : MetAt P w K H d ms) : EvB (tTest (tOp (rInN P w K true) ta (tVar i))) σ H (!hasS ms s) := fun H1 sm Q q =>
  ha H1 sm _ fun v H2 s2 dv => by
    obtain ⟨a, rfl, nk⟩ := lst_key dv
    obtain ⟨xs, nd, e⟩ := met_same (sm.trans s2) hm
    refine ⟨_, hv, a, d, lkey s, xs, rfl, rfl, nk, lkey_deep s, nd, !(valN xs (lkey s)).isSome, rfl, ?_⟩
    rw [val_has s e]
    exact q H2 s2
end
section
variable {P : Program} {w : World} {K : PySem.W.Frag} {mg : Str → Option Value} {base : Heap}
def spLLook (K : PySem.W.Frag) : Sp := fun vs H Q _ => ∃ (pv mv : V) (rs : List Rw) (ms : List Int), vs = [pv, mv] ∧ Dp K H pv (progD rs) ∧ Dp K H mv (millD ms) ∧ RsOk rs ∧ MillOk ms ∧
  ((lookAll rs ms).2 = .nil → ∀ H', Same H H' → Q .non H') ∧ ((lookAll rs ms).2 = .many → ∀ H', Same H H' → Q (.str "many") H') ∧
  (∀ s why box l, (lookAll rs ms).2 = .at_ s why box → Steps (lookAll rs ms).1 s l → ∀ v H', Same H H' → Dp K H' v (lookD l s why box) → Q v H')
structure LInv (P : Program) (w : World) (K : PySem.W.Frag) (H : Hp) (rs : List Rw) (ms : List Int) (d L : Addr) (n : Nat) (cm : Cm) (ss : List Sx) (lv : List (List Go × Sx)) (H' : Hp) : Prop where
  s : Same H H'
  free : H d = none
  met : MetAt P w K H' d (cm.map (·.1))
  lst : LstQ K (fun a => a = d) H' L (lv.map lvD)
  ne : L ≠ d
  ways : Ways cm lv
  states : lv.map (·.2) = ss
  ok : LvOk rs (252 - n) cm ss
  look : lookP rs ms n cm ss = lookAll rs ms
  fuel : ss = [] ∨ 252 ≤ cm.length + n
  few : ss = [] ∨ cm.length ≤ 250
  n252 : n ≤ 252
  few2 : ss.length ≤ cm.length
theorem scLLook : FnScope ["_law_program", "_law_mill_here", "_law_begin", "_law_met", "_law_level", "_law_further", "_law_way", "_law_state", "_law_why", "_law_went", "_law_behind"] ["_law_program", "_law_mill_here"] (defScope s__law_look) := ⟨rfl, rfl, rfl, by decide +kernel, rfl, by decide +kernel, by decide +kernel⟩
theorem ok_llook {f : Addr} {fd : FuncData} (F : Fun K "_law_look" "_law_look" s__law_look f fd) (BR : Cal P w K mg base 2 "_law_broken" ["_law_program", "_law_mill_here", "_law_state"] (dLBr K)) (ON : Cal P w K mg base 2 "_law_onward" ["_law_program", "_law_mill_here", "_law_state"] (dLOn K)) (B : Bl2 mg) : FnOk P w K mg base CX0 3 f fd ["_law_program", "_law_mill_here"] (spLLook K) := by
  refine F.ok scLLook (fun vs H Q E h => ?_) (fun cdv A outer s H vs Q E hr h => ?_)
  · obtain ⟨pv, mv, rs, ms, rfl, _⟩ := h
    rfl
  · obtain ⟨pv1, mv, rs, ms, rfl, d_prog, d_mill, hR, hM, kNil, kMany, kAt⟩ := h
    have hu := hr.units
    have hr2 : Room 2 _ := hr.mono (by decide)
    refine ⟨_, (pss_cons (ps_set (i := 2) scLLook.nd rfl (Or.inl rfl) (pe_tup (pa_cons pe_int (pa_cons pe_non (pa_cons (pe_op op_repT (pe_tup (pa_cons pe_int pa_nil)) pe_int) pa_nil))))) (pss_cons (ps_set (i := 3) scLLook.nd rfl (Or.inl rfl) (show PE _ _ (tNDisp P w K (tVar 2) (tC (.bl true))) from pe_ndisp hu (pv 2) pe_bl)) (pss_cons (ps_set (i := 4) scLLook.nd rfl (Or.inl rfl) (pe_lst (pa_cons (pe_tup (pa_cons (pe_lst pa_nil) (pa_cons (pv 2) pa_nil))) pa_nil))) (pss_cons (ps_while PassesOwn.never (pt_cmpR (op_neD hr.units) (pv 4) (pe_lst pa_nil) (nomark _)) (pss_cons (ps_set (i := 5) scLLook.nd rfl (Or.inl rfl) (pe_lst pa_nil)) (pss_cons (ps_for PassesOwn.never rfl (pi_list (pv 4)) (pg_tup rfl (pgs_cons (pg_name (i := 6) scLLook.nd rfl (Or.inl rfl)) (pgs_cons (pg_name (i := 7) scLLook.nd rfl (Or.inl rfl)) pgs_nil))) (pss_cons (ps_set (i := 8) scLLook.nd rfl (Or.inl rfl) (pe_cal BR hr2 (pa_cons (pv 0) (pa_cons (pv 1) (pa_cons (pv 7) pa_nil))))) (pss_cons (ps_if (pt_cmpR op_notN (pv 8) pe_non (nomark _)) (pss_one (ps_ret (pe_op op_catA (pe_tup (pa_cons (pe_op op_cat (pv 6) (pe_lst (pa_cons (pe_tup (pa_cons (pe_ix ix_tup (pv 7) pe_int (fun _ _ => rfl)) (pa_cons pe_int pa_nil))) pa_nil))) pa_nil)) (pv 8)))) pss_nil) (pss_one (ps_for PassesOwn.never rfl (pi_list (pe_cal ON hr2 (pa_cons (pv 0) (pa_cons (pv 1) (pa_cons (pv 7) pa_nil))))) (pg_tup rfl (pgs_cons (pg_name (i := 9) scLLook.nd rfl (Or.inl rfl)) (pgs_cons (pg_name (i := 10) scLLook.nd rfl (Or.inl rfl)) pgs_nil))) (pss_one (ps_if (pt_cmpR (show OpR _ _ (rInN P w K true) from op_notinN hu) (pv 10) (pv 3) (by rfl)) (pss_cons (ps_asg pe_bl (pg_sub (pv 3) (pv 10) (show PSet _ (rSetN P w K) from set_N hu))) (pss_one (ps_expr (pe_bm PySem.F.plainAttrs_list PySem.F.slot_list_append PySem.F.type_list_append mt_append (pv 5) (pa_cons (pe_tup (pa_cons (pe_op op_cat (pv 6) (pe_lst (pa_cons (pe_tup (pa_cons (pe_ix ix_tup (pv 7) pe_int (fun _ _ => rfl)) (pa_cons (pv 9) pa_nil))) pa_nil))) (pa_cons (pv 10) pa_nil))) pa_nil))))) pss_nil))))))) (pss_cons (ps_if (pt_cmpR op_gt (pe_callB (show CallR _ _ (rLenN P w K) from call_lenN) (by rfl) B.b.len PySem.boot_len (pa_cons (pv 3) pa_nil)) pe_int (nomark _)) (pss_one (ps_ret pe_str)) pss_nil) (pss_one (ps_set (i := 4) scLLook.nd rfl (Or.inl rfl) (pv 5))))))) (pss_one (ps_ret pe_non)))))), ?_⟩
    -- the beginning
    refine ⟨by show 1 ≤ sizeLine; decide, fun t0 ht0 => ⟨t0, 8, [.int 0], rfl, rfl, tup_of upd_same, by simp, by decide, by decide, by decide, fun t1 ht1 => ⟨by show 3 ≤ sizeLine; decide, fun a0 ha0 => ?_⟩⟩⟩
    have sA := ((same_new ht0 (.tup [.int 0])).trans (same_new ht1 (.tup (List.replicate (8 : Int).toNat [V.int 0]).flatten))).trans (same_new ha0 (.tup [.int 0, .non, .ref t1]))
    have dB : Dp K (upd (upd (upd H t0 (.tup [.int 0])) t1 (.tup (List.replicate (8 : Int).toNat [V.int 0]).flatten)) a0 (.tup [.int 0, .non, .ref t1])) (.ref a0) (lstD first0) := lst_dp ⟨a0, .non, t1, rfl, tup_of upd_same, (by unfold LGoAt; rw [if_pos (show first0.going = nog from rfl)]), same_tup (same_new ha0 _) (tup_of (by rw [upd_same, rep8]; rfl))⟩
    generalize hHa : upd (upd (upd H t0 (.tup [.int 0])) t1 (.tup (List.replicate (8 : Int).toNat [V.int 0]).flatten)) a0 (.tup [.int 0, .non, .ref t1]) = Ha at *
    refine fun d hd => ?_
    obtain ⟨a0', ea, nk⟩ := lst_key (dp_same (same_new hd (.ext (NdObj P w d []))) dB)
    obtain rfl : a0 = a0' := by cases ea; rfl
    refine ⟨_, rfl, a0, lkey first0, rfl, nk, lkey_deep _, upd_same, ?_⟩
    have hHd : H d = none := sA.free hd
    have sB : Same Ha (upd (upd Ha d (.ext (NdObj P w d []))) d (.ext (NdObj P w d [(lkey first0, a0, .bl true)]))) := fun b o e => by
      rw [upd_ne (ne_of_none e hd), upd_ne (ne_of_none e hd)]
      exact e
    have hM0 : MetAt P w K (upd (upd Ha d (.ext (NdObj P w d []))) d (.ext (NdObj P w d [(lkey first0, a0, .bl true)]))) d ([((first0, none) : Sx × Pr)].map (·.1)) := ⟨_, ND.made upd_same nk (lkey_deep _), rfl⟩
    have hde : (upd (upd Ha d (.ext (NdObj P w d []))) d (.ext (NdObj P w d [(lkey first0, a0, .bl true)]))) d = some (.ext (NdObj P w d [(lkey first0, a0, .bl true)])) := upd_same
    have dB2 := dp_same sB dB
    generalize hHb : upd (upd Ha d (.ext (NdObj P w d []))) d (.ext (NdObj P w d [(lkey first0, a0, .bl true)])) = Hb at *
    -- the first level
    refine ⟨by show 0 ≤ sizeLine; decide, fun W0 hW0 => ⟨_, rfl, by show 2 ≤ sizeLine; decide, fun t2 ht2 => ⟨by show 1 ≤ sizeLine; decide, fun L0 hL0 => ?_⟩⟩⟩
    have sW := same_new hW0 (.lst [])
    have s2 := same_new ht2 (.tup [.ref W0, .ref a0])
    have sL := same_new hL0 (.lst [.ref t2])
    have nWd : W0 ≠ d := fun z => by rw [z, hde] at hW0; cases hW0
    have nLd : L0 ≠ d := fun z => by rw [z, s2 _ _ (sW _ _ hde)] at hL0; cases hL0
    refine ⟨fun m σ' H' => ∃ (n : Nat) (cm : Cm) (ss : List Sx) (lv : List (List Go × Sx)) (L : Addr) (v5 v6 v7 v8 v9 va : Option V), m = (if ss = [] then 0 else n + 1) ∧ σ' = [some pv1, some mv, some (.ref a0), some (.ref d), some (.ref L), v5, v6, v7, v8, v9, va] ∧ LInv P w K H rs ms d L n cm ss lv H',
      ⟨_, 252, [(first0, none)], [first0], [([], first0)], L0, _, _, _, _, _, _, rfl, rfl, ⟨((sA.trans sB).trans sW).trans (s2.trans sL), hHd, met_same ((sW.trans s2).trans sL) hM0, ⟨_, upd_same, .cons (.tup (tup_of (sL _ _ upd_same)) (.cons (.lst nWd (sL _ _ (s2 _ _ upd_same)) .nil) (.cons (dq_noL (noL_lst _) (dp_same ((sW.trans s2).trans sL) dB2)) .nil))) .nil⟩, nLd, fun x hx => (by rw [List.mem_singleton.mp hx]; exact .first (if_pos rfl)), rfl, first_ok hR, rfl, .inr (by decide), .inr (by decide), by decide, by decide⟩⟩, ?_⟩
    rintro m σ' H' ⟨n, cm, ss, lv, L, v5, v6, v7, v8, v9, va, rfl, rfl, I⟩
    refine (eb_of (ed_neD (ed_var rfl I.lst.dp) (en_lst (K := K) ea_nil (show 0 ≤ 1000 by decide)).toD (shp_lvs lv) (shaped_ints []))) H' (Same.refl _) _ fun H1 s1 => ?_
    have nilE : (!PyData.eqv (.list (lv.map lvD)) (.list [])) = !lv.isEmpty := by rw [eqv_nilL, List.isEmpty_map]
    rw [nilE]
    have I1s := I.s.trans s1
    refine if_both (fun e => ?_) (fun e => ?_)
    rotate_left
    · have hne : ss = [] := by
        rw [← I.states]
        cases lv with
        | nil => rfl
        | cons _ _ => cases e
      refine kNil ?_ _ I1s
      rw [← I.look, hne]
      exact look_nil rs ms n cm
    have hne : ss ≠ [] := by
      intro z
      rw [← I.states] at z
      rw [List.map_eq_nil_iff.mp z] at e
      cases e
    have le250 : cm.length ≤ 250 := I.few.resolve_left hne
    have f252 : 252 ≤ cm.length + n := I.fuel.resolve_left hne
    have n252 := I.n252
    obtain ⟨n', rfl⟩ : ∃ n', n = n' + 1 := ⟨n - 1, by omega⟩
    rw [if_neg hne]
    have lvlen : lv.length = ss.length := by rw [← I.states, List.length_map]
    have few2 := I.few2
    refine ⟨fun σ' H2 => ∃ m', m' < n' + 1 + 1 ∧ ∃ (n : Nat) (cm : Cm) (ss : List Sx) (lv : List (List Go × Sx)) (L : Addr) (v5 v6 v7 v8 v9 va : Option V), m' = (if ss = [] then 0 else n + 1) ∧ σ' = [some pv1, some mv, some (.ref a0), some (.ref d), some (.ref L), v5, v6, v7, v8, v9, va] ∧ LInv P w K H rs ms d L n cm ss lv H2, fun _ _ h => h, ?_⟩
    refine ⟨by show 0 ≤ sizeLine; decide, fun Fa hF => ?_⟩
    have sF := same_new hF (.lst [])
    have hF0 : H Fa = none := I1s.free hF
    obtain ⟨xsM, ndM, eM⟩ := met_same s1 I.met
    have nFd : Fa ≠ d := fun z => by rw [z, ndM.at_] at hF; cases hF
    have hbad : ∀ a, (a = d ∨ a = Fa) → H a = none := fun a z => by
      rcases z with z | z
      · rw [z]; exact I.free
      · rw [z]; exact hF0
    obtain ⟨vL, eL, aL⟩ := (I.lst.same s1)
    have nLF : L ≠ Fa := fun z => by rw [z, hF] at eL; cases eL
    have aL2 : DqAll K (fun a => a = d ∨ a = Fa) (upd H1 Fa (.lst [])) vL (lv.map lvD) := dqAll_same sF (dqAll_more (fun a xs ha n z => by
      rcases z with z | z
      · exact n z
      · rw [z, hF] at ha; cases ha) aL)
    have hLd : ¬ (L = d ∨ L = Fa) := fun z => z.elim I.ne nLF
    have S0 : Same H (upd H1 Fa (.lst [])) := I1s.trans sF
    have hFe : (upd H1 Fa (.lst [])) Fa = some (.lst []) := upd_same
    have met0 : MetAt P w K (upd H1 Fa (.lst [])) d (cm.map (·.1)) := met_same (s1.trans sF) I.met
    have eL2 := sF _ _ eL
    generalize hHf : upd H1 Fa (.lst []) = Hf at *
    refine ⟨_, rfl, L, rfl, ⟨_, SqL.of eL2⟩, for_list (K := K) (a := L) (xs := vL) (fun j σ' H2 => ∃ (lvF : List (List Go × Sx)) (v6 v7 v8 v9 va : Option V), σ' = [some pv1, some mv, some (.ref a0), some (.ref d), some (.ref L), some (.ref Fa), v6, v7, v8, v9, va] ∧ Chg K (fun a => a = d ∨ a = Fa) Hf H2 ∧ MetAt P w K H2 d (((ss.take j).foldl (stepSt rs ms) (cm, [])).1.map (·.1)) ∧ LstQ K (fun a => a = d ∨ a = Fa) H2 Fa (lvF.map lvD) ∧ Ways ((ss.take j).foldl (stepSt rs ms) (cm, [])).1 lvF ∧ lvF.map (·.2) = ((ss.take j).foldl (stepSt rs ms) (cm, [])).2 ∧ Ways ((ss.take j).foldl (stepSt rs ms) (cm, [])).1 lv ∧ badOf rs ms (ss.take j) = none)
      ⟨[], _, _, _, _, _, rfl, Chg.refl _, met0, ⟨[], hFe, .nil⟩, fun x hx => (by cases hx), rfl, I.ways, rfl⟩ (fun j σ' H2 _ ⟨_, _, _, _, _, _, _, c, _⟩ => SqL.of (c.but _ _ hLd eL2)) ?_ ?_⟩
    · rintro j x σ' H2 hx ⟨lvF, v6, v7, v8, v9, va, rfl, cg, met, lstF, wF, eF, wL, hb⟩
      obtain ⟨d1, hd1, dq1⟩ := dqAll_at aL2 hx
      rw [List.getElem?_map] at hd1
      obtain ⟨⟨way, s⟩, hls, rfl⟩ := Option.map_eq_some_iff.mp hd1
      have hs : ss[j]? = some s := by rw [← I.states, List.getElem?_map, hls]; rfl
      have dq1 := dq_chg cg dq1
      have dq1 : Dq K (fun a => a = d ∨ a = Fa) H2 x (.tuple [.list (way.map stepD), lstD s]) := dq1
      cases dq1 with
      | tup hsq a =>
        rcases a with _ | ⟨dw, _ | ⟨ds, ⟨⟩⟩⟩
        rename_i ta wv sv
        refine ⟨_, _, rfl, hsq, rfl, _, _, rfl, _, _, rfl, rfl, ?_⟩
        obtain ⟨⟨h0, h1, h2, h3⟩, l, hl, hln⟩ := I.ok s (List.mem_of_getElem? hs)
        have hlt : s.at_.toNat < rs.length := by omega
        obtain ⟨r, hr0⟩ : ∃ r, rs[s.at_.toNat]? = some r := ⟨_, List.getElem?_eq_getElem hlt⟩
        have rok := hR.2.2 r (List.mem_of_getElem? hr0)
        have efl : flawOf rs ms s = brOf rs.length ms r s := by unfold flawOf; rw [hr0]
        have hway : Steps cm s way := I.ways _ (List.mem_of_getElem? hls)
        have waylen : way.length ≤ 252 := by
          rw [steps_det hway hl]
          omega
        have S : Same H H2 := Same.chg S0 cg hbad
        have dS := dq_dp ds
        have pre : LPre (rs, ms, s, r) := ⟨hM, ⟨h0, h1, h2, h3⟩, hr0, rok⟩
        have dSt : Dp K H2 sv (.tuple [.int s.at_, goD s.going, .tuple (s.waits.map .int)]) := dS
        refine q_asg (ed_cal (rs, ms, s, r) (ea_cons (ed_var rfl (dp_same S d_prog)) (ea_cons (ed_var rfl (dp_same S d_mill)) (ea_cons (ed_var rfl dS) ea_nil))) pre) fun yv H3 s3 dy => ?_
        have S := S.trans s3
        obtain ⟨q1, q2⟩ := badOf_take hs hb
        refine q_when (b := (brOf rs.length ms r s).isSome) (EvB.eq (eb_of (K := K) (ed_notN (ed_var rfl dy))) (notN_br _)) (fun hbr H4 s4 => ?_) (fun hbr H4 s4 => ?_)
        · cases hx2 : brOf rs.length ms r s with
          | none => rw [hx2] at hbr; cases hbr
          | some x2 =>
            have dy4 := dp_same s4 dy
            have dy4 : Dp K H4 yv (brD (brOf rs.length ms r s)) := dy4
            rw [hx2] at dy4
            have dy4 : Dp K H4 yv (.tuple [.str x2.1, .int x2.2]) := dy4
            have efin : lookP rs ms (n' + 1) cm ss = (cm, .at_ s x2.1 x2.2) := look_bad hne le250 (q2 x2 (by rw [efl, hx2]))
            have elA : lookAll rs ms = (cm, .at_ s x2.1 x2.2) := by rw [← I.look, efin]
            cases dw with
            | lst nb ew aw =>
              have hWl : LstAt K H4 _ (way.map stepD) := ⟨_, (s3.trans s4) _ _ ew, dpAll_same (s3.trans s4) (dqAll_dp aw)⟩
              refine s_ret (EvD.eq (ed_catT (ed_tup (ea_cons (EvN.toD (en_catL (el_var rfl hWl) (EvN.toL (en_lst (ea_cons (ed_tup (ea_cons (ed_ixT (ed_var rfl (dp_same (s3.trans s4) dSt)) ed_int (state_at s)) (ea_cons ed_int ea_nil)) (show 2 ≤ 1000 by decide)) ea_nil) (show 1 ≤ 1000 by decide))) (by rw [List.length_map]; show _ + 1 ≤ 5000; omega))) ea_nil) (show 1 ≤ 1000 by decide)) (ed_var rfl dy4) (show 1 + 2 ≤ 5000 by decide)) (show _ = lookD way s x2.1 x2.2 by unfold lookD; rw [List.map_append]; rfl)) fun v H5 s5 dv => ?_
              exact kAt s x2.1 x2.2 way (by rw [elA]) (by rw [elA]; exact hway) v H5 ((S.trans s4).trans s5) dv
        · have hx2 : brOf rs.length ms r s = none := by
            cases z : brOf rs.length ms r s with
            | none => rfl
            | some y => rw [z] at hbr; cases hbr
          have S := S.trans s4
          have hb2 := q1 (by rw [efl, hx2])
          have est : (ss.take (j + 1)).foldl (stepSt rs ms) (cm, []) = (onwardOf rs ms r s).foldl (stepOn s) ((ss.take j).foldl (stepSt rs ms) (cm, [])) := by
            rw [List.take_add_one, hs, List.foldl_append]
            show stepSt rs ms _ s = _
            exact step_on hr0 _
          have tk250 : (ss.take j).length ≤ 250 := by
            rw [List.length_take]
            omega
          have bd1 : ((ss.take j).foldl (stepSt rs ms) (cm, [])).1.length ≤ cm.length + 2 * (ss.take j).length := (foldSt_len rs ms (ss.take j) (cm, [])).1
          have bd2 : ((ss.take j).foldl (stepSt rs ms) (cm, [])).2.length ≤ 0 + 2 * (ss.take j).length := (foldSt_len rs ms (ss.take j) (cm, [])).2
          have wcur := wL _ (List.mem_of_getElem? hls)
          generalize hcc : (ss.take j).foldl (stepSt rs ms) (cm, []) = c at *
          have s34 := s3.trans s4
          have cg4 := cg.trans (Chg.of s34)
          have ex : ∀ a, (a = d ∨ a = Fa) → ∃ o, H4 a = some o := fun a z => by
            rcases z with z | z
            · obtain ⟨xs, nd, _⟩ := met_same s34 met
              rw [z]
              exact ⟨_, nd.at_⟩
            · obtain ⟨vs, e, _⟩ := lstF.same s34
              rw [z]
              exact ⟨_, e⟩
          cases dw with
          | lst nb ew aw =>
            rename_i Wa wxs
            refine s_for ((ei_new (bad := fun a => a = d ∨ a = Fa) (en_cal (rs, ms, s, r) (ea_cons (ed_var rfl (dp_same S d_prog)) (ea_cons (ed_var rfl (dp_same S d_mill)) (ea_cons (ed_var rfl (dp_same s34 dS)) ea_nil))) pre) ex (noLs_map noL_pair)) |> EvI.len (List.length_map ..)) tg2 (fun i d e => ?_)
              (fun Hb i σ' H5 => Chg K (fun a => a = d ∨ a = Fa) Hb H5 ∧ Chg K (fun a => a = d ∨ a = Fa) Hf H5 ∧ ∃ (lvG : List (List Go × Sx)) (v9 va : Option V), σ' = [some pv1, some mv, some (.ref a0), some (.ref d), some (.ref L), some (.ref Fa), some (.ref Wa), some sv, some yv, v9, va] ∧ H5 Wa = some (.lst wxs) ∧ DqAll K (fun a => a = d ∨ a = Fa) H5 wxs (way.map stepD) ∧ Dp K H5 sv (lstD s) ∧ MetAt P w K H5 d ((((onwardOf rs ms r s).take i).foldl (stepOn s) c).1.map (·.1)) ∧ LstQ K (fun a => a = d ∨ a = Fa) H5 Fa (lvG.map lvD) ∧ Ways (((onwardOf rs ms r s).take i).foldl (stepOn s) c).1 lvG ∧ lvG.map (·.2) = (((onwardOf rs ms r s).take i).foldl (stepOn s) c).2 ∧ Ways (((onwardOf rs ms r s).take i).foldl (stepOn s) c).1 lv ∧ Steps (((onwardOf rs ms r s).take i).foldl (stepOn s) c).1 s way ∧ (((onwardOf rs ms r s).take i).foldl (stepOn s) c).1.length ≤ c.1.length + i ∧ (((onwardOf rs ms r s).take i).foldl (stepOn s) c).2.length ≤ c.2.length + i)
              (fun H5 s5 => ⟨Chg.refl _, cg4.trans (Chg.of s5), lvF, _, _, rfl, (s34.trans s5) _ _ ew, dqAll_same (s34.trans s5) aw, dp_same (s34.trans s5) dS, met_same (s34.trans s5) met, lstF.same (s34.trans s5), wF, eF, wL, wcur, Nat.le_refl _, Nat.le_refl _⟩) (fun _ _ _ _ p => p.1) ?_ ?_
            · rw [List.getElem?_map] at e
              obtain ⟨t, _, rfl⟩ := Option.map_eq_some_iff.mp e
              exact ⟨_, _, rfl⟩
            · rintro Hb i d' σ' H5 σ2 H6 _ hi e ⟨cb, cf, lvG, v9, va, rfl, ew5, aw5, dS5, met5, lst5, wG, eG, wL5, ws5, len1, len2⟩ s6 ⟨v, u, a, b, rfl, dv, du, rfl⟩
              rw [List.getElem?_map] at e
              obtain ⟨⟨z, t⟩, et, eq⟩ := Option.map_eq_some_iff.mp e
              cases eq
              have ei : ((onwardOf rs ms r s).take (i + 1)).foldl (stepOn s) c = stepOn s (((onwardOf rs ms r s).take i).foldl (stepOn s) c) (z, t) := by
                rw [List.take_add_one, et, List.foldl_append]
                rfl
              have i2 : i < 2 := by
                have hi : i < (onwardOf rs ms r s).length := hi
                have := onward_len rs ms r s
                omega
              rw [ei]
              generalize hci : ((onwardOf rs ms r s).take i).foldl (stepOn s) c = ci at *
              have met6 := met_same s6 met5
              have sl := stepOn_len s ci (z, t)
              obtain ⟨lv', elv, w1, w2, w3, w4⟩ := stepOn_ways (x := (z, t)) ws5 wG wL5 eG
              have hasl : hasS (ci.1.map (·.1)) t = (lookM ci.1 t).isSome := has_look t ci.1
              refine s_if (b := !hasS (ci.1.map (·.1)) t) (eb_notinN (P := P) (w := w) (ed_var rfl du) rfl met6) (fun hb7 H7 s7 => ?_) (fun hb7 H7 s7 => ?_)
              · have hno : (lookM ci.1 t).isSome = false := by
                  rw [← hasl]
                  cases q : hasS (ci.1.map (·.1)) t with
                  | false => rfl
                  | true => rw [q] at hb7; cases hb7
                have en : stepOn s ci (z, t) = (ci.1 ++ [(t, some (s, z))], ci.2 ++ [t]) := by
                  unfold stepOn
                  rw [if_neg (by rw [hno]; decide)]
                have elv2 : lv' = lvG ++ [(way ++ [(s.at_, z)], t)] := by rw [elv, if_neg (by rw [hno]; decide)]
                obtain ⟨xs, nd, ek, exl⟩ := met_len (met_same s7 met6)
                have du7 := dp_same s7 du
                obtain ⟨ta2, rfl, nk⟩ := lst_key du7
                have hval : valN xs (lkey t) = none := by
                  have q := val_has t ek
                  rw [hasl, hno] at q
                  cases y : valN xs (lkey t) with
                  | none => rfl
                  | some _ => rw [y] at q; cases q
                have xl : xs.length < sizeLine := by
                  rw [exl, List.length_map]
                  exact small1000 (by omega)
                refine ⟨_, rfl, _, rfl, ta2, d, lkey t, xs, rfl, rfl, nk, lkey_deep t, nd, hval, xl, ?_⟩
                have nd8 := nd.stored (v := .bl true) nk (lkey_deep t) xl
                have cs : Chg K (fun a => a = d ∨ a = Fa) H7 (upd H7 d (.ext (NdObj P w d (xs ++ [(lkey t, ta2, .bl true)])))) := ⟨fun b o n e => by rw [upd_ne (fun q => n (.inl q))]; exact e, fun b ys q => by
                  have ne : ∀ o, H7 b = some o → (∀ y, o ≠ .ext y) → b ≠ d := fun o e n z => by
                    rw [z, nd.at_] at e
                    exact n _ (Option.some.inj e).symm
                  rcases q with (q | ⟨o, q⟩) | q
                  · exact .inl (.inl (by rw [upd_ne (ne _ q (by intro y z; cases z))]; exact q))
                  · exact .inl (.inr ⟨o, by rw [upd_ne (ne _ q (by intro y z; cases z))]; exact q⟩)
                  · exact .inr q⟩
                have met8 : MetAt P w K (upd H7 d (.ext (NdObj P w d (xs ++ [(lkey t, ta2, .bl true)])))) d ((ci.1 ++ [(t, some (s, z))]).map (·.1)) := ⟨_, nd8, by rw [List.map_append, ek, List.map_append, List.map_append]; rfl⟩
                have c58 : Chg K (fun a => a = d ∨ a = Fa) H5 (upd H7 d (.ext (NdObj P w d (xs ++ [(lkey t, ta2, .bl true)])))) := (Chg.of (s6.trans s7)).trans cs
                have l8 : LstQ K (fun a => a = d ∨ a = Fa) (upd H7 d (.ext (NdObj P w d (xs ++ [(lkey t, ta2, .bl true)])))) Fa (lvG.map lvD) := by
                  obtain ⟨vs, e1, e2⟩ := lst5.same (s6.trans s7)
                  exact ⟨vs, by rw [upd_ne nFd]; exact e1, dqAll_chg cs e2⟩
                have ew8 : (upd H7 d (.ext (NdObj P w d (xs ++ [(lkey t, ta2, .bl true)])))) Wa = some (.lst wxs) := cs.but _ _ nb ((s6.trans s7) _ _ ew5)
                have aw8 := dqAll_chg c58 aw5
                have dS8 : Dp K (upd H7 d (.ext (NdObj P w d (xs ++ [(lkey t, ta2, .bl true)])))) sv (lstD s) := dp_grow c58.grow (noL_lst s) dS5
                have du8 : Dp K (upd H7 d (.ext (NdObj P w d (xs ++ [(lkey t, ta2, .bl true)])))) (.ref ta2) (lstD t) := dp_grow cs.grow (noL_lst t) du7
                have dv8 : Dp K (upd H7 d (.ext (NdObj P w d (xs ++ [(lkey t, ta2, .bl true)])))) v (.int z) := dp_grow cs.grow rfl (dp_same s7 dv)
                have ex8 : ∀ a, (a = d ∨ a = Fa) → ∃ o, (upd H7 d (.ext (NdObj P w d (xs ++ [(lkey t, ta2, .bl true)])))) a = some o := fun a y => by
                  rcases y with y | y
                  · rw [y]; exact ⟨_, upd_same⟩
                  · obtain ⟨vs, e1, _⟩ := l8
                    rw [y]
                    exact ⟨_, e1⟩
                generalize hH8 : upd H7 d (.ext (NdObj P w d (xs ++ [(lkey t, ta2, .bl true)]))) = H8 at *
                have lgl : lvG.length ≤ 1000 := by
                  have := congrArg List.length eG
                  rw [List.length_map] at this
                  omega
                have dSt8 : Dp K H8 sv (.tuple [.int s.at_, goD s.going, .tuple (s.waits.map .int)]) := dS8
                refine s_appQ rfl l8 (d := lvD (way ++ [(s.at_, z)], t)) (eq_tup2 (EvN.toQ (EvN.eq (en_catL (el_var rfl ⟨_, ew8, dqAll_dp aw8⟩) (EvN.toL (en_lst (ea_cons (ed_tup (ea_cons (ed_ixT (ed_var rfl dSt8) ed_int (state_at s)) (ea_cons (ed_var rfl dv8) ea_nil)) (show 2 ≤ 1000 by decide)) ea_nil) (show 1 ≤ 1000 by decide))) (by rw [List.length_map]; show _ + 1 ≤ 5000; omega)) (es := (way ++ [(s.at_, z)]).map stepD) (by rw [List.map_append]; rfl)) (noLs_map noL_step) ex8) (EvD.toQ (ed_var rfl du8) (noL_lst t))) (by rw [List.length_map]; omega) (.inr rfl) fun H9 b9 c9 l9 => ?_
                have met9 : MetAt P w K H9 d ((ci.1 ++ [(t, some (s, z))]).map (·.1)) := by
                  obtain ⟨vs8, e8, _⟩ := l8
                  refine met_tk (fun o e => b9 _ _ (Ne.symm nFd) e) (fun b o e y => b9 _ _ (fun q => ?_) e) met8
                  rw [q, e8] at e
                  cases e
                  rcases y with ⟨_, y⟩ | ⟨_, _, y⟩ <;> cases y
                have c59 := c58.trans c9
                rw [en] at w1 w2 w3 w4 ⊢
                refine ⟨cb.trans c59, cf.trans c59, lv', _, _, rfl, c9.but _ _ nb ew8, dqAll_chg c9 aw8, dp_grow c9.grow (noL_lst s) dS8, met9, ?_, w1, w3, w2, w4, ?_, ?_⟩
                · rw [elv2, List.map_append]
                  exact l9
                · rw [List.length_append]; show _ + 1 ≤ _; omega
                · rw [List.length_append]; show _ + 1 ≤ _; omega
              · have hyes : (lookM ci.1 t).isSome = true := by
                  rw [← hasl]
                  cases q : hasS (ci.1.map (·.1)) t with
                  | true => rfl
                  | false => rw [q] at hb7; cases hb7
                have en : stepOn s ci (z, t) = ci := by
                  unfold stepOn
                  rw [if_pos hyes]
                have elv2 : lv' = lvG := by rw [elv, if_pos hyes]
                rw [en] at w1 w2 w3 w4 ⊢
                rw [elv2] at w1 w3
                have s67 := s6.trans s7
                exact ⟨cb.trans (Chg.of s67), cf.trans (Chg.of s67), lvG, _, _, rfl, s67 _ _ ew5, dqAll_same s67 aw5, dp_same s67 dS5, met_same s67 met5, lst5.same s67, w1, w3, w2, w4, by omega, by omega⟩
            · rintro Hb σ' H5 _ ⟨cb, cf, lvG, v9, va, rfl, ew5, aw5, dS5, met5, lst5, wG, eG, wL5, ws5, len1, len2⟩
              rw [List.take_length] at met5 wG eG wL5
              rw [← est] at met5 wG eG wL5
              exact ⟨lvG, _, _, _, _, _, rfl, cf, met5, lst5, wG, eG, wL5, hb2⟩
    · rintro σ' H2 ⟨lvF, v6, v7, v8, v9, va, rfl, cg, met, lstF, wF, eF, wL, hb⟩
      have vlen : vL.length = ss.length := by rw [dpAll_len (dqAll_dp aL2), List.length_map, lvlen]
      rw [vlen, List.take_length] at met wF eF wL hb
      have jn := next_ok (n := 252 - (n' + 1)) hR hM I.ok
      have enx : nextOf rs ms ss cm = ss.foldl (stepSt rs ms) (cm, []) := rfl
      rw [← enx] at met wF eF
      have S : Same H H2 := Same.chg S0 cg hbad
      have lk := look_go hne le250 hb (n := n')
      rw [I.look] at lk
      have jn1 := jn.new
      have jn3 := jn.len
      rw [show 252 - (n' + 1) + 1 = 252 - n' by omega] at jn1
      clear jn
      generalize hcc : nextOf rs ms ss cm = c at *
      obtain ⟨xs, nd, ek, exl⟩ := met_len met
      rw [List.length_map] at exl
      refine ⟨_, rfl, d, xs, rfl, nd, _, _, rfl, rfl, _, rfl, if_both (fun e2 => ?_) (fun e2 => ?_)⟩
      · have hg : c.1.length > 250 := by
          have := of_decide_eq_true e2
          omega
        refine kMany ?_ H2 S
        rw [lk]
        refine look_many ?_ hg
        intro z
        rw [z] at jn3
        have : ([] : List Sx).length = 0 := rfl
        omega
      · have hle : c.1.length ≤ 250 := by
          have := of_decide_eq_false e2
          omega
        refine ⟨_, rfl, (if c.2 = [] then 0 else n' + 1), ?_, n', c.1, c.2, lvF, Fa, _, _, _, _, _, _, rfl, rfl, ?_⟩
        · split <;> omega
        · refine ⟨S, I.free, met, ?_, nFd, wF, eF, ?_, lk.symm, ?_, .inr hle, by omega, by omega⟩
          · obtain ⟨vs, e1, e2⟩ := lstF
            exact ⟨vs, e1, dqAll_more (fun a xs _ n z => n (.inl z)) e2⟩
          · exact jn1
          · by_cases z : c.2 = []
            · exact .inl z
            · right
              have : c.2.length ≠ 0 := fun q => z (List.eq_nil_iff_length_eq_zero.mpr q)
              omega
end
end LB
namespace LB
open PySem L2
/-- where a row begins behind rests; rows told by that -/
def bgn (zs : List Int) (k : Nat) : Int := (k : Int) + (zs.take k).sum
def reGo (zs : List Int) : Rw → Rw
  | .go r => .go (bgn zs r.toNat)
  | .iff c r => .iff c (bgn zs r.toNat)
  | r => r
def rowOf (rs : List Rw) (i : Nat) : Rw := rs.getD i .rest
theorem rowOf_get {rs : List Rw} {i : Nat} (h : i < rs.length) : rs[i]? = some (rowOf rs i) := by
  unfold rowOf
  rw [List.getD_eq_getElem?_getD, List.getElem?_eq_getElem h]
  rfl
def foundTo (rs : List Rw) (zs : List Int) (k : Nat) : List Rw := (List.range k).flatMap fun i => reGo zs (rowOf rs i) :: List.replicate (zs.getD i 0).toNat .rest
theorem foundTo_succ (rs : List Rw) (zs : List Int) (k : Nat) : foundTo rs zs (k + 1) = (foundTo rs zs k ++ [reGo zs (rowOf rs k)]) ++ List.replicate (zs.getD k 0).toNat .rest := by
  unfold foundTo
  rw [List.range_succ, List.flatMap_append]
  simp
theorem sum_take_succ {zs : List Int} {k : Nat} (h : k < zs.length) : (zs.take (k + 1)).sum = (zs.take k).sum + zs.getD k 0 := by
  rw [List.take_add_one, List.getElem?_eq_getElem h, List.getD_eq_getElem?_getD, List.getElem?_eq_getElem h, List.sum_append]
  simp
theorem getD_bd {zs : List Int} {c : Int} (h : ∀ z, z ∈ zs → 0 ≤ z ∧ z ≤ c) (hc : 0 ≤ c) (k : Nat) : 0 ≤ zs.getD k 0 ∧ zs.getD k 0 ≤ c := by
  rw [List.getD_eq_getElem?_getD]
  cases e : zs[k]? with
  | none => exact ⟨Int.le_refl _, hc⟩
  | some z => exact h z (List.mem_of_getElem? e)
theorem foundTo_len {rs : List Rw} {zs : List Int} (h : ∀ z, z ∈ zs → 0 ≤ z ∧ z ≤ 5) : ∀ k, k ≤ zs.length → ((foundTo rs zs k).length : Int) = bgn zs k
  | 0, _ => rfl
  | k + 1, hk => by
    have ih := foundTo_len (rs := rs) h k (by omega)
    have b := getD_bd h (by decide) k
    rw [foundTo_succ, List.length_append, List.length_append, List.length_replicate]
    unfold bgn at ih ⊢
    rw [sum_take_succ (by omega)]
    show ((((foundTo rs zs k).length + 1) + (zs.getD k 0).toNat : Nat) : Int) = _
    omega
theorem bgn_succ {zs : List Int} (h : ∀ z, z ∈ zs → 0 ≤ z ∧ z ≤ 5) {k : Nat} (hk : k < zs.length) : bgn zs k + 1 ≤ bgn zs (k + 1) ∧ bgn zs (k + 1) ≤ bgn zs k + 6 := by
  have b := getD_bd h (by decide) k
  unfold bgn
  rw [sum_take_succ hk]
  omega
theorem bgn_lt {zs : List Int} (h : ∀ z, z ∈ zs → 0 ≤ z ∧ z ≤ 5) : ∀ (n k : Nat), k < n → n ≤ zs.length → 0 ≤ bgn zs k ∧ bgn zs k < bgn zs n
  | 0, _, hk, _ => by omega
  | n + 1, k, hk, hn => by
    have s := bgn_succ h (k := n) (by omega)
    by_cases e : k = n
    · subst e
      have p : 0 ≤ bgn zs k := by
        have l := foundTo_len (rs := []) h k (by omega)
        omega
      omega
    · have ih := bgn_lt h n k (by omega) (by omega)
      omega
theorem ok_any {r : Rw} {many m2 : Int} (g : r.isGo = false) (h : r.ok many) : r.ok m2 := by
  cases r <;> first | exact h | cases g
theorem reGo_ok {rs : List Rw} {zs : List Int} (h : ∀ z, z ∈ zs → 0 ≤ z ∧ z ≤ 5) (hl : zs.length = rs.length) {r : Rw} (hr : r.ok rs.length) : (reGo zs r).ok (bgn zs rs.length) := by
  cases r with
  | go q =>
    have hq : 0 ≤ q ∧ q < (rs.length : Int) := hr
    exact bgn_lt h rs.length q.toNat (by omega) (by omega)
  | iff c q =>
    have hq : Bx c ∧ 0 ≤ q ∧ q < (rs.length : Int) := hr
    exact ⟨hq.1, bgn_lt h rs.length q.toNat (by omega) (by omega)⟩
  | _ => exact ok_any rfl hr
theorem found_ok {rs : List Rw} {zs : List Int} (h : ∀ z, z ∈ zs → 0 ≤ z ∧ z ≤ 5) (hl : zs.length = rs.length) (hr : RsOk rs) (h200 : (foundTo rs zs rs.length).length ≤ 200) : RsOk (foundTo rs zs rs.length) := by
  have len := foundTo_len (rs := rs) h rs.length (by omega)
  have l1 := hr.1
  have lt := bgn_lt h rs.length 0 (by omega) (by omega)
  have b0 : bgn zs 0 = 0 := rfl
  refine ⟨by omega, h200, fun r hm => ?_⟩
  rw [len]
  unfold foundTo at hm
  obtain ⟨i, hi, hm⟩ := List.mem_flatMap.mp hm
  have hi := List.mem_range.mp hi
  rcases List.mem_cons.mp hm with q | q
  · rw [q]
    exact reGo_ok h hl (hr.2.2 _ (List.mem_of_getElem? (rowOf_get hi)))
  · rw [(List.mem_replicate.mp q).2]
    exact True.intro
theorem reGo_data {zs : List Int} {r : Rw} (h : r.isGo = true) : ∃ q : Int, r.args.getLast? = some q ∧ atI r.data (-1) = some (.int q) ∧ cutD r.data none (some (-1)) ++ [.int (bgn zs q.toNat)] = (reGo zs r).data := by
  cases r with
  | go q => exact ⟨q, rfl, rfl, rfl⟩
  | iff c q => exact ⟨q, rfl, rfl, rfl⟩
  | _ => cases h
theorem reGo_no {zs : List Int} {r : Rw} (h : r.isGo = false) : reGo zs r = r := by
  cases r <;> first | rfl | cases h
theorem go_in (r : Rw) : inD (.str r.word) [.str "go", .str "if"] = r.isGo := by cases r <;> rfl
theorem word0 (r : Rw) : atI r.data 0 = some (.str r.word) := atI_nat (j := 0) rfl
theorem go_bd {r : Rw} {many q : Int} (h : r.ok many) (g : r.isGo = true) (e : r.args.getLast? = some q) : 0 ≤ q ∧ q < many := by
  cases r with
  | go x => cases e; exact h
  | iff c x => cases e; exact h.2
  | _ => cases g
def restRows (n : Nat) : List Rw := List.replicate n .rest
theorem rest_data (n : Nat) : List.replicate n (PyData.tuple [.str "rest"]) = (List.replicate n Rw.rest).map rowD := by rw [List.map_replicate]; rfl
section
variable {P : Program} {w : World} {K : PySem.W.Frag} {mg : Str → Option Value} {base : Heap}
def spRested (K : PySem.W.Frag) : Sp := fun vs H Q _ => ∃ (p l : Addr) (pv : V) (rs : List Rw), vs = [.ref p, pv] ∧ HAt H p l ∧ Dp K H pv (progD rs) ∧ RsOk rs ∧ ∀ v (qs : List Rw) H', Dp K H' v (progD qs) → RsOk qs → HAt H' p l → Keep p l H H' → Q v H'
theorem keepP {p l : Addr} {H H' : Hp} {v : V} {rs : List Rw} (hh : HAt H p l) (s : Keep p l H H') (h : Dp K H v (progD rs)) : Dp K H' v (progD rs) := by
  obtain ⟨a, rfl, q⟩ := dp_prog h
  exact prog_dp (keep_prog hh s q)
theorem scRested : FnScope ["_law_h", "_law_program", "_law_often", "_law_row", "_law_rests", "_law_k", "_law_begins", "_law_found"] ["_law_h", "_law_program"] (defScope s__law_rested) := ⟨rfl, rfl, rfl, by decide +kernel, rfl, by decide +kernel, by decide +kernel⟩
theorem ok_rested {f : Addr} {fd : FuncData} (F : Fun K "_law_rested" "_law_rested" s__law_rested f fd) (NX : Cal P w K mg base 1 "_law_next" psN spNext) (B : Bl2 mg) (B3 : Bl3 mg) : FnOk P w K mg base CX0 2 f fd ["_law_h", "_law_program"] (spRested K) := by
  refine F.ok scRested (fun vs H Q E h => ?_) (fun cdv A outer s H vs Q E hr h => ?_)
  · obtain ⟨p, l, pv, rs, rfl, _⟩ := h
    rfl
  · obtain ⟨p, l, pv1, rs, rfl, hH, d_prog, hR, k⟩ := h
    have hr1 : Room 1 _ := hr.mono (by decide)
    have n1 := hR.1
    have n200 := hR.2.1
    refine ⟨_, (pss_cons (ps_set (i := 2) scRested.nd rfl (Or.inr rfl) (pe_ix ix_list (pe_lst (pa_cons pe_int (pa_cons pe_int (pa_cons pe_int pa_nil)))) (pe_cal NX hr1 (pa_cons (pv 0) (pa_cons pe_int pa_nil))) (fun _ _ => rfl))) (pss_cons (ps_set (i := 4) scRested.nd rfl (Or.inr rfl) (pe_lc (own := [("_law_row", 3)]) (g := (gName 3)) (by rfl) scRested.nd (pi_tup (pv 1)) (blkOk_by (own := [("_law_row", 3)]) (N := ["_law_h", "_law_program", "_law_often", "_law_row", "_law_rests", "_law_k", "_law_begins", "_law_found"]) (sc := defScope s__law_rested) (by decide +kernel)) (fun _ _ _ _ _ => (pg_name (i := 3) scRested.nd rfl (Or.inl rfl))) (fun _ _ _ _ _ => pts_nil) (fun _ _ _ _ _ => (pe_cal NX hr1 (pa_cons (pv 0) (pa_cons (pv 2) pa_nil)))))) (pss_cons (ps_setLc (i := 6) (own := [("_law_k", 5)]) (g := (gName 5)) (by rfl) scRested.nd rfl rfl (sw_true rfl rfl rfl (by decide +kernel)) (pi_range1 (by rfl) B.b.range (pa_cons (pe_callB call_len_seq (by rfl) B.b.len PySem.boot_len (pa_cons (pv 1) pa_nil)) pa_nil)) (blkOk_by (own := [("_law_k", 5)]) (N := ["_law_h", "_law_program", "_law_often", "_law_row", "_law_rests", "_law_k", "_law_begins", "_law_found"]) (sc := defScope s__law_rested) (by decide +kernel)) (fun _ _ _ _ _ => (pg_name (i := 5) scRested.nd rfl (Or.inl rfl))) (fun _ _ _ _ _ => pts_nil) (fun _ _ _ _ _ => (pe_op op_add (pv 5) (pe_callB (show CallR _ (.builtin "sum") (rSum K) from cr_sum rfl) (by rfl) B3.sum (by decide +kernel) (pa_cons (pe_slice (show SlR _ (rSlL K) from sl_list) (pv 4) po_none (po_some (pv 5))) pa_nil))))) (pss_cons (ps_set (i := 7) scRested.nd rfl (Or.inl rfl) (pe_lst pa_nil)) (pss_cons (ps_for PassesOwn.never rfl (pi_range1 (by rfl) B.b.range (pa_cons (pe_callB call_len_seq (by rfl) B.b.len PySem.boot_len (pa_cons (pv 1) pa_nil)) pa_nil)) (pg_name (i := 5) scRested.nd rfl (Or.inl rfl)) (pss_cons (ps_set (i := 3) scRested.nd rfl (Or.inl rfl) (pe_ix ix_tup (pv 1) (pv 5) (fun _ _ => rfl))) (pss_cons (ps_if (pt_cmpR op_in_seq (pe_ix ix_tup (pv 3) pe_int (fun _ _ => rfl)) (pe_tup (pa_cons pe_str (pa_cons pe_str pa_nil))) (by rfl)) (pss_one (ps_set (i := 3) scRested.nd rfl (Or.inl rfl) (pe_op op_catA (pe_slice sl_tupA (pv 3) po_none (po_some (pe_un un_neg pe_int))) (pe_tup (pa_cons (pe_ix ix_list (pv 6) (pe_ix ix_tup (pv 3) (pe_un un_neg pe_int) (fun _ _ => rfl)) (fun _ _ => rfl)) pa_nil))))) pss_nil) (pss_one (ps_set (i := 7) scRested.nd rfl (Or.inl rfl) (pe_op op_cat (pe_op op_cat (pv 7) (pe_lst (pa_cons (pv 3) pa_nil))) (pe_op op_rep (pe_lst (pa_cons (pe_tup (pa_cons pe_str pa_nil)) pa_nil)) (pe_ix ix_list (pv 4) (pv 5) (fun _ _ => rfl))))))))) (pss_one (ps_ret (pe_ifExp (pt_cmpR op_lt (pe_callB call_len_seq (by rfl) B.b.len PySem.boot_len (pa_cons (pv 7) pa_nil)) pe_int (nomark _)) (pe_callTy call_tuple_of (by rfl) B.b.tuple (by decide +kernel) (pa_cons (pe_slice sl_list (pv 7) po_none (po_some pe_int)) pa_nil)) (pv 1))))))))), ?_⟩
    refine ⟨show 3 ≤ sizeLine from small (by decide), fun d0 hd0 => ⟨_, rfl, p, l, 3, rfl, hH.new hd0, by decide, by decide, fun c H1 c0 c1 h1 k1 => ?_⟩⟩
    have hd1 : H1 d0 = some (.lst [.int 1, .int 2, .int 6]) := k1 _ _ upd_same (hH.nep hd0) (hH.nel hd0)
    obtain ⟨v, hv, hat⟩ := at3 (a0 := V.int 1) (a1 := V.int 2) (a2 := V.int 6) c0 c1
    obtain ⟨o, rfl, o0, o1⟩ : ∃ o : Int, v = .int o ∧ 0 < o ∧ o ≤ 6 := by
      rcases hv with rfl | rfl | rfl
      · exact ⟨1, rfl, by decide, by decide⟩
      · exact ⟨2, rfl, by decide, by decide⟩
      · exact ⟨6, rfl, by decide, by decide⟩
    refine ⟨d0, _, _, _, rfl, rfl, SqL.of hd1, hat, ?_⟩
    have kk1 : Keep p l H H1 := (Keep.of_same (same_new hd0 (.lst [.int 1, .int 2, .int 6]))).trans k1
    obtain ⟨ap, rfl, hP⟩ := dp_prog d_prog
    obtain ⟨vsP, hT, hlP, hgP⟩ := keep_prog hH kk1 hP
    refine ⟨_, rfl, ap, rfl, ⟨_, hT⟩, fun D hD => ?_⟩
    have hD0 : H D = none := Keep.free h1 kk1 hD
    refine lc_it (walk_tup (K := K) (a := ap) (xs := vsP)) (fun i H' => Acc p l D H (fun v _ => ∃ z, v = .int z ∧ 0 ≤ z ∧ z ≤ 5) i H' ∧ Keep p l H1 H') ⟨Acc.start h1 kk1 hD, (Keep.refl p l H1).new hD⟩ (fun i H' _ a => keep_tup h1 a.2 hT) ?_ ?_
    · rintro i x H2 H3 hi ⟨A, kA⟩ ⟨rfl, _⟩
      refine ⟨rfl, yes_if ?_⟩
      refine ⟨_, rfl, _, rfl, p, l, o, rfl, A.at_, o0, by omega, fun z H4 z0 z1 h4 k4 => ?_⟩
      obtain ⟨acc, a1, a2, a3⟩ := A.step fmono_int (hH.nep hD0) (hH.nel hD0) hD0 (by omega) h4 k4 ⟨z, rfl, z0, by omega⟩
      exact ⟨acc, a1, a2, a3, (kA.trans k4).over hD⟩
    · rintro H2 ⟨A, kA⟩
      obtain ⟨acc, e1, e2, e3⟩ := A.ex
      obtain ⟨zs, rfl, hz⟩ := ints_of e3
      have h2 := A.at_
      have zl : zs.length = rs.length := by
        rw [List.length_map] at e2
        omega
      have d_prog2 : Dp K H2 (.ref ap) (.tuple (rs.map rowD)) := prog_dp (keep_prog hH A.keep hP)
      have hZ : LstAt K H2 D (zs.map .int) := ⟨_, e1, dpAll_ints K H2 zs⟩
      have S := Same.refl H2
      have d_prog := d_prog2
      refine q_asgN (en_ints (α := Nat) (p := bgn zs) (en_lcY (List.range rs.length) (fun k => .int (bgn zs k)) (((ei_range1 (n := (rs.length : Int)) ((ed_lenT (ed_var rfl (dp_same S d_prog))).eq (by rw [List.length_map])) (by omega) (by omega)).weaken fun _ _ _ => trivial) |> EvI.len (by rw [List.length_range]; rfl)) tg1 (fun _ _ _ => trivial) (by rintro d σ2 H5 ⟨v, _, rfl⟩; rfl) ?_ (fun _ => rfl) (by rw [List.length_range]; omega))) fun bl H3 nb s3 hBl => ?_
      · rintro i x d σ2 H6 hx hd s6 ⟨v, dv, rfl⟩
        cases hd
        have hx2 : i < rs.length := by
          have := (List.getElem?_eq_some_iff.mp hx).1
          rw [List.length_range] at this
          exact this
        rw [List.getElem?_range hx2] at hx
        obtain rfl := Option.some.inj hx
        exact ed_I (ed_var rfl dv) (ed_sum (ns := zs.take i) (EvN.toD (EvN.eq (en_slL (ed_var rfl (hZ.same s6).dp) eo_none (eo_some (K := K) (ed_var rfl dv))) (cut_upto _ _ _))))
      have S := S.trans s3
      have hZ := hZ.same s3
      refine xq_nil (K := K) (c := rowD) fun fl H4 nf s4 hF => ?_
      have S := S.trans s4
      have hZ := hZ.same s4
      have hBl := hBl.same s4
      refine q_for (ei_range1 (n := (rs.length : Int)) ((ed_lenT (ed_var rfl (dp_same S d_prog))).eq (by rw [List.length_map])) (by omega) (by omega)) tg1 (fun _ _ _ => trivial) (fun _ i σ' H' => Same H4 H' ∧ ∃ (fa : Addr) (v3 v5 : Option V), σ' = [some (.ref p), some (.ref ap), some (.int o), v3, some (.ref D), v5, some (.ref bl), some (.ref fa)] ∧ LstAt K H' fa ((foundTo rs zs i).map rowD))
        (fun H5 s => ⟨s, fl, _, _, rfl, hF.same s⟩) (fun _ _ _ _ _ => trivial) ?_ ?_
      · rintro _ i d σ' H5 σ2 H6 _ hi e ⟨S', fa, v3, v5, rfl, hFa⟩ s6 ⟨u, du, rfl⟩
        cases e
        cases du
        rw [Int.toNat_natCast] at hi
        have S := (S.trans S').trans s6
        have hFa := hFa.same s6
        have hZ := hZ.same (S'.trans s6)
        have hBl := hBl.same (S'.trans s6)
        have rok := hR.2.2 _ (List.mem_of_getElem? (rowOf_get hi))
        have rAt : (rs.map rowD)[i]? = some (rowD (rowOf rs i)) := by rw [List.getElem?_map, rowOf_get hi]; rfl
        have bz := getD_bd hz (by decide) i
        have zAt : atI (zs.map PyData.int) (i : Int) = some (.int (zs.getD i 0)) := by
          refine atI_nat ?_
          rw [List.getElem?_map, List.getD_eq_getElem?_getD, List.getElem?_eq_getElem (by omega)]
          rfl
        have flen : (foundTo rs zs i).length ≤ 1200 := by
          have q := foundTo_len (rs := rs) hz i (by omega)
          have : ∀ m : Nat, m ≤ zs.length → bgn zs m ≤ 6 * (m : Int) := fun m => by
            induction m with
            | zero => intro _; exact Int.le_refl _
            | succ m ih =>
              intro hm
              have a := ih (by omega)
              have b := bgn_succ hz (k := m) (by omega)
              omega
          have := this i (by omega)
          omega
        refine q_asg (ed_ixT (ed_var rfl (dp_same S d_prog)) (ed_var rfl (.int (i : Int))) (atD_nat rfl rAt)) fun rv H7 s7 drv => ?_
        have S := S.trans s7
        have fin : ∀ (σ7 : L2.St) (H8 : Hp) (rv : V) (v5 : Option V), σ7 = [some (.ref p), some (.ref ap), some (.int o), some rv, some (.ref D), v5, some (.ref bl), some (.ref fa)] → v5 = some (.int (i : Int)) → Same H6 H8 → Dp K H8 rv (rowD (reGo zs (rowOf rs i))) → (tAsg (tOp rCat (tOp rCat (tVar 7) (tLst (tCons (tVar 3) tNil))) (tOp rRep (tLst (tCons (tTup (tCons (tC (.str "rest")) tNil)) tNil)) (tOp (rIxL K) (tVar 4) (tVar 5)))) (gName 7)) { nx := fun σ' H' => Same H4 H' ∧ ∃ (fa : Addr) (v3 v5 : Option V), σ' = [some (.ref p), some (.ref ap), some (.int o), v3, some (.ref D), v5, some (.ref bl), some (.ref fa)] ∧ LstAt K H' fa ((foundTo rs zs (i + 1)).map rowD), rt := Q } σ7 H8 := by
          rintro _ H8 rv v5 rfl rfl s8 drv
          have hF8 := hFa.same s8
          refine s_asgN (EvN.eq (en_catL (EvN.toL (en_catL (el_var rfl hF8) (EvN.toL (en_lst (ea_cons (ed_var rfl drv) ea_nil) (show 1 ≤ 1000 by decide))) (by rw [List.length_map]; show _ + 1 ≤ 5000; omega))) (EvN.toL (en_rep (n := (zs.getD i 0).toNat) (en_lst (ea_cons (ed_tup (ea_cons ed_str ea_nil) (show 1 ≤ 1000 by decide)) ea_nil) (show 1 ≤ 1000 by decide)) ((ed_ixL (ed_var rfl (hZ.same s8).dp) (ed_var rfl (.int (i : Int))) zAt).eq (by rw [Int.toNat_of_nonneg bz.1])) (by omega))) (by rw [List.length_append, List.length_map, List.length_replicate]; show _ + 1 + _ ≤ 5000; omega)) (es := (foundTo rs zs (i + 1)).map rowD) (by rw [foundTo_succ, List.map_append, List.map_append, ← rest_data]; rfl)) fun q H9 nq s9 hq => ?_
          exact ⟨((S'.trans s6).trans s8).trans s9, q, _, _, rfl, hq⟩
        have dr7 : Dp K H7 rv (.tuple (rowOf rs i).data) := drv
        refine q_when (b := (rowOf rs i).isGo) (eb_of (ed_inT (ed_ixT (ed_var rfl dr7) ed_int (word0 _)) (ed_tup (ea_cons ed_str (ea_cons ed_str ea_nil)) (show 2 ≤ 1000 by decide)) rfl (by rfl) (go_in _))) (fun hg H8 s8 => ?_) (fun hg H8 s8 => ?_)
        · obtain ⟨q, eq1, eq2, eq3⟩ := reGo_data (zs := zs) hg
          have qb := go_bd rok hg eq1
          have bAt : atI (((List.range rs.length).map (bgn zs)).map PyData.int) q = some (.int (bgn zs q.toNat)) := by
            refine atD_nat (j := q.toNat) (by omega) ?_
            rw [List.getElem?_map, List.getElem?_map, List.getElem?_range (by omega)]
            rfl
          have dr8 := dp_same s8 dr7
          refine s_asg (EvD.eq (ed_catT (ed_slT (ed_var rfl dr8) eo_none (eo_some (K := K) (ed_neg ed_int))) (ed_tup (ea_cons (ed_ixL (ed_var rfl (hBl.same (s7.trans s8)).dp) (ed_ixT (ed_var rfl dr8) (ed_neg ed_int) eq2) bAt) ea_nil) (show 1 ≤ 1000 by decide)) ?_) (congrArg PyData.tuple eq3)) fun nv H9 s9 dnv => ?_
          · unfold cutD
            refine Nat.le_trans (Nat.add_le_add_right (List.length_take_le' _ _) _) ?_
            rw [List.length_drop]
            have : (rowOf rs i).data.length ≤ 4 := by
              unfold Rw.data
              cases rowOf rs i <;> simp [Rw.args]
            show _ + 1 ≤ 5000
            omega
          · exact fin _ H9 nv _ rfl rfl ((s7.trans s8).trans s9) dnv
        · exact fin _ H8 rv _ rfl rfl (s7.trans s8) (by rw [reGo_no hg]; exact dp_same s8 drv)
      · rintro _ σ' H5 _ ⟨S', fa, v3, v5, rfl, hFa⟩
        rw [Int.toNat_natCast] at hFa
        have S := S.trans S'
        have kk : ∀ H6, Same H5 H6 → HAt H6 p l ∧ Keep p l H H6 := fun H6 s6 => ⟨(h2.same S).same s6, A.keep.trans (Keep.of_same (S.trans s6))⟩
        refine (ed_if (b := decide (((foundTo rs zs rs.length).length : Int) < 201)) (d := progD (foundTo rs zs rs.length)) (e := progD rs) (eb_of (ed_cI ((ed_lenL (ed_var rfl hFa.dp)).eq (by rw [List.length_map])) ed_int)) (fun hb => ?_) (fun _ => ed_var rfl (dp_same S d_prog))) H5 (Same.refl _) _ fun v H6 s6 dv => ?_
        · have hb := of_decide_eq_true hb
          exact (ed_tuple (EvN.toD (en_slL (ed_var rfl hFa.dp) eo_none (eo_some (K := K) ed_int)))).eq (congrArg PyData.tuple (cut_all rowD _ (by omega)))
        · obtain ⟨a, b⟩ := kk H6 s6
          by_cases e : ((foundTo rs zs rs.length).length : Int) < 201
          · rw [if_pos (decide_eq_true e)] at dv
            exact k v _ H6 dv (found_ok hz zl hR (by omega)) a b
          · rw [if_neg (by rw [decide_eq_false e]; decide)] at dv
            exact k v _ H6 dv hR a b
def justRow (many box : Int) (at_ : Nat) : Rw := if (decide ((at_ : Int) % 2 = 0) && decide ((at_ : Int) < 2 * many)) = true then .iff box ((at_ : Int) + 2) else .rest
theorem just_ok {many box : Int} (h1 : many ≤ 51) (hb : 0 ≤ box ∧ box < 8) : RsOk ((List.range 200).map (justRow many box)) := by
  refine ⟨by rw [List.length_map, List.length_range]; decide, by rw [List.length_map, List.length_range]; decide, fun r hr => ?_⟩
  obtain ⟨i, hi, rfl⟩ := List.mem_map.mp hr
  rw [List.length_map, List.length_range]
  unfold justRow
  split
  · rename_i e
    rw [Bool.and_eq_true] at e
    have e2 := of_decide_eq_true e.2
    exact ⟨hb, by omega, by show (i : Int) + 2 < ((200 : Nat) : Int); omega⟩
  · exact True.intro
def spJust (K : PySem.W.Frag) : Sp := fun vs H Q _ => ∃ (p l : Addr), vs = [.ref p] ∧ HAt H p l ∧ ∀ v (qs : List Rw) H', Dp K H' v (progD qs) → RsOk qs → HAt H' p l → Keep p l H H' → Q v H'
theorem scJust : FnScope ["_law_h", "_law_many", "_law_box", "_law_at"] ["_law_h"] (defScope s__law_just) := ⟨rfl, rfl, rfl, by decide +kernel, rfl, by decide +kernel, by decide +kernel⟩
theorem ok_just {f : Addr} {fd : FuncData} (F : Fun K "_law_just" "_law_just" s__law_just f fd) (NX : Cal P w K mg base 1 "_law_next" psN spNext) (B : Bl2 mg) : FnOk P w K mg base CX0 2 f fd ["_law_h"] (spJust K) := by
  refine F.ok scJust (fun vs H Q E h => ?_) (fun cdv A outer s H vs Q E hr h => ?_)
  · obtain ⟨p, l, rfl, _⟩ := h
    rfl
  · obtain ⟨p, l, rfl, hH, k⟩ := h
    have hr1 : Room 1 _ := hr.mono (by decide)
    refine ⟨_, (pss_cons (ps_set (i := 1) scJust.nd rfl (Or.inr rfl) (pe_op op_add pe_int (pe_cal NX hr1 (pa_cons (pv 0) (pa_cons pe_int pa_nil))))) (pss_cons (ps_set (i := 2) scJust.nd rfl (Or.inr rfl) (pe_cal NX hr1 (pa_cons (pv 0) (pa_cons pe_int pa_nil)))) (pss_one (ps_ret (pe_callTy call_tuple_of (by rfl) B.b.tuple (by decide +kernel) (pa_cons (pe_lc (own := [("_law_at", 3)]) (g := (gName 3)) (by rfl) scJust.nd (pi_range1 (by rfl) B.b.range (pa_cons pe_int pa_nil)) (blkOk_by (own := [("_law_at", 3)]) (N := ["_law_h", "_law_many", "_law_box", "_law_at"]) (sc := defScope s__law_just) (by decide +kernel)) (fun _ _ _ _ _ => (pg_name (i := 3) scJust.nd rfl (Or.inl rfl))) (fun _ _ _ _ _ => pts_nil) (fun _ _ _ _ _ => (pe_ifExp (PW.pt (pw_and (pt_cmpR op_eq (pe_op op_mod (pv 3) pe_int) pe_int (nomark _)) (pw_and1 (pt_cmpR op_lt (pv 3) (pe_op op_mul pe_int (pv 1)) (nomark _))))) (pe_tup (pa_cons pe_str (pa_cons (pv 2) (pa_cons (pe_op op_add (pv 3) pe_int) pa_nil)))) (pe_tup (pa_cons pe_str pa_nil))))) pa_nil)))))), ?_⟩
    refine ⟨_, rfl, p, l, 3, rfl, hH, by decide, by decide, fun c H1 c0 c1 h1 k1 => ⟨_, _, rfl, rfl, ?_⟩⟩
    refine ⟨_, rfl, p, l, 8, rfl, h1, by decide, by decide, fun b H2 b0 b1 h2 k2 => ?_⟩
    refine s_ret (ed_tuple (EvN.toD (en_lcY (List.range 200) (fun i => rowD (justRow (49 + c) b i)) (((ei_range1 (K := K) (n := 200) ed_int (by decide) (by decide)).weaken fun _ _ _ => trivial) |> EvI.len (by rw [List.length_range]; rfl)) tg1 (fun _ _ _ => trivial) (by rintro d σ2 H5 ⟨v, _, rfl⟩; rfl) ?_ (fun _ => noL_row _) (by rw [List.length_range]; decide)))) fun v H3 s3 dv => ?_
    · rintro i x d σ2 H6 hx hd s6 ⟨v, dv, rfl⟩
      cases hd
      have hx2 : i < 200 := by
        have := (List.getElem?_eq_some_iff.mp hx).1
        rw [List.length_range] at this
        exact this
      rw [List.getElem?_range hx2] at hx
      obtain rfl := Option.some.inj hx
      refine (ed_if (b := decide ((i : Int) % 2 = 0) && decide ((i : Int) < 2 * (49 + c))) (eb_and (eb_of (K := K) (ed_eqI (ed_IC (ed_var rfl dv) ed_int (by decide)) ed_int)) fun _ => eb_of (K := K) (ed_cI (ed_var rfl dv) (ed_IC ed_int (ed_var rfl (.int (49 + c))) (.inr ⟨by omega, by omega⟩)))) (fun _ => ed_tup (ea_cons ed_str (ea_cons (ed_var rfl (.int b)) (ea_cons (ed_I (ed_var rfl dv) ed_int) ea_nil))) (show 3 ≤ 1000 by decide)) (fun _ => ed_tup (ea_cons ed_str ea_nil) (show 1 ≤ 1000 by decide))).eq ?_
      unfold justRow
      split <;> rfl
    · have dv : Dp K H3 v (.tuple ((List.range 200).map fun i => rowD (justRow (49 + c) b i))) := dv
      refine k v ((List.range 200).map (justRow (49 + c) b)) H3 ?_ (just_ok (by omega) ⟨b0, b1⟩) (h2.same s3) ((k1.trans k2).trans (Keep.of_same s3))
      unfold progD
      rw [List.map_map]
      exact dv
end
end LB
namespace LB
open PySem PySem.Spec PyProof.Rows L2
/-- list.count of flat values -/
def rCntF (K : PySem.W.Frag) : V → List V → Hp → VK → Prop := fun x xs H Q => ∃ (a : Addr) (ys : List V) (y : V), x = V.ref a ∧ xs = [y] ∧ SqL K H a ys ∧ flatV y = true ∧ ys.all flatV = true ∧ Q (.int ((ys.countP fun z => eqV z y : Nat) : Int)) H
theorem count_vals {y : V} {uy : Value} (ry : RelV y uy) : ∀ {ys : List V} {its : List Value}, Vals ys its → ys.all flatV = true → its.countP (eqU y) = ys.countP fun z => eqV z y
  | [], _, h, _ => by cases h; rfl
  | z :: ys, _, h, f => by
    cases h with
    | cons rz rest =>
      rw [List.all_cons, Bool.and_eq_true] at f
      rw [List.countP_cons, List.countP_cons, count_vals ry rest f.2, eqU_of rz f.1]
theorem mt_countF {X : Cx} : MtR X "list.count" (rCntF X.K) := by
  intro pins s σ H x xs v us Q I rx rxs h
  obtain ⟨a, ys, y, rfl, rfl, hs, fy, fys, q⟩ := h
  cases rx
  obtain ⟨uy, rfl, ry⟩ := rxs.one
  obtain ⟨its, rv, ⟨⟨cls, dd, data, sl⟩, n, ho, hc, hdn, hd⟩, hlen⟩ := I.list hs
  simp only at hc hd
  subst hc hd
  refine call_meets PySem.F.slot_list_count ⟨_, ho, rfl⟩ PySem.F.entry_list_count (PySem.F.args_list_count_2 _ _)
    (SeqAt.list_countAt a its.toArray n dd sl uy (eqU y)) ⟨ho, fun u' hu' => mem_eqAt ry fy rv fys u' (by simpa using hu'), ?_⟩
  have ec : its.toArray.toList.countP (eqU y) = ys.countP fun z => eqV z y := by
    rw [← count_vals ry rv fys]
  refine ⟨.int ((ys.countP fun z => eqV z y : Nat) : Int), H, I.tok _, ⟨s.toks, ?_⟩, q⟩
  show Value.int ((its.toArray.toList.countP (eqU y) : Nat) : Int) s.toks = _
  rw [ec]
theorem pe_never {X : Cx} {e : Expr} : PE X e (fun _ _ _ => False) := ⟨fun _ _ _ _ _ _ h => h.elim⟩
/-- the refusals' classes as the law names them; what is known of TooMany's -/
structure Kinds (K : PySem.W.Frag) (mg : Str → Option Value) (CL CP CM CC CF CE CT CX : Addr) : Prop where
  gL : mg "LateError" = some (.ref CL)
  gP : mg "BadProgram" = some (.ref CP)
  gM : mg "BadMill" = some (.ref CM)
  gC : mg "BadCells" = some (.ref CC)
  gF : mg "BadFuel" = some (.ref CF)
  gE : mg "BadPiece" = some (.ref CE)
  gT : mg "TooMany" = some (.ref CT)
  gX : mg "BadText" = some (.ref CX)
  nV : mg "ValueError" = none
  exc : ExcC K CT
  late : PySem.W.exmOne K (.ref CT) (.ref CL) = some true
  kP : PySem.W.kitOne K (.ref CT) (.ref CP) = some false
  kM : PySem.W.kitOne K (.ref CT) (.ref CM) = some false
  kC : PySem.W.kitOne K (.ref CT) (.ref CC) = some false
  kF : PySem.W.kitOne K (.ref CT) (.ref CF) = some false
  kE : PySem.W.kitOne K (.ref CT) (.ref CE) = some false
  kT : PySem.W.kitOne K (.ref CT) (.ref CT) = some true
  kX : PySem.W.kitOne K (.ref CT) (.ref CX) = some false
  kV : PySem.W.kitOne K (.ref CT) (.type "ValueError") = some true
theorem pss_given {X : Cx} {b : List Stmt} {t : TS} {p : Prop} (h : p → PSs X b t) : PSs X b (fun D σ H => p ∧ t D σ H) := ⟨fun pins s σ H D I ⟨hp, q⟩ => (h hp).run pins s σ H D I q⟩
section
variable {K : PySem.W.Frag} {σ : L2.St} {H H' : Hp} {ta tb : TE} {CT a : Addr}
theorem ed_isE {i : Nat} {C : V} {cv : Value} {b : Bool} (hv : σ[i]? = some (some (.ref a))) (hcv : ∀ u, RelV C u → u = cv) (hk : PySem.W.kitOne K (.ref CT) cv = some b) : EvD K (tCB (rIsE K CT a) (tCons (tVar i) (tCons (tC C) tNil))) σ H (.bool b) := fun H1 s Q q =>
  ⟨_, hv, C, cv, b, rfl, hcv, hk, q _ H1 (Same.refl _) (.bl b)⟩
theorem ref_one {c : Addr} : ∀ u, RelV (.ref c) u → u = Value.ref c := fun u h => h
theorem bls_flat (bs : List Bool) : (bs.map V.bl).all flatV = true := by
  induction bs with
  | nil => rfl
  | cons b bs ih => exact ih
theorem bls_dp (H : Hp) : ∀ bs : List Bool, DpAll K H (bs.map V.bl) (bs.map PyData.bool)
  | [] => .nil
  | b :: bs => .cons (.bl b) (bls_dp H bs)
theorem bls_count (bs : List Bool) : (bs.map V.bl).countP (fun z => eqV z (.bl true)) = bs.countP id := by
  induction bs with
  | nil => rfl
  | cons b bs ih =>
    rw [List.map_cons, List.countP_cons, List.countP_cons, ih]
    cases b <;> rfl
theorem ed_count {i : Nat} {l : Addr} {bs : List Bool} (hv : σ[i]? = some (some (.ref l))) (hl : LstAt K H l (bs.map .bool)) : EvD K (tBM K "list" (rCntF K) (tVar i) (tCons (tC (.bl true)) tNil)) σ H (.int (bs.countP id : Nat)) := fun H1 s Q q => by
  obtain ⟨vs, e, a⟩ := hl.same s
  rw [dpAll_bl_eq a] at e
  refine ⟨_, hv, .inl ⟨rfl, _, SqL.of e⟩, l, bs.map V.bl, .bl true, rfl, rfl, SqL.of e, rfl, bls_flat bs, ?_⟩
  rw [bls_count]
  exact q _ H1 (Same.refl _) (.int _)
theorem ed_indexB {i j : Nat} {l : Addr} {bs : List Bool} (hv : σ[i]? = some (some (.ref l))) (hl : LstAt K H l (bs.map .bool)) (hj : bs[j]? = some true) (hn : ∀ m, m < j → bs[m]? ≠ some true) : EvD K (tBM K "list" (rIndex K) (tVar i) (tCons (tC (.bl true)) tNil)) σ H (.int (j : Nat)) := fun H1 s Q q => by
  obtain ⟨vs, e, a⟩ := hl.same s
  rw [dpAll_bl_eq a] at e
  refine ⟨_, hv, .inl ⟨rfl, _, SqL.of e⟩, l, bs.map V.bl, .bl true, j, .bl true, rfl, rfl, SqL.of e, rfl, bls_flat bs, by rw [List.getElem?_map, hj]; rfl, rfl, fun m z' hm hz => ?_, q _ H1 (Same.refl _) (.int _)⟩
  rw [List.getElem?_map] at hz
  obtain ⟨b, hb, rfl⟩ := Option.map_eq_some_iff.mp hz
  cases b with
  | true => exact absurd hb (hn m hm)
  | false => rfl
end
theorem takes_len {X : Cx} {W : WX} (tk : Takes X W) : Takes X (fun cls d σ H => σ.length = X.N.length → W cls d σ H) := fun u s' ⟨a, B, sI, pins, σ, H, cls, d, e, I, nb, up, sky, na, os, ag, w⟩ => tk u s' ⟨a, B, sI, pins, σ, H, cls, d, e, I, nb, up, sky, na, os, ag, w I.len⟩
def kb : List Bool := [false, false, false, false, false, true, false]
/-- what kind makes of a reading: TooMany's word, or none -/
def TTk (CT : Addr) : (XK → Hp → VK → Prop) → Hp → VK → Prop := fun tl H Q => tl (fun cls d H' => (cls = .ref CT ∧ d = none) ∧ ∀ H'', Same H' H'' → Q (.str "TooMany") H'') H (fun _ H' => Q (.str "") H')
theorem scKind : FnScope ["_law_work", "_law_e", "_law_kinds", "_law_words"] ["_law_work"] (defScope s__law_kind) := ⟨rfl, rfl, rfl, by decide +kernel, rfl, by decide +kernel, by decide +kernel⟩
open LamX in
theorem kind_gives {X : Cx} {g CL CP CM CC CF CE CT CX : Addr} {cdg : Value} {q : Str} (D : Kinds X.K X.mg CL CP CM CC CF CE CT CX) (B : Bl2 X.mg) : GivesTo X ["_law_work", "_law_e", "_law_kinds", "_law_words"] "_law_kind" (defScope s__law_kind) g cdg (defBody s__law_kind) "_law_work" q (TTk CT) := by
  intro f c' s H Q tl act hc h
  have X1 := D.exc
  have su : ∀ a : Addr, ∃ t : TS, (∀ (oe : Obj) (pn : List (Addr × Obj)), Zc (.ref CT) none oe → (∃ vs, oe.data = .fields vs) → PSs ((cxOf C8.CX0 X.prog X.w X.K X.mg X.base ["_law_work", "_law_e", "_law_kinds", "_law_words"] "_law_kind" (defScope s__law_kind) g cdg X.A X.stack s H C8.E0).nox.suite a ((a, oe) :: pn)) (match defBody s__law_kind with | (.Try _ (.ExceptHandler _ _ b _ :: _) _ _ _) :: _ => b | _ => []) t) ∧
      ∀ (E : Ends) (w0 w2 w3 : Option V) (H1 : Hp), (∀ H2, Same H1 H2 → E.rt (.str "TooMany") H2) → t E [w0, some (.ref a), w2, w3] H1 := by
    intro a
    refine ⟨_, fun oe pn hz hf => (pss_cons (ps_set (i := 2) scKind.nd rfl (Or.inl rfl) (pe_lst (pa_cons (pe_callB (show CallR _ _ (rIsE X.K CT a) from call_isE X1 hz hf) (by rfl) B.isi (by decide +kernel) (pa_cons (pv 1) (pa_cons (pe_gref D.gP) pa_nil))) (pa_cons (pe_callB (show CallR _ _ (rIsE X.K CT a) from call_isE X1 hz hf) (by rfl) B.isi (by decide +kernel) (pa_cons (pv 1) (pa_cons (pe_gref D.gM) pa_nil))) (pa_cons (pe_callB (show CallR _ _ (rIsE X.K CT a) from call_isE X1 hz hf) (by rfl) B.isi (by decide +kernel) (pa_cons (pv 1) (pa_cons (pe_gref D.gC) pa_nil))) (pa_cons (pe_callB (show CallR _ _ (rIsE X.K CT a) from call_isE X1 hz hf) (by rfl) B.isi (by decide +kernel) (pa_cons (pv 1) (pa_cons (pe_gref D.gF) pa_nil))) pa_nil)))))) (pss_cons (ps_set (i := 2) scKind.nd rfl (Or.inl rfl) (pe_op op_cat (pv 2) (pe_lst (pa_cons (pe_callB (show CallR _ _ (rIsE X.K CT a) from call_isE X1 hz hf) (by rfl) B.isi (by decide +kernel) (pa_cons (pv 1) (pa_cons (pe_gref D.gE) pa_nil))) (pa_cons (pe_callB (show CallR _ _ (rIsE X.K CT a) from call_isE X1 hz hf) (by rfl) B.isi (by decide +kernel) (pa_cons (pv 1) (pa_cons (pe_gref D.gT) pa_nil))) (pa_cons (pe_callB (show CallR _ _ (rIsE X.K CT a) from call_isE X1 hz hf) (by rfl) B.isi (by decide +kernel) (pa_cons (pv 1) (pa_cons (pe_gref D.gX) pa_nil))) pa_nil)))))) (pss_cons (ps_if (PW.pt (pw_or (pt_cmpR op_ne (show PE _ _ (tBM X.K "list" (rCntF X.K) (tVar 2) (tCons (tC (.bl true)) tNil)) from pe_bm PySem.F.plainAttrs_list PySem.F.slot_list_count PySem.F.type_list_count mt_countF (pv 2) (pa_cons pe_bl pa_nil)) pe_int (nomark _)) (pw_or1 (pt_not (pt_val (pe_callB (show CallR _ _ (rIsE X.K CT a) from call_isE X1 hz hf) (by rfl) B.isi (by decide +kernel) (pa_cons (pv 1) (pa_cons (pe_bltn (v := .ty "ValueError") (by rfl) D.nV (by decide +kernel) rfl) pa_nil)))))))) (pss_one (ps_ret pe_str)) pss_nil) (pss_cons (ps_if (pt_val (pe_ix (show IxR _ (rIxL X.K) from ix_list) (pv 2) pe_int (fun _ _ => rfl))) (pss_one ps_never) pss_nil) (pss_cons (ps_set (i := 3) scKind.nd rfl (Or.inl rfl) (pe_lst (pa_cons pe_str (pa_cons pe_str (pa_cons pe_str (pa_cons pe_str (pa_cons pe_str (pa_cons pe_str pa_nil)))))))) (pss_one (ps_ret (pe_ifExp (pt_val (pe_ix (show IxR _ (rIxL X.K) from ix_list) (pv 2) pe_int (fun _ _ => rfl))) pe_never (pe_ix (show IxR _ (rIxL X.K) from ix_list) (pv 3) (show PE _ _ (tBM X.K "list" (rIndex X.K) (tVar 2) (tCons (tC (.bl true)) tNil)) from pe_bm PySem.F.plainAttrs_list PySem.F.slot_list_index PySem.F.type_list_index mt_index (pv 2) (pa_cons pe_bl pa_nil)) (fun _ _ => rfl)))))))))), fun E w0 w2 w3 H1 k => ?_⟩
    refine q_asgN (en_lst (ea_cons (ed_isE rfl ref_one D.kP) (ea_cons (ed_isE rfl ref_one D.kM) (ea_cons (ed_isE rfl ref_one D.kC) (ea_cons (ed_isE rfl ref_one D.kF) ea_nil)))) (by decide)) fun l H2 n2 s2 hl => ?_
    refine q_asgN (EvN.eq (en_catL (el_var rfl hl) (EvN.toL (en_lst (ea_cons (ed_isE rfl ref_one D.kE) (ea_cons (ed_isE rfl ref_one D.kT) (ea_cons (ed_isE rfl ref_one D.kX) ea_nil))) (by decide))) (by decide)) (es := kb.map .bool) rfl) fun l2 H3 n3 s3 hl2 => ?_
    refine q_when (b := false) (EvB.eq (eb_or (eb_of (K := X.K) (ed_neI (ed_count rfl hl2) ed_int)) fun _ => eb_not (eb_val (K := X.K) (ed_isE rfl (fun u h => h) D.kV))) rfl) (fun z => by cases z) fun _ H4 s4 => ?_
    have hl2 := hl2.same s4
    refine q_when (b := false) (eb_val (K := X.K) (ed_ixL (ed_var rfl hl2.dp) ed_int (atI_nat (j := 0) rfl))) (fun z => by cases z) fun _ H5 s5 => ?_
    have hl2 := hl2.same s5
    refine q_asgN (K := X.K) (en_lst (ea_cons ed_str (ea_cons ed_str (ea_cons ed_str (ea_cons ed_str (ea_cons ed_str (ea_cons ed_str ea_nil)))))) (by decide)) fun l3 H6 n6 s6 hl3 => ?_
    have hl2 := hl2.same s6
    refine s_ret (EvD.eq (ed_if (b := false) (d := .none) (eb_val (K := X.K) (ed_ixL (ed_var rfl hl2.dp) ed_int (atI_nat (j := 6) rfl))) (fun z => by cases z) (fun _ => ed_ixL (ed_var rfl hl3.dp) (ed_indexB (j := 5) rfl hl2 rfl (fun m hm => by
      have : m = 0 ∨ m = 1 ∨ m = 2 ∨ m = 3 ∨ m = 4 := by omega
      rcases this with rfl | rfl | rfl | rfl | rfl <;> (intro z; cases z))) (atI_nat (j := 5) rfl))) rfl) fun v H7 s7 dv => ?_
    cases dv
    exact k _ (((((s2.trans s3).trans s4).trans s5).trans s6).trans s7)
  refine ⟨_, pss_cons (ps_try_as (X := (cxOf C8.CX0 X.prog X.w X.K X.mg X.base ["_law_work", "_law_e", "_law_kinds", "_law_words"] "_law_kind" (defScope s__law_kind) g cdg X.A X.stack s H C8.E0).nox) (i := 1) (c := .ref CL)
      (tb := fun W D σ H => ∃ Ech : XK, (∀ cls d σ' H', Ech cls d H' → σ'.length = 4 → W cls d σ' H') ∧ σ[0]? = some (some (.ref f)) ∧ H c' = some (CodeO c' q) ∧ tl Ech H (fun _ H1 => D.nx σ H1))
      (ts := fun a cls d D σ H => (cls = .ref CT ∧ d = none) ∧ (su a).choose D σ H) rfl rfl scKind.nd rfl rfl ⟨rfl, by decide, .inl D.gL⟩ LamX.takes0 (fun W pn xe tk _ => ?_) (fun a oe cls d pn hz hf => pss_given fun e => ?_)) (pss_one (ps_ret pe_str)), ?_⟩
  · refine ⟨fun pins s' σ H' D I h' => ?_⟩
    obtain ⟨Ech, hW, h1, h2, h3⟩ := h'
    have tk2 := takes_len tk
    exact (pss_one (ps_expr (act _ pn xe Ech _ _ tk2 fun cls d σ' H' e hl => hW cls d σ' H' e hl))).run pins s' σ H' D I ⟨h1, h2, h3⟩
  · obtain ⟨e1, e2⟩ := e
    subst e1; subst e2
    exact (su a).choose_spec.1 oe pn hz hf
  · refine ⟨fun cls d H' => (cls = .ref CT ∧ d = none) ∧ ∀ H'', Same H' H'' → Q (.str "TooMany") H'', fun cls d σ' H' e hl => ?_, rfl, hc, h⟩
    obtain ⟨⟨e1, e2⟩, e3⟩ := e
    subst e1; subst e2
    match σ', hl with
    | [w0, w1, w2, w3], _ => exact ⟨true, D.late, fun _ a ha => ⟨⟨rfl, rfl⟩, (su a).choose_spec.2 _ w0 w2 w3 H' fun H2 s2 => e3 H2 s2⟩, fun z => by cases z⟩
end LB
namespace LB
open PySem PySem.Spec PyProof.Rows L2 LamX
/-- a def that may raise, as its callers see it -/
structure CalX (P : Program) (w : World) (K : PySem.W.Frag) (mg : Str → Option Value) (base : Heap) (k : Nat) (x : Str) (ps : List Str) (sp : Sp) : Prop where
  ex : ∃ (f : Addr) (fd : FuncData), FnOk P w K mg base (L2.CX P w) k f fd ps sp ∧ mg x = some (.ref f) ∧ PySem.W.keepIn K (.ref f) = true ∧ L2.Binds K fd ps []
def tCalE (sp : Sp) (E : XK) (t : TA) : TE := fun σ H Q => t σ H fun vs H1 => sp vs H1 Q E
theorem pe_calE {X : Cx} {x : Str} {e : Expr} {es : List Expr} {p pos : Pos} {k : Nat} {ps : List Str} {sp : Sp} {t : TA} {E : XK} (C : CalX X.prog X.w X.K X.mg X.base k x ps sp) (hr : Room k X.A) (pass : Passes (L2.CX X.prog X.w) X E) (ha : PA X (e :: es) t) (hg : Gl X x := by rfl)
    (hdb : (x == ("__debug__" : Str)) = false := by decide) (he : starEach (e :: es) X.env = (false, eval e X.env) :: starEach es X.env := by rfl) (hpl : (backTo pos (starEach es X.env)).any (·.1) = false := by rfl) : PE X (.Call (.Name x p) (e :: es) [] pos) (tCalE sp E t) := by
  obtain ⟨f, fd, F, m, kp, b⟩ := C.ex
  have r := pe_call (p := p) (pos := pos) (E := E) F hr hg m kp b .nil pass ha hdb he hpl
  have q : (tCall sp [] E t) = tCalE sp E t := by
    funext σ H Q
    show (t σ H fun vs H1 => sp (vs ++ []) H1 Q E) = _
    simp only [List.append_nil]
    rfl
  rw [q] at r
  exact r
theorem passF {X : Cx} : Passes (L2.CX X.prog X.w) X (fun _ _ _ => False) := fun _ _ _ _ _ _ _ h => by
  obtain ⟨_, _, _, _, _, _, _, _, _, _, _, _, z⟩ := h
  exact z.elim
/-- kind as it stands -/
structure KindAt (K : PySem.W.Frag) (mg : Str → Option Value) (g CL CP CM CC CF CE CT CX : Addr) (dV kV doc pm cdv ct oc : Value) (an od : Option Addr) (osl : Array (Option Value)) : Prop where
  m : mg "_law_kind" = some (.ref g)
  kp : PySem.W.keepIn K (.ref g) = true
  l : K.lookup g = some ⟨oc, od, .func (PySem.W.fnOf "_law_kind" "_law_kind" (defArgs s__law_kind) (defBody s__law_kind) (defScope s__law_kind) dV kV doc pm an cdv ct), osl⟩
  c : PySem.W.codeIn K cdv "_law_kind" = true
  b : L2.Binds K (PySem.W.fnOf "_law_kind" "_law_kind" (defArgs s__law_kind) (defBody s__law_kind) (defScope s__law_kind) dV kV doc pm an cdv ct) ["_law_work"] []
  D : Kinds K mg CL CP CM CC CF CE CT CX
theorem hat_ext {H H' : Hp} {p l : Addr} (h : HAt H p l) (e : ExtN H H') : HAt H' p l := by
  obtain ⟨m, t, ns, h1, h2, r⟩ := h
  exact ⟨m, t, ns, e _ _ h1 (fun ps z => by cases z), e _ _ h2 (fun ps z => by cases z), r⟩
theorem grow_ext {K : PySem.W.Frag} {H H' : Hp} (e : ExtN H H') : Grow K H H' := fun a xs q => by
  rcases q with (q | ⟨o, q⟩) | q
  · exact .inl (.inl (e _ _ q (fun ps z => by cases z)))
  · exact .inl (.inr ⟨o, e _ _ q (fun ps z => by cases z)⟩)
  · exact .inr q
theorem tabs_same {T : List (Addr × Str)} {H H' : Hp} (s : Same H H') (h : Tabs T H) : Tabs T H' := h.ext fun b o e => s b o e
theorem tabs_keep {T : List (Addr × Str)} {H H' : Hp} {p l : Addr} (hh : HAt H p l) (s : Keep p l H H') (h : Tabs T H) : Tabs T H' := fun q hq => by
  obtain ⟨ps, h1, h2, h3⟩ := h q hq
  obtain ⟨m, t, ns, a1, a2, _⟩ := hh
  have ne : ∀ b o, H b = some o → (∀ xs, o ≠ .lst xs) → b ≠ p ∧ b ≠ l := fun b o e n => ⟨fun z => by
    rw [z, a1] at e
    exact n _ (Option.some.inj e).symm, fun z => by
    rw [z, a2] at e
    exact n _ (Option.some.inj e).symm⟩
  have n1 := ne _ _ h1 (fun xs z => by cases z)
  refine ⟨ps, s _ _ h1 n1.1 n1.2, h2, fun pos cv hc => ?_⟩
  obtain ⟨c, e1, e2⟩ := h3 pos cv hc
  have n2 := ne _ _ e2 (fun xs z => by unfold CodeO at z; cases z)
  exact ⟨c, e1, s _ _ e2 n2.1 n2.2⟩
/-- what is due -/
def dueD (cm : Cm × Out) (d : PyData) : Prop := match cm.2 with
  | .nil => d = .none
  | .many => d = .str "many"
  | .at_ s why box => ∃ l, Steps cm.1 s l ∧ d = lookD l s why box
theorem mill1 {ms : List Int} (h : MillOk ms) : ∃ ms', MillOk ms' ∧ cutD (ms.map PyData.int) none (some 3) ++ [.int 1] = ms'.map .int := by
  obtain ⟨p, g, t, j, rfl, h1, h2, h3, h4⟩ := h
  exact ⟨[p, g, t, 1], ⟨p, g, t, 1, rfl, h1, h2, h3, by decide⟩, rfl⟩
theorem sm_step (g : Go) (n : Nat) : Sm (n + 1) (stepD g) := .tup (by show 2 ≤ 5000; decide) fun e he => by
  simp only [List.mem_cons, List.not_mem_nil, or_false] at he
  rcases he with rfl | rfl <;> exact .int _ _
theorem sm_look {l : List Go} (s : Sx) (why : Str) (box : Int) (h : l.length ≤ 4000) : Sm 3 (lookD l s why box) := .tup (by show 3 ≤ 5000; decide) fun e he => by
  simp only [List.mem_cons, List.not_mem_nil, or_false] at he
  rcases he with rfl | rfl | rfl
  · refine .lst (by rw [List.length_map, List.length_append]; show _ + 1 ≤ 5000; omega) fun e he => ?_
    obtain ⟨x, _, rfl⟩ := List.mem_map.mp he
    exact sm_step x 0
  · exact .str _ _
  · exact .int _ _
theorem shp_str (k : Nat) {x : Str} (h : PyData.strOk x = true) : Shp k (.str x) := ⟨h, Nat.zero_le _⟩
theorem brWhy {many : Int} {ms : List Int} {r : Rw} {s : Sx} {x : Str × Int} (h : brOf many ms r s = some x) : PyData.strOk x.1 = true := by
  unfold brOf at h
  repeat' split at h
  all_goals first | (cases h; done) | (obtain rfl := Option.some.inj h; dsimp only; decide +kernel)
theorem steps_len {cm : Cm} {rs : List Rw} {n : Nat} {ss : List Sx} (h : LvOk rs n cm ss) {s : Sx} (hs : s ∈ ss) {l : List Go} (hl : Steps cm s l) : l.length ≤ n := by
  obtain ⟨_, l', h1, h2⟩ := h s hs
  rw [steps_det hl h1]
  exact h2
theorem bad_mem {rs : List Rw} {ms : List Int} : ∀ {ss : List Sx} {x : Sx × Str × Int}, badOf rs ms ss = some x → x.1 ∈ ss ∧ flawOf rs ms x.1 = some x.2
  | [], _, h => by cases h
  | s :: ss, x, h => by
    have h' : (match flawOf rs ms s with | some y => some (s, y) | none => badOf rs ms ss) = some x := h
    cases e : flawOf rs ms s with
    | some y =>
      rw [e] at h'
      obtain rfl := Option.some.inj h'
      exact ⟨List.mem_cons_self .., e⟩
    | none =>
      rw [e] at h'
      obtain ⟨a, b⟩ := bad_mem h'
      exact ⟨List.mem_cons_of_mem _ a, b⟩
theorem look_at {rs : List Rw} {ms : List Int} (hR : RsOk rs) (hM : MillOk ms) : ∀ (n : Nat) (cm : Cm) (ss : List Sx), n ≤ 252 → LvOk rs (252 - n) cm ss → ∀ s why box, (lookP rs ms n cm ss).2 = .at_ s why box → PyData.strOk why = true ∧ ∀ l, Steps (lookP rs ms n cm ss).1 s l → l.length ≤ 252
  | 0, cm, ss, _, _, s, why, box, h => by
    have h' : (if ss = [] then Out.nil else .many) = .at_ s why box := h
    split at h' <;> cases h'
  | n + 1, cm, ss, hn, ok, s, why, box, h => by
    by_cases hne : ss = []
    · subst hne
      rw [look_nil] at h
      cases h
    · by_cases hle : cm.length ≤ 250
      · cases hb : badOf rs ms ss with
        | some x =>
          rw [look_bad hne hle hb] at h ⊢
          obtain ⟨m, fl⟩ := bad_mem hb
          injection h with h1 h2 h3
          subst h1; subst h2; subst h3
          refine ⟨?_, fun l hl => Nat.le_trans (steps_len ok m hl) (by omega)⟩
          unfold flawOf at fl
          split at fl
          · exact brWhy fl
          · cases fl
        | none =>
          rw [look_go hne hle hb] at h ⊢
          have jn := (next_ok (n := 252 - (n + 1)) hR hM ok).new
          rw [show 252 - (n + 1) + 1 = 252 - n by omega] at jn
          exact look_at hR hM n _ _ (by omega) jn s why box h
      · rw [look_many hne (by omega)] at h
        cases h
theorem due_sm {rs : List Rw} {ms : List Int} (hR : RsOk rs) (hM : MillOk ms) {d : PyData} (h : dueD (lookAll rs ms) d) : Sm 3 d ∧ SeqAt.shaped d = true ∧ PyData.eqv d (.str "many") = (match (lookAll rs ms).2 with | .many => true | _ => false) := by
  unfold dueD at h
  have la := look_at hR hM 252 [(first0, none)] [first0] (by decide) (first_ok hR)
  cases e : (lookAll rs ms).2 with
  | nil =>
    rw [e] at h
    subst h
    exact ⟨.non _, rfl, rfl⟩
  | many =>
    rw [e] at h
    subst h
    exact ⟨.str _ _, by decide +kernel, by decide +kernel⟩
  | at_ s why box =>
    rw [e] at h
    obtain ⟨l, hl, rfl⟩ := h
    obtain ⟨w1, w2⟩ := la s why box e
    exact ⟨sm_look s why box (Nat.le_trans (w2 l hl) (by decide)), (shp_tup (shpA_cons (shp_list (shpA_map shp_step _)) (shpA_cons (shp_str 2 w1) (shpA_cons (shp_int 2 _) (shpA_nil 2))))).shaped (by decide), rfl⟩
section
variable {P : Program} {w : World} {K : PySem.W.Frag} {mg : Str → Option Value} {base : Heap}
abbrev qL : Str := "law.<locals>.<lambda>"
def spLaw (K : PySem.W.Frag) (Pt : Addr) : Sp := fun vs H Q _ => ∃ (a : Addr) (ns : List Int), vs = [.ref a] ∧ SqL K H a (ns.map V.int) ∧ ns.length ≤ 63 ∧ H Pt = some (.tbl #[]) ∧ ∀ H', Q (.bl true) H'
theorem scLaw : FnScope ["_law_script", "_law_h", "_law_turn", "_law_due", "_law_again", "_law_found", "_law_mill_here", "_law_program"] ["_law_script"] (defScope sLaw) := ⟨rfl, rfl, rfl, by decide +kernel, rfl, by decide +kernel, by decide +kernel⟩
theorem ok_law {f Pt cL g CL CP CM CC CF CE CT CX : Addr} {dV kV doc pm cdv ct oc : Value} {an od : Option Addr} {osl : Array (Option Value)} {kV2 doc2 pm2 ct2 oc2 : Value} {an2 od2 : Option Addr} {osl2 : Array (Option Value)} (lk : K.lookup f = some ⟨oc2, od2, .func (PySem.W.fnOf "law" "law" (defArgs sLaw) (defBody sLaw) (defScope sLaw) .none kV2 doc2 pm2 an2 (.ref cL) ct2), osl2⟩) (hcd : PySem.W.codeIn K (.ref cL) "law" = true) (TB : TabB base mg cL Pt) (LK : KindAt K mg g CL CP CM CC CF CE CT CX dV kV doc pm cdv ct oc an od osl) (B : Bl2 mg)
    (MX : Cal P w K mg base 1 "_law_mix" ["_law_script", "_law_seed"] (spMix K)) (PL : Cal P w K mg base 4 "_law_plain" ["_law_h", "_law_most"] (spPlain K)) (NX : Cal P w K mg base 1 "_law_next" psN spNext) (MI : Cal P w K mg base 2 "_law_mill" ["_law_h"] (spMill K)) (RE : Cal P w K mg base 2 "_law_rested" ["_law_h", "_law_program"] (spRested K))
    (JU : Cal P w K mg base 2 "_law_just" ["_law_h"] (spJust K)) (LL : Cal P w K mg base 3 "_law_look" ["_law_program", "_law_mill_here"] (spLLook K)) (LO : CalX P w K mg base 5 "look" ["program", "mill"] (spLook K CT)) (AL : Cal P w K mg base 4 "_law_alike" psAlike (spA K 4)) : FnOk P w K mg base CX0 8 f (PySem.W.fnOf "law" "law" (defArgs sLaw) (defBody sLaw) (defScope sLaw) .none kV2 doc2 pm2 an2 (.ref cL) ct2) ["_law_script"] (spLaw K Pt) := by
  refine fn_of lk hcd scLaw (fun vs H Q E h => ?_) (fun A outer s H vs Q E hr h => ?_)
  · obtain ⟨a, ns, rfl, _⟩ := h
    rfl
  · obtain ⟨a, ns0, rfl, hS, hlen, hTab, k⟩ := h
    have hr1 : Room 1 _ := hr.mono (by decide)
    have hr2 : Room 2 _ := hr.mono (by decide)
    have hr3 : Room 3 _ := hr.mono (by decide)
    have hr4 : Room 4 _ := hr.mono (by decide)
    have hr5 : Room 5 _ := hr.mono (by decide)
    have hr7 : Room 7 _ := hr
    refine ⟨_, PSs.nox (pss_cons (ps_set (i := 1) scLaw.nd rfl (Or.inl rfl) (pe_cal MX hr1 (pa_cons (pv 0) (pa_cons pe_int pa_nil)))) (pss_cons (ps_for PassesOwn.never rfl (pi_range1 (by rfl) B.b.range (pa_cons pe_int pa_nil)) (pg_name (i := 2) scLaw.nd rfl (Or.inl rfl)) (pss_cons (ps_set (i := 7) scLaw.nd rfl (Or.inr rfl) (pe_cal PL hr4 (pa_cons (pv 1) (pa_cons (pe_ix ix_list (pe_lst (pa_cons pe_int (pa_cons pe_int (pa_cons pe_int (pa_cons pe_int pa_nil))))) (pe_cal NX hr1 (pa_cons (pv 1) (pa_cons pe_int pa_nil))) (fun _ _ => rfl)) pa_nil)))) (pss_cons (ps_if (pt_cmpR op_gt (pe_cal NX hr1 (pa_cons (pv 1) (pa_cons pe_int pa_nil))) pe_int (nomark _)) (pss_one (ps_set (i := 7) scLaw.nd rfl (Or.inr rfl) (pe_cal RE hr2 (pa_cons (pv 1) (pa_cons (pe_cal PL hr4 (pa_cons (pv 1) (pa_cons pe_int pa_nil))) pa_nil))))) pss_nil) (pss_cons (ps_set (i := 6) scLaw.nd rfl (Or.inr rfl) (pe_cal MI hr2 (pa_cons (pv 1) pa_nil))) (pss_cons (ps_if (pt_cmpR op_eq (pe_cal NX hr1 (pa_cons (pv 1) (pa_cons pe_int pa_nil))) pe_int (nomark _)) (pss_one (ps_asg (pe_tup (pa_cons (pe_cal JU hr2 (pa_cons (pv 1) pa_nil)) (pa_cons (pe_op op_catA (pe_slice sl_tupA (pv 6) po_none (po_some pe_int)) (pe_tup (pa_cons pe_int pa_nil))) pa_nil))) (pg_tup rfl (pgs_cons (pg_name (i := 7) scLaw.nd rfl (Or.inr rfl)) (pgs_cons (pg_name (i := 6) scLaw.nd rfl (Or.inr rfl)) pgs_nil))))) pss_nil) (pss_cons (ps_set (i := 3) scLaw.nd rfl (Or.inl rfl) (pe_cal LL hr3 (pa_cons (pv 7) (pa_cons (pv 6) pa_nil)))) (pss_one (ps_if (pt_cmpR (op_eqD hr.units) (pv 3) pe_str (nomark _)) (pss_one (ps_if (pt_cmpR op_ne (pe_lamcall (T := [(Pt, qL)]) (TT := TTk CT) (k := 5) (t := fun E => tCalE (spLook K CT) E (tCons (tVar 7) (tCons (tVar 6) tNil))) rfl LK.m LK.kp LK.l LK.c LK.b scKind rfl (Or.inl rfl) (kind_gives LK.D B) TB rfl (List.mem_singleton.mpr rfl) (fun p hp _ => by rw [List.mem_singleton.mp hp]; rfl) hr7 (lamS_by (sc := defScope sLaw) (by decide +kernel)) rfl (fun _ _ _ _ _ => rfl) (fun A outer s H E f c' hr' => pe_calE (E := E) LO hr' (passes_call (takes_of rfl rfl rfl rfl) fun _ _ _ _ h => h) (pa_cons (pv 7) (pa_cons (pv 6) pa_nil)))) pe_str (nomark _)) (pss_one (ps_ret pe_bl)) pss_nil)) (pss_one (ps_for PassesOwn.never rfl (pi_range1 (by rfl) B.b.range (pa_cons pe_int pa_nil)) (pg_name (i := 4) scLaw.nd rfl (Or.inl rfl)) (pss_cons (ps_set (i := 5) scLaw.nd rfl (Or.inl rfl) (pe_calE (E := fun _ _ _ => False) LO hr5 passF (pa_cons (pv 7) (pa_cons (pv 6) pa_nil)))) (pss_cons (ps_if (pt_not (pt_val (pe_cal AL hr4 (pa_cons (pv 5) (pa_cons (pv 3) pa_nil))))) (pss_one (ps_ret pe_bl)) pss_nil) (pss_one (ps_if (pt_cmpR op_notN (pv 5) pe_non (nomark _)) (pss_one (ps_expr (pe_bm PySem.F.plainAttrs_list PySem.F.slot_list_append PySem.F.type_list_append mt_append (pe_ix ix_tup (pv 5) pe_int (fun _ _ => rfl)) (pa_cons (pe_tup pa_nil) pa_nil)))) pss_nil)))))))))))))) (pss_one (ps_ret pe_bl)))), ?_⟩
    have t0 : Tabs [(Pt, qL)] H := fun q hq => by
      rw [List.mem_singleton.mp hq]
      exact TabS.nil hTab
    refine ⟨_, rfl, a, ns0, 11, rfl, hS, hlen, by decide, by decide, fun p l H1 s1 hp0 hl0 h1 => ?_⟩
    have t1 := tabs_same s1 t0
    refine q_for (ei_range1 (K := K) (n := 8) ed_int (by decide) (by decide)) tg1 (fun _ _ _ => trivial) (fun _ i σ H2 => HAt H2 p l ∧ Tabs [(Pt, qL)] H2 ∧ ∃ v2 v3 v4 v5 v6 v7 : Option V, σ = [some (.ref a), some (.ref p), v2, v3, v4, v5, v6, v7])
      (fun H2 s => ⟨h1.same s, tabs_same s t1, _, _, _, _, _, _, rfl⟩) (fun _ _ _ _ _ => trivial) ?_ ?_
    · rintro _ i d σ H2 σ2 H2' _ hi e ⟨h2, t2, v2, v3, v4, v5, v6, v7, rfl⟩ s2 ⟨v2', dv, rfl⟩
      have h2 := h2.same s2
      have t2 := tabs_same s2 t2
      -- the program
      refine ⟨_, rfl, by show 4 ≤ sizeLine; decide, fun d hd => ⟨_, rfl, p, l, 4, rfl, h2.new hd, by decide, by decide, fun c H3 c0 c1 h3 k3 => ?_⟩⟩
      have t2d := tabs_same (same_new hd (.lst [.int 6, .int 14, .int 40, .int 200])) t2
      have t3 := tabs_keep (h2.new hd) k3 t2d
      have hd3 : H3 d = some (.lst [.int 6, .int 14, .int 40, .int 200]) := k3 _ _ upd_same (h2.nep hd) (h2.nel hd)
      obtain ⟨v, hv, hat⟩ := at4 (a0 := V.int 6) (a1 := V.int 14) (a2 := V.int 40) (a3 := V.int 200) c0 c1
      obtain ⟨o, rfl, o0, o1⟩ : ∃ o : Int, v = .int o ∧ 0 < o ∧ o ≤ 200 := by
        rcases hv with rfl | rfl | rfl | rfl
        · exact ⟨6, rfl, by decide, by decide⟩
        · exact ⟨14, rfl, by decide, by decide⟩
        · exact ⟨40, rfl, by decide, by decide⟩
        · exact ⟨200, rfl, by decide, by decide⟩
      refine ⟨d, _, _, _, rfl, rfl, SqL.of hd3, hat, p, l, o, rfl, h3, o0, o1, fun ap rs H4 hP n1 n200 hok h4 k4 => ?_⟩
      have t4 := tabs_keep h3 k4 t3
      -- rests between
      refine seqcutN (fun σ' H' => HAt H' p l ∧ Tabs [(Pt, qL)] H' ∧ ∃ (pv1 : V) (rs : List Rw) (v3 v4 v5 v6 : Option V), σ' = [some (.ref a), some (.ref p), some v2', v3, v4, v5, v6, some pv1] ∧ Dp K H' pv1 (progD rs) ∧ RsOk rs) (fun D' _ k' => ?_) ?_
      · refine ⟨_, rfl, p, l, 3, rfl, h4, by decide, by decide, fun z H5 z0 z1 h5 k5 => ⟨_, _, rfl, rfl, _, rfl, ?_⟩⟩
        have t5 := tabs_keep h4 k5 t4
        refine if_both (fun _ => ?_) (fun _ => ?_)
        · refine ⟨_, rfl, _, rfl, p, l, 30, rfl, h5, by decide, by decide, fun ap2 rs2 H6 hP2 m1 m200 hok2 h6 k6 => ?_⟩
          have t6 := tabs_keep h5 k6 t5
          refine ⟨p, l, .ref ap2, rs2, rfl, h6, prog_dp hP2, ⟨m1, m200, hok2⟩, fun v qs H7 dq rq h7 k7 => ?_⟩
          exact k' _ _ ⟨h7, tabs_keep h6 k7 t6, v, qs, _, _, _, _, rfl, dq, rq⟩
        · exact k' _ _ ⟨h5, t5, .ref ap, rs, _, _, _, _, rfl, prog_dp (keep_prog h4 k5 hP), ⟨n1, n200, hok⟩⟩
      rintro σ' H5 ⟨h5, t5, pv1, rs, v3, v4, v5, v6, rfl, dP, hR⟩
      refine ⟨_, rfl, p, l, rfl, h5, fun am ms H6 hM hMo h6 k6 => ?_⟩
      have t6 := tabs_keep h5 k6 t5
      have dP := keepP h5 k6 dP
      refine seqcutN (fun σ' H' => HAt H' p l ∧ Tabs [(Pt, qL)] H' ∧ ∃ (pv1 mv : V) (rs : List Rw) (ms : List Int) (v3 v4 v5 : Option V), σ' = [some (.ref a), some (.ref p), some v2', v3, v4, v5, some mv, some pv1] ∧ Dp K H' pv1 (progD rs) ∧ RsOk rs ∧ Dp K H' mv (millD ms) ∧ MillOk ms) (fun D' _ k' => ?_) ?_
      · refine ⟨_, rfl, p, l, 9, rfl, h6, by decide, by decide, fun z H7 z0 z1 h7 k7 => ⟨rfl, _, rfl, ?_⟩⟩
        have t7 := tabs_keep h6 k7 t6
        have dM7 : Dp K H7 (.ref am) (.tuple (ms.map .int)) := mill_dp (keep_tup h6 k7 hM)
        refine if_both (fun _ => ?_) (fun _ => ?_)
        · refine ⟨_, rfl, p, l, rfl, h7, fun v qs H8 dq rq h8 k8 => ?_⟩
          have t8 := tabs_keep h7 k8 t7
          have dM8 : Dp K H8 (.ref am) (.tuple (ms.map .int)) := by
            obtain ⟨a', e', q'⟩ := dp_mill (ms := ms) dM7
            cases e'
            exact mill_dp (keep_tup h7 k8 q')
          obtain ⟨ms', hms', ems⟩ := mill1 hMo
          refine (EvD.eq (ed_catT (ed_slT (ed_var rfl dM8) eo_none (eo_some (K := K) ed_int)) (ed_tup (ea_cons ed_int ea_nil) (show 1 ≤ 1000 by decide)) (by
            have := congrArg List.length ems
            rw [List.length_append, List.length_map] at this
            obtain ⟨p', g', t', j', rfl, _⟩ := hms'
            show _ + 1 ≤ 5000
            have q : (cutD (ms.map PyData.int) none (some 3)).length + 1 = 4 := this
            omega)) (congrArg PyData.tuple ems)) H8 (Same.refl _) _ fun mv H9 s9 dmv => ?_
          refine ⟨show 2 ≤ sizeLine from small (by decide), fun T hT => ⟨_, _, rfl, tup_of upd_same, rfl, _, _, rfl, _, _, rfl, rfl, ?_⟩⟩
          have s9T := s9.trans (same_new hT (.tup [v, mv]))
          exact k' _ _ ⟨h8.same s9T, tabs_same s9T t8, v, mv, qs, ms', _, _, _, rfl, dp_same s9T dq, rq, dp_same (same_new hT _) dmv, hms'⟩
        · exact k' _ _ ⟨h7, t7, pv1, .ref am, rs, ms, _, _, _, rfl, keepP h6 k7 dP, hR, dM7, hMo⟩
      rintro σ' H7 ⟨h7, t7, pv1, mv, rs, ms, v3, v4, v5, rfl, dP, hR, dM, hMo⟩
      obtain ⟨ap, rfl, hP7⟩ := dp_prog dP
      obtain ⟨am, rfl, hM7⟩ := dp_mill dM
      refine seqcutT (fun σ' H' => ∃ (v : V) (d : PyData), σ' = [some (.ref a), some (.ref p), some v2', some v, v4, v5, some (.ref am), some (.ref ap)] ∧ Same H7 H' ∧ Dp K H' v d ∧ dueD (lookAll rs ms) d) (fun D' _ k' => ?_) ?_
      · refine ⟨_, rfl, _, rfl, .ref ap, .ref am, rs, ms, rfl, dP, dM, hR, hMo, fun e H8 s8 => k' _ _ ⟨_, .none, rfl, s8, .non, ?_⟩, fun e H8 s8 => k' _ _ ⟨_, .str "many", rfl, s8, .str _, ?_⟩, fun s why box l e st v H8 s8 dv => k' _ _ ⟨v, _, rfl, s8, dv, ?_⟩⟩
        · unfold dueD; rw [e]
        · unfold dueD; rw [e]
        · unfold dueD; rw [e]; exact ⟨l, st, rfl⟩
      rintro σ' H8 ⟨v, d, rfl, s8, dv, hd⟩
      obtain ⟨sm, shp, ev⟩ := due_sm hR hMo hd
      refine s_if (b := PyData.eqv d (.str "many")) (eb_of (ed_eqD (K := K) (ed_var rfl dv) ed_str shp (by decide +kernel))) (fun hb H9 s9 => ?_) (fun hb H9 s9 => ?_)
      · have many : (lookAll rs ms).2 = .many := by
          rw [hb] at ev
          cases e : (lookAll rs ms).2 with
          | many => rfl
          | nil => rw [e] at ev; cases ev
          | at_ _ _ _ => rw [e] at ev; cases ev
        have s79 := s8.trans s9
        refine ⟨tabs_same s79 t7, fun H10 e10 t10 => ?_⟩
        have g10 := grow_ext (K := K) e10
        have dP10 : Dp K H10 (.ref ap) (progD rs) := dp_grow g10 (noLs_rows rs) (dp_same s79 dP)
        have dM10 : Dp K H10 (.ref am) (millD ms) := dp_grow g10 (noL_mill ms) (dp_same s79 dM)
        obtain ⟨_, ea, hP10⟩ := dp_prog dP10
        cases ea
        obtain ⟨_, ea, hM10⟩ := dp_mill dM10
        cases ea
        refine ⟨_, rfl, _, rfl, ap, am, rs, ms, rfl, hP10, hR, hM10, hMo, fun e => (by rw [many] at e; cases e), fun _ H11 s11 => ⟨⟨rfl, rfl⟩, fun H12 s12 => ⟨rfl, _, rfl, ?_⟩⟩, fun s why box e => (by rw [many] at e; cases e)⟩
        have ne : (!decide (V.str "TooMany" = V.str "TooMany")) = false := by rw [decide_eq_true rfl]; rfl
        refine if_f ne ?_
        have s1012 := s11.trans s12
        exact ⟨(hat_ext (h7.same s79) e10).same s1012, tabs_same s1012 t10, _, _, _, _, _, _, rfl⟩
      · have notmany : (lookAll rs ms).2 ≠ .many := fun z => by
          rw [z, hb] at ev
          cases ev
        have s79 := s8.trans s9
        have h9 := h7.same s79
        have t9 := tabs_same s79 t7
        have dv9 := dp_same s9 dv
        have hP9 := same_prog s79 hP7
        have hM9 := same_tup s79 hM7
        refine s_for (ei_range1 (K := K) (n := 2) ed_int (by decide) (by decide)) tg1 (fun _ _ _ => trivial) (fun _ j σ' H' => Same H9 H' ∧ ∃ v4 v5 : Option V, σ' = [some (.ref a), some (.ref p), some v2', some v, v4, v5, some (.ref am), some (.ref ap)])
          (fun H10 s => ⟨s, _, _, rfl⟩) (fun _ _ _ _ _ => trivial) ?_ ?_
        · rintro _ j dj σ' H' σ3 H10 _ hj e ⟨S', v4, v5, rfl⟩ s10 ⟨vj, dvj, rfl⟩
          have S := S'.trans s10
          refine seqcutT (fun σ' H' => ∃ (fv : V), σ' = [some (.ref a), some (.ref p), some v2', some v, some vj, some fv, some (.ref am), some (.ref ap)] ∧ Same H10 H' ∧ Dp K H' fv d ∧ (d = .none ∨ ∃ (p : Addr) (W : Addr) (xs rest : List V), fv = .ref p ∧ SqT K H' p (.ref W :: rest) ∧ H10 W = none ∧ H' W = some (.lst xs) ∧ xs.length ≤ 1000)) (fun D' _ k' => ?_) ?_
          · refine ⟨_, rfl, _, rfl, ap, am, rs, ms, rfl, same_prog S hP9, hR, same_tup S hM9, hMo, fun e H11 s11 => k' _ _ ⟨_, rfl, s11, ?_, .inl ?_⟩, fun e => absurd e notmany, fun s why box e fv H11 s11 hL => k' _ _ ⟨fv, rfl, s11, ?_, .inr ?_⟩⟩
            · unfold dueD at hd
              rw [e] at hd
              rw [hd]
              exact .non
            · unfold dueD at hd
              rw [e] at hd
              exact hd
            · unfold dueD at hd
              rw [e] at hd
              obtain ⟨l', hl', rfl⟩ := hd
              obtain ⟨pp, W, xs, l, rfl, hsq, hW0, hW, hst, hpa⟩ := hL
              rw [steps_det hl' hst]
              exact .tup hsq (.cons (.lst (SqL.of hW) (gos_dp hpa)) (.cons (.str _) (.cons (.int _) .nil)))
            · obtain ⟨pp, W, xs, l, rfl, hsq, hW0, hW, hst, hpa⟩ := hL
              have q := (look_at hR hMo 252 [(first0, none)] [first0] (by decide) (first_ok hR) s why box e).2 l hst
              have ql := Paired.length hpa
              rw [List.length_append] at ql
              have q1 : ([(s.at_, 0)] : List Go).length = 1 := rfl
              exact ⟨pp, W, xs, _, rfl, hsq, hW0, hW, by omega⟩
          rintro σ' H11 ⟨fv, rfl, s11, dfv, hf⟩
          have S11 := S.trans s11
          refine q_when (b := false) (EvB.eq (eb_not (eb_val (K := K) (ed_alike (n := 3) (ed_var rfl dfv) (ed_var rfl (dp_same S11 dv9)) sm))) rfl) (fun z => by cases z) fun _ H12 s12 => ?_
          have dfv := dp_same s12 dfv
          refine s_if (b := !isNo d) (eb_of (K := K) (ed_notN (ed_var rfl dfv))) (fun hn H13 s13 => ?_) (fun hn H13 s13 => ?_)
          · rcases hf with hf | ⟨pp, W, xs, rest, rfl, hsq, hW0, hW, hl⟩
            · rw [hf] at hn; cases hn
            · have s113 := s12.trans s13
              have hsq := same_tup s113 hsq
              have hW := s113 _ _ hW
              refine ⟨_, rfl, pp, .ref W :: rest, 0, .ref W, rfl, rfl, hsq, atI_nat (j := 0) rfl, .inl ⟨rfl, _, SqL.of hW⟩, show 0 ≤ sizeLine by decide, fun T hT => ?_⟩
              have sT := same_new hT (.tup [])
              have hWT := sT _ _ hW
              refine ⟨W, xs, .ref T, rfl, rfl, hWT, small1000 (by omega), ?_⟩
              have nW : H9 W = none := S.free hW0
              exact ⟨Same.over (((S11.trans s113).trans sT)) nW, _, _, rfl⟩
          · exact ⟨(S11.trans s12).trans s13, _, _, rfl⟩
        · rintro _ σ' H' _ ⟨S', v4, v5, rfl⟩
          exact ⟨h9.same S', tabs_same S' t9, _, _, _, _, _, _, rfl⟩
    · rintro _ σ H2 _ ⟨h2, t2, v2, v3, v4, v5, v6, v7, rfl⟩
      exact k _
end
end LB
namespace LB
open PySem L2
theorem all_mk {l : PySem.W.OpenLaw} {w : World} {K : PySem.W.Frag} {h : Heap} {mg : Str → Option Value} {fa f1 f2 f3 f4 f5 f6 f7 f8 f9 f10 f11 f12 f13 f14 f15 f16 f17 f18 f19 f20 f21 f22 f23 f24 f25 f26 f27 f28 f29 f30 f31 f32 f33 f34 f35 cL dS dL tM tG tL tN CL CP CM CC CF CE CT CX Pt : Addr} {od1 an1 od2 an2 od3 an3 od4 an4 od5 an5 od6 an6 od7 an7 od8 an8 od9 an9 od10 an10 od11 an11 od12 an12 od13 an13 od14 an14 od15 an15 od16 an16 od17 an17 od18 an18 od19 an19 od20 an20 od21 an21 od22 an22 od23 an23 od24 an24 od25 an25 od26 an26 od27 an27 od28 an28 od29 an29 od30 an30 od31 an31 od32 an32 od33 an33 od34 an34 od35 an35 dcc : Option Addr} {sl1 sl2 sl3 sl4 sl5 sl6 sl7 sl8 sl9 sl10 sl11 sl12 sl13 sl14 sl15 sl16 sl17 sl18 sl19 sl20 sl21 sl22 sl23 sl24 sl25 sl26 sl27 sl28 sl29 sl30 sl31 sl32 sl33 sl34 sl35 slc : Array (Option Value)} {oc1 kV1 dc1 pm1 cd1 ct1 oc2 kV2 dc2 pm2 cd2 ct2 oc3 kV3 dc3 pm3 cd3 ct3 oc4 kV4 dc4 pm4 cd4 ct4 oc5 kV5 dc5 pm5 cd5 ct5 oc6 kV6 dc6 pm6 cd6 ct6 oc7 kV7 dc7 pm7 cd7 ct7 oc8 kV8 dc8 pm8 cd8 ct8 oc9 kV9 dc9 pm9 cd9 ct9 oc10 kV10 dc10 pm10 cd10 ct10 oc11 kV11 dc11 pm11 cd11 ct11 oc12 kV12 dc12 pm12 cd12 ct12 oc13 kV13 dc13 pm13 cd13 ct13 oc14 kV14 dc14 pm14 cd14 ct14 oc15 kV15 dc15 pm15 cd15 ct15 oc16 kV16 dc16 pm16 cd16 ct16 oc17 kV17 dc17 pm17 cd17 ct17 oc18 kV18 dc18 pm18 cd18 ct18 oc19 kV19 dc19 pm19 cd19 ct19 oc20 kV20 dc20 pm20 cd20 ct20 oc21 kV21 dc21 pm21 cd21 ct21 oc22 kV22 dc22 pm22 cd22 ct22 oc23 kV23 dc23 pm23 cd23 ct23 oc24 kV24 dc24 pm24 cd24 ct24 oc25 kV25 dc25 pm25 cd25 ct25 oc26 kV26 dc26 pm26 cd26 ct26 oc27 kV27 dc27 pm27 cd27 ct27 oc28 kV28 dc28 pm28 cd28 ct28 oc29 kV29 dc29 pm29 cd29 ct29 oc30 kV30 dc30 pm30 cd30 ct30 oc31 kV31 dc31 pm31 cd31 ct31 oc32 kV32 dc32 pm32 cd32 ct32 oc33 kV33 dc33 pm33 cd33 ct33 oc34 kV34 dc34 pm34 cd34 ct34 oc35 kV35 dc35 pm35 ct35 ec : Value} {tBOXES tMOST_HELD tMOST_ROWS tJUMP_AT tMOST_STATES : Tok} {esdS esdL : Array DictEntry} {ndS ndL ntM ntG ntL ntN : Nat} {otM otG otL otN : Obj} {ittM ittG ittL ittN vsc : Array Value}  (X : K.In h) (G : h.Ns mainGlobals mg) (hfa : mg "law" = some (.ref fa)) (own : LamX.OwnTab K fa h)
    (a1 : PySem.W.nsIn K mainGlobals "_law_mix" = some (some (.ref f1)))
    (l1 : K.lookup f1 = some ⟨oc1, od1, .func (PySem.W.fnOf "_law_mix" "_law_mix" (defArgs sMix) (defBody sMix) (defScope sMix) .none kV1 dc1 pm1 an1 cd1 ct1), sl1⟩)
    (c1 : PySem.W.codeIn K cd1 "_law_mix" = true)
    (k1 : PySem.W.keepIn K (.ref f1) = true)
    (a2 : PySem.W.nsIn K mainGlobals "_law_next" = some (some (.ref f2)))
    (l2 : K.lookup f2 = some ⟨oc2, od2, .func (PySem.W.fnOf "_law_next" "_law_next" (defArgs sNext) (defBody sNext) (defScope sNext) .none kV2 dc2 pm2 an2 cd2 ct2), sl2⟩)
    (c2 : PySem.W.codeIn K cd2 "_law_next" = true)
    (k2 : PySem.W.keepIn K (.ref f2) = true)
    (a3 : PySem.W.nsIn K mainGlobals "_law_number" = some (some (.ref f3)))
    (l3 : K.lookup f3 = some ⟨oc3, od3, .func (PySem.W.fnOf "_law_number" "_law_number" (defArgs sNumber) (defBody sNumber) (defScope sNumber) .none kV3 dc3 pm3 an3 cd3 ct3), sl3⟩)
    (c3 : PySem.W.codeIn K cd3 "_law_number" = true)
    (k3 : PySem.W.keepIn K (.ref f3) = true)
    (a4 : PySem.W.nsIn K mainGlobals "_law_mill" = some (some (.ref f4)))
    (l4 : K.lookup f4 = some ⟨oc4, od4, .func (PySem.W.fnOf "_law_mill" "_law_mill" (defArgs sMill) (defBody sMill) (defScope sMill) .none kV4 dc4 pm4 an4 cd4 ct4), sl4⟩)
    (c4 : PySem.W.codeIn K cd4 "_law_mill" = true)
    (k4 : PySem.W.keepIn K (.ref f4) = true)
    (a5 : PySem.W.nsIn K mainGlobals "_law_boxes" = some (some (.ref f5)))
    (l5 : K.lookup f5 = some ⟨oc5, od5, .func (PySem.W.fnOf "_law_boxes" "_law_boxes" (defArgs sBoxes) (defBody sBoxes) (defScope sBoxes) .none kV5 dc5 pm5 an5 cd5 ct5), sl5⟩)
    (c5 : PySem.W.codeIn K cd5 "_law_boxes" = true)
    (k5 : PySem.W.keepIn K (.ref f5) = true)
    (a6 : PySem.W.nsIn K mainGlobals "_law_deed" = some (some (.ref f6)))
    (l6 : K.lookup f6 = some ⟨oc6, od6, .func (PySem.W.fnOf "_law_deed" "_law_deed" (defArgs sDeed) (defBody sDeed) (defScope sDeed) .none kV6 dc6 pm6 an6 cd6 ct6), sl6⟩)
    (c6 : PySem.W.codeIn K cd6 "_law_deed" = true)
    (k6 : PySem.W.keepIn K (.ref f6) = true)
    (a7 : PySem.W.nsIn K mainGlobals "_law_jump" = some (some (.ref f7)))
    (l7 : K.lookup f7 = some ⟨oc7, od7, .func (PySem.W.fnOf "_law_jump" "_law_jump" (defArgs sJump) (defBody sJump) (defScope sJump) .none kV7 dc7 pm7 an7 cd7 ct7), sl7⟩)
    (c7 : PySem.W.codeIn K cd7 "_law_jump" = true)
    (k7 : PySem.W.keepIn K (.ref f7) = true)
    (a8 : PySem.W.nsIn K mainGlobals "_law_plain" = some (some (.ref f8)))
    (l8 : K.lookup f8 = some ⟨oc8, od8, .func (PySem.W.fnOf "_law_plain" "_law_plain" (defArgs sPlain) (defBody sPlain) (defScope sPlain) .none kV8 dc8 pm8 an8 cd8 ct8), sl8⟩)
    (c8 : PySem.W.codeIn K cd8 "_law_plain" = true)
    (k8 : PySem.W.keepIn K (.ref f8) = true)
    (a9 : PySem.W.nsIn K mainGlobals "is_whole" = some (some (.ref f9)))
    (l9 : K.lookup f9 = some ⟨oc9, od9, .func (PySem.W.fnOf "is_whole" "is_whole" (defArgs sWhole) (defBody sWhole) (defScope sWhole) .none kV9 dc9 pm9 an9 cd9 ct9), sl9⟩)
    (c9 : PySem.W.codeIn K cd9 "is_whole" = true)
    (k9 : PySem.W.keepIn K (.ref f9) = true)
    (a10 : PySem.W.nsIn K mainGlobals "most_for" = some (some (.ref f10)))
    (l10 : K.lookup f10 = some ⟨oc10, od10, .func (PySem.W.fnOf "most_for" "most_for" (defArgs sMost) (defBody sMost) (defScope sMost) .none kV10 dc10 pm10 an10 cd10 ct10), sl10⟩)
    (c10 : PySem.W.codeIn K cd10 "most_for" = true)
    (k10 : PySem.W.keepIn K (.ref f10) = true)
    (a11 : PySem.W.nsIn K mainGlobals "is_row" = some (some (.ref f11)))
    (l11 : K.lookup f11 = some ⟨oc11, od11, .func (PySem.W.fnOf "is_row" "is_row" (defArgs sRow) (defBody sRow) (defScope sRow) .none kV11 dc11 pm11 an11 cd11 ct11), sl11⟩)
    (c11 : PySem.W.codeIn K cd11 "is_row" = true)
    (k11 : PySem.W.keepIn K (.ref f11) = true)
    (a12 : PySem.W.nsIn K mainGlobals "first_flaw" = some (some (.ref f12)))
    (l12 : K.lookup f12 = some ⟨oc12, od12, .func (PySem.W.fnOf "first_flaw" "first_flaw" (defArgs s_first_flaw) (defBody s_first_flaw) (defScope s_first_flaw) .none kV12 dc12 pm12 an12 cd12 ct12), sl12⟩)
    (c12 : PySem.W.codeIn K cd12 "first_flaw" = true)
    (k12 : PySem.W.keepIn K (.ref f12) = true)
    (a13 : PySem.W.nsIn K mainGlobals "check_program" = some (some (.ref f13)))
    (l13 : K.lookup f13 = some ⟨oc13, od13, .func (PySem.W.fnOf "check_program" "check_program" (defArgs sChkP) (defBody sChkP) (defScope sChkP) .none kV13 dc13 pm13 an13 cd13 ct13), sl13⟩)
    (c13 : PySem.W.codeIn K cd13 "check_program" = true)
    (k13 : PySem.W.keepIn K (.ref f13) = true)
    (a14 : PySem.W.nsIn K mainGlobals "check_mill" = some (some (.ref f14)))
    (l14 : K.lookup f14 = some ⟨oc14, od14, .func (PySem.W.fnOf "check_mill" "check_mill" (defArgs sChkM) (defBody sChkM) (defScope sChkM) .none kV14 dc14 pm14 an14 cd14 ct14), sl14⟩)
    (c14 : PySem.W.codeIn K cd14 "check_mill" = true)
    (k14 : PySem.W.keepIn K (.ref f14) = true)
    (a15 : PySem.W.nsIn K mainGlobals "looked_at" = some (some (.ref f15)))
    (l15 : K.lookup f15 = some ⟨oc15, od15, .func (PySem.W.fnOf "looked_at" "looked_at" (defArgs s_looked_at) (defBody s_looked_at) (defScope s_looked_at) .none kV15 dc15 pm15 an15 cd15 ct15), sl15⟩)
    (c15 : PySem.W.codeIn K cd15 "looked_at" = true)
    (k15 : PySem.W.keepIn K (.ref f15) = true)
    (a16 : PySem.W.nsIn K mainGlobals "made_in" = some (some (.ref f16)))
    (l16 : K.lookup f16 = some ⟨oc16, od16, .func (PySem.W.fnOf "made_in" "made_in" (defArgs sMade) (defBody sMade) (defScope sMade) .none kV16 dc16 pm16 an16 cd16 ct16), sl16⟩)
    (c16 : PySem.W.codeIn K cd16 "made_in" = true)
    (k16 : PySem.W.keepIn K (.ref f16) = true)
    (a17 : PySem.W.nsIn K mainGlobals "lateness" = some (some (.ref f17)))
    (l17 : K.lookup f17 = some ⟨oc17, od17, .func (PySem.W.fnOf "lateness" "lateness" (defArgs sLate) (defBody sLate) (defScope sLate) .none kV17 dc17 pm17 an17 cd17 ct17), sl17⟩)
    (c17 : PySem.W.codeIn K cd17 "lateness" = true)
    (k17 : PySem.W.keepIn K (.ref f17) = true)
    (a18 : PySem.W.nsIn K mainGlobals "place_behind" = some (some (.ref f18)))
    (l18 : K.lookup f18 = some ⟨oc18, od18, .func (PySem.W.fnOf "place_behind" "place_behind" (defArgs s_place_behind) (defBody s_place_behind) (defScope s_place_behind) .none kV18 dc18 pm18 an18 cd18 ct18), sl18⟩)
    (c18 : PySem.W.codeIn K cd18 "place_behind" = true)
    (k18 : PySem.W.keepIn K (.ref f18) = true)
    (a19 : PySem.W.nsIn K mainGlobals "places_behind" = some (some (.ref f19)))
    (l19 : K.lookup f19 = some ⟨oc19, od19, .func (PySem.W.fnOf "places_behind" "places_behind" (defArgs s_places_behind) (defBody s_places_behind) (defScope s_places_behind) .none kV19 dc19 pm19 an19 cd19 ct19), sl19⟩)
    (c19 : PySem.W.codeIn K cd19 "places_behind" = true)
    (k19 : PySem.W.keepIn K (.ref f19) = true)
    (a20 : PySem.W.nsIn K mainGlobals "waits_behind" = some (some (.ref f20)))
    (l20 : K.lookup f20 = some ⟨oc20, od20, .func (PySem.W.fnOf "waits_behind" "waits_behind" (defArgs s_waits_behind) (defBody s_waits_behind) (defScope s_waits_behind) .none kV20 dc20 pm20 an20 cd20 ct20), sl20⟩)
    (c20 : PySem.W.codeIn K cd20 "waits_behind" = true)
    (k20 : PySem.W.keepIn K (.ref f20) = true)
    (a21 : PySem.W.nsIn K mainGlobals "jumps_badly" = some (some (.ref f21)))
    (l21 : K.lookup f21 = some ⟨oc21, od21, .func (PySem.W.fnOf "jumps_badly" "jumps_badly" (defArgs s_jumps_badly) (defBody s_jumps_badly) (defScope s_jumps_badly) .none kV21 dc21 pm21 an21 cd21 ct21), sl21⟩)
    (c21 : PySem.W.codeIn K cd21 "jumps_badly" = true)
    (k21 : PySem.W.keepIn K (.ref f21) = true)
    (a22 : PySem.W.nsIn K mainGlobals "broken" = some (some (.ref f22)))
    (l22 : K.lookup f22 = some ⟨oc22, od22, .func (PySem.W.fnOf "broken" "broken" (defArgs s_broken) (defBody s_broken) (defScope s_broken) .none kV22 dc22 pm22 an22 cd22 ct22), sl22⟩)
    (c22 : PySem.W.codeIn K cd22 "broken" = true)
    (k22 : PySem.W.keepIn K (.ref f22) = true)
    (a23 : PySem.W.nsIn K mainGlobals "way_to" = some (some (.ref f23)))
    (l23 : K.lookup f23 = some ⟨oc23, od23, .func (PySem.W.fnOf "way_to" "way_to" (defArgs s_way_to) (defBody s_way_to) (defScope s_way_to) .none kV23 dc23 pm23 an23 cd23 ct23), sl23⟩)
    (c23 : PySem.W.codeIn K cd23 "way_to" = true)
    (k23 : PySem.W.keepIn K (.ref f23) = true)
    (a24 : PySem.W.nsIn K mainGlobals "met_next" = some (some (.ref f24)))
    (l24 : K.lookup f24 = some ⟨oc24, od24, .func (PySem.W.fnOf "met_next" "met_next" (defArgs s_met_next) (defBody s_met_next) (defScope s_met_next) .none kV24 dc24 pm24 an24 cd24 ct24), sl24⟩)
    (c24 : PySem.W.codeIn K cd24 "met_next" = true)
    (k24 : PySem.W.keepIn K (.ref f24) = true)
    (a25 : PySem.W.nsIn K mainGlobals "look" = some (some (.ref f25)))
    (l25 : K.lookup f25 = some ⟨oc25, od25, .func (PySem.W.fnOf "look" "look" (defArgs s_look) (defBody s_look) (defScope s_look) .none kV25 dc25 pm25 an25 cd25 ct25), sl25⟩)
    (c25 : PySem.W.codeIn K cd25 "look" = true)
    (k25 : PySem.W.keepIn K (.ref f25) = true)
    (a26 : PySem.W.nsIn K mainGlobals "_law_late" = some (some (.ref f26)))
    (l26 : K.lookup f26 = some ⟨oc26, od26, .func (PySem.W.fnOf "_law_late" "_law_late" (defArgs sLLate) (defBody sLLate) (defScope sLLate) .none kV26 dc26 pm26 an26 cd26 ct26), sl26⟩)
    (c26 : PySem.W.codeIn K cd26 "_law_late" = true)
    (k26 : PySem.W.keepIn K (.ref f26) = true)
    (a27 : PySem.W.nsIn K mainGlobals "_law_looks" = some (some (.ref f27)))
    (l27 : K.lookup f27 = some ⟨oc27, od27, .func (PySem.W.fnOf "_law_looks" "_law_looks" (defArgs s__law_looks) (defBody s__law_looks) (defScope s__law_looks) .none kV27 dc27 pm27 an27 cd27 ct27), sl27⟩)
    (c27 : PySem.W.codeIn K cd27 "_law_looks" = true)
    (k27 : PySem.W.keepIn K (.ref f27) = true)
    (a28 : PySem.W.nsIn K mainGlobals "_law_broken" = some (some (.ref f28)))
    (l28 : K.lookup f28 = some ⟨oc28, od28, .func (PySem.W.fnOf "_law_broken" "_law_broken" (defArgs s__law_broken) (defBody s__law_broken) (defScope s__law_broken) .none kV28 dc28 pm28 an28 cd28 ct28), sl28⟩)
    (c28 : PySem.W.codeIn K cd28 "_law_broken" = true)
    (k28 : PySem.W.keepIn K (.ref f28) = true)
    (a29 : PySem.W.nsIn K mainGlobals "_law_onward" = some (some (.ref f29)))
    (l29 : K.lookup f29 = some ⟨oc29, od29, .func (PySem.W.fnOf "_law_onward" "_law_onward" (defArgs s__law_onward) (defBody s__law_onward) (defScope s__law_onward) .none kV29 dc29 pm29 an29 cd29 ct29), sl29⟩)
    (c29 : PySem.W.codeIn K cd29 "_law_onward" = true)
    (k29 : PySem.W.keepIn K (.ref f29) = true)
    (a30 : PySem.W.nsIn K mainGlobals "_law_look" = some (some (.ref f30)))
    (l30 : K.lookup f30 = some ⟨oc30, od30, .func (PySem.W.fnOf "_law_look" "_law_look" (defArgs s__law_look) (defBody s__law_look) (defScope s__law_look) .none kV30 dc30 pm30 an30 cd30 ct30), sl30⟩)
    (c30 : PySem.W.codeIn K cd30 "_law_look" = true)
    (k30 : PySem.W.keepIn K (.ref f30) = true)
    (a31 : PySem.W.nsIn K mainGlobals "_law_rested" = some (some (.ref f31)))
    (l31 : K.lookup f31 = some ⟨oc31, od31, .func (PySem.W.fnOf "_law_rested" "_law_rested" (defArgs s__law_rested) (defBody s__law_rested) (defScope s__law_rested) .none kV31 dc31 pm31 an31 cd31 ct31), sl31⟩)
    (c31 : PySem.W.codeIn K cd31 "_law_rested" = true)
    (k31 : PySem.W.keepIn K (.ref f31) = true)
    (a32 : PySem.W.nsIn K mainGlobals "_law_just" = some (some (.ref f32)))
    (l32 : K.lookup f32 = some ⟨oc32, od32, .func (PySem.W.fnOf "_law_just" "_law_just" (defArgs s__law_just) (defBody s__law_just) (defScope s__law_just) .none kV32 dc32 pm32 an32 cd32 ct32), sl32⟩)
    (c32 : PySem.W.codeIn K cd32 "_law_just" = true)
    (k32 : PySem.W.keepIn K (.ref f32) = true)
    (a33 : PySem.W.nsIn K mainGlobals "_law_alike" = some (some (.ref f33)))
    (l33 : K.lookup f33 = some ⟨oc33, od33, .func (PySem.W.fnOf "_law_alike" "_law_alike" (defArgs sAlike) (defBody sAlike) (defScope sAlike) .none kV33 dc33 pm33 an33 cd33 ct33), sl33⟩)
    (c33 : PySem.W.codeIn K cd33 "_law_alike" = true)
    (k33 : PySem.W.keepIn K (.ref f33) = true)
    (a34 : PySem.W.nsIn K mainGlobals "_law_kind" = some (some (.ref f34)))
    (l34 : K.lookup f34 = some ⟨oc34, od34, .func (PySem.W.fnOf "_law_kind" "_law_kind" (defArgs s__law_kind) (defBody s__law_kind) (defScope s__law_kind) .none kV34 dc34 pm34 an34 cd34 ct34), sl34⟩)
    (c34 : PySem.W.codeIn K cd34 "_law_kind" = true)
    (k34 : PySem.W.keepIn K (.ref f34) = true)
    (a35 : PySem.W.nsIn K mainGlobals "law" = some (some (.ref f35)))
    (l35 : K.lookup f35 = some ⟨oc35, od35, .func (PySem.W.fnOf "law" "law" (defArgs sLaw) (defBody sLaw) (defScope sLaw) .none kV35 dc35 pm35 an35 (.ref cL) ct35), sl35⟩)
    (c35 : PySem.W.codeIn K (.ref cL) "law" = true)
    (k35 : PySem.W.keepIn K (.ref f35) = true)
    (zlen : PySem.W.nsIn K mainGlobals "len" = some none)
    (zlist : PySem.W.nsIn K mainGlobals "list" = some none)
    (zmax : PySem.W.nsIn K mainGlobals "max" = some none)
    (zmin : PySem.W.nsIn K mainGlobals "min" = some none)
    (ztuple : PySem.W.nsIn K mainGlobals "tuple" = some none)
    (zrange : PySem.W.nsIn K mainGlobals "range" = some none)
    (zisinstance : PySem.W.nsIn K mainGlobals "isinstance" = some none)
    (zint : PySem.W.nsIn K mainGlobals "int" = some none)
    (zbool : PySem.W.nsIn K mainGlobals "bool" = some none)
    (zstr : PySem.W.nsIn K mainGlobals "str" = some none)
    (zall : PySem.W.nsIn K mainGlobals "all" = some none)
    (zzip : PySem.W.nsIn K mainGlobals "zip" = some none)
    (zenumerate : PySem.W.nsIn K mainGlobals "enumerate" = some none)
    (zsum : PySem.W.nsIn K mainGlobals "sum" = some none)
    (zany : PySem.W.nsIn K mainGlobals "any" = some none)
    (zsorted : PySem.W.nsIn K mainGlobals "sorted" = some none)
    (zset : PySem.W.nsIn K mainGlobals "set" = some none)
    (zdict : PySem.W.nsIn K mainGlobals "dict" = some none)
    (gBOXES : PySem.W.nsIn K mainGlobals "BOXES" = some (some (.int 8 tBOXES)))
    (gMOST_HELD : PySem.W.nsIn K mainGlobals "MOST_HELD" = some (some (.int 999 tMOST_HELD)))
    (gMOST_ROWS : PySem.W.nsIn K mainGlobals "MOST_ROWS" = some (some (.int 200 tMOST_ROWS)))
    (gJUMP_AT : PySem.W.nsIn K mainGlobals "JUMP_AT" = some (some (.int 3 tJUMP_AT)))
    (gMOST_STATES : PySem.W.nsIn K mainGlobals "MOST_STATES" = some (some (.int 250 tMOST_STATES)))
    (rdS : PySem.W.nsIn K mainGlobals "SIGNS" = some (some (.ref dS)))
    (ldS : K.lookup dS = some ⟨.type "dict", none, .dict esdS ndS, #[]⟩)
    (litdS : PySem.W.KeysLit w.params esdS.toList)
    (lowdS : (dS == sysModules) = false)
    (entdS : EntsAt esdS.toList signsTab)
    (rdL : PySem.W.nsIn K mainGlobals "LATE_AT" = some (some (.ref dL)))
    (ldL : K.lookup dL = some ⟨.type "dict", none, .dict esdL ndL, #[]⟩)
    (litdL : PySem.W.KeysLit w.params esdL.toList)
    (lowdL : (dL == sysModules) = false)
    (entdL : EntsAt esdL.toList lateTab)
    (rtM : PySem.W.nsIn K mainGlobals "MOST_LATE" = some (some (.ref tM)))
    (lttM : K.lookup tM = some otM)
    (lctM : otM.cls = .type "tuple")
    (ldtM : otM.data = .seq ittM ntM)
    (lstM : ittM.size ≤ sizeLine)
    (lvtM : Vals [.int 2, .int 4, .int 4, .int 3] ittM.toList)
    (rtG : PySem.W.nsIn K mainGlobals "GOES" = some (some (.ref tG)))
    (lttG : K.lookup tG = some otG)
    (lctG : otG.cls = .type "tuple")
    (ldtG : otG.data = .seq ittG ntG)
    (lstG : ittG.size ≤ sizeLine)
    (lvtG : Vals [.str "go", .str "if"] ittG.toList)
    (rtL : PySem.W.nsIn K mainGlobals "LEAVES" = some (some (.ref tL)))
    (lttL : K.lookup tL = some otL)
    (lctL : otL.cls = .type "tuple")
    (ldtL : otL.data = .seq ittL ntL)
    (lstL : ittL.size ≤ sizeLine)
    (lvtL : Vals [.str "go", .str "if", .str "stop"] ittL.toList)
    (rtN : PySem.W.nsIn K mainGlobals "NO_GOING" = some (some (.ref tN)))
    (lttN : K.lookup tN = some otN)
    (lctN : otN.cls = .type "tuple")
    (ldtN : otN.data = .seq ittN ntN)
    (lstN : ittN.size ≤ sizeLine)
    (lvtN : Vals [.int (-1), .int 0] ittN.toList)
    (gCL : PySem.W.nsIn K mainGlobals "LateError" = some (some (.ref CL)))
    (gCP : PySem.W.nsIn K mainGlobals "BadProgram" = some (some (.ref CP)))
    (gCM : PySem.W.nsIn K mainGlobals "BadMill" = some (some (.ref CM)))
    (gCC : PySem.W.nsIn K mainGlobals "BadCells" = some (some (.ref CC)))
    (gCF : PySem.W.nsIn K mainGlobals "BadFuel" = some (some (.ref CF)))
    (gCE : PySem.W.nsIn K mainGlobals "BadPiece" = some (some (.ref CE)))
    (gCT : PySem.W.nsIn K mainGlobals "TooMany" = some (some (.ref CT)))
    (gCX : PySem.W.nsIn K mainGlobals "BadText" = some (some (.ref CX)))
    (zVE : PySem.W.nsIn K mainGlobals "ValueError" = some none)
    (xe : PySem.W.excIn K CT He.veBase "ValueError.__new__" = true)
    (xk : PySem.W.keepIn K (.ref CT) = true)
    (xs : PySem.W.subIn K (.ref CT) (.type "BaseException") = some true)
    (xt : PySem.W.typeIn K (.ref CT) = some (.type "type"))
    (e1 : PySem.W.findIn K (.ref CT) "__getattribute__" = some (some (.builtin "BaseException.__getattribute__")))
    (e2 : PySem.W.findIn K (.ref CT) "__getattr__" = some none)
    (e4 : PySem.W.hasDictIn K CT = true)
    (e5 : PySem.W.findIn K (.ref CT) "__class__" = some (some (.builtin "object.__class__")))
    (e6 : PySem.W.specialIn K (.builtin "object.__class__") "__get__" = some (some (.builtin "getset_descriptor.__get__")))
    (e7 : PySem.W.takesIn K (.builtin "object.__class__") = some true)
    (e8 : PySem.W.mroIn K CT (.type "object") = some true)
    (e9 : PySem.W.exmOne K (.ref CT) (.ref CL) = some true)
    (wCP : PySem.W.kitOne K (.ref CT) (.ref CP) = some false)
    (wCM : PySem.W.kitOne K (.ref CT) (.ref CM) = some false)
    (wCC : PySem.W.kitOne K (.ref CT) (.ref CC) = some false)
    (wCF : PySem.W.kitOne K (.ref CT) (.ref CF) = some false)
    (wCE : PySem.W.kitOne K (.ref CT) (.ref CE) = some false)
    (wCT : PySem.W.kitOne K (.ref CT) (.ref CT) = some true)
    (wCX : PySem.W.kitOne K (.ref CT) (.ref CX) = some false)
    (wV : PySem.W.kitOne K (.ref CT) (.type "ValueError") = some true)
    (lcc : K.lookup cL = some ⟨ec, dcc, .fields vsc, slc⟩)
    (v11 : vsc[11]? = some (.ref Pt))
    (nT : K.lookup Pt = none)
    (hdT : PySem.W.codeHdIn K cL Pt = true) :
    LamX.LawAtS l w K CX0 8 63 "_law_script" mg fa h := by
  have e := hfa.symm.trans (PySem.W.mg_of X G a35)
  cases e
  have B : Bl2 mg := ⟨⟨PySem.W.mg_none_of X G zlen, PySem.W.mg_none_of X G zlist, PySem.W.mg_none_of X G zmax, PySem.W.mg_none_of X G zmin, PySem.W.mg_none_of X G ztuple, PySem.W.mg_none_of X G zrange⟩, PySem.W.mg_none_of X G zisinstance, PySem.W.mg_none_of X G zint, PySem.W.mg_none_of X G zbool, PySem.W.mg_none_of X G zstr, PySem.W.mg_none_of X G zall, PySem.W.mg_none_of X G zzip, PySem.W.mg_none_of X G zenumerate⟩
  have B3 : Bl3 mg := ⟨PySem.W.mg_none_of X G zsum, PySem.W.mg_none_of X G zany, PySem.W.mg_none_of X G zsorted, PySem.W.mg_none_of X G zset, PySem.W.mg_none_of X G zdict⟩
  have hBOXES : ∃ t, mg "BOXES" = some (.int 8 t) := ⟨_, PySem.W.mg_of X G gBOXES⟩
  have hMOST_HELD : ∃ t, mg "MOST_HELD" = some (.int 999 t) := ⟨_, PySem.W.mg_of X G gMOST_HELD⟩
  have hMOST_ROWS : ∃ t, mg "MOST_ROWS" = some (.int 200 t) := ⟨_, PySem.W.mg_of X G gMOST_ROWS⟩
  have hJUMP_AT : ∃ t, mg "JUMP_AT" = some (.int 3 t) := ⟨_, PySem.W.mg_of X G gJUMP_AT⟩
  have hMOST_STATES : ∃ t, mg "MOST_STATES" = some (.int 250 t) := ⟨_, PySem.W.mg_of X G gMOST_STATES⟩
  have GB : Gb K w mg dS := ⟨hBOXES, hMOST_HELD, hMOST_ROWS, PySem.W.mg_of X G rdS, ⟨esdS, ndS, ⟨ldS, litdS, lowdS⟩, entdS⟩⟩
  have GG : Gs K w mg dS dL tM := ⟨GB, PySem.W.mg_of X G rdL, ⟨esdL, ndL, ⟨ldL, litdL, lowdL⟩, entdL⟩, PySem.W.mg_of X G rtM, ⟨otM, ittM, ntM, lttM, lctM, ldtM, lstM, lvtM⟩⟩
  have hGOES := (⟨PySem.W.mg_of X G rtG, ⟨otG, ittG, ntG, lttG, lctG, ldtG, lstG, lvtG⟩⟩ : GGo K mg tG)
  have hLEAVES := (⟨PySem.W.mg_of X G rtL, ⟨otL, ittL, ntL, lttL, lctL, ldtL, lstL, lvtL⟩⟩ : GLv K mg tL)
  have hNG := (⟨PySem.W.mg_of X G rtN, ⟨otN, ittN, ntN, lttN, lctN, ldtN, lstN, lvtN⟩⟩ : GN K mg tN)
  have hOE : OwnE K mg "TooMany" CT := ⟨⟨_, _, _, _, PySem.F.excBase_ValueError, xe⟩, PySem.W.mg_of X G gCT, xk, xs, xt⟩
  have hEC : ExcC K CT := ⟨e1, e2, xs, e4, e5, e6, e7, e8⟩
  have hKi : Kinds K mg CL CP CM CC CF CE CT CX := ⟨PySem.W.mg_of X G gCL, PySem.W.mg_of X G gCP, PySem.W.mg_of X G gCM, PySem.W.mg_of X G gCC, PySem.W.mg_of X G gCF, PySem.W.mg_of X G gCE, PySem.W.mg_of X G gCT, PySem.W.mg_of X G gCX, PySem.W.mg_none_of X G zVE, hEC, e9, wCP, wCM, wCC, wCF, wCE, wCT, wCX, wV⟩
  have F1 := fun_mk (st := sMix) l1 c1 k1
  have b1 := F1.binds (ps := ["_law_script", "_law_seed"]) fun _ _ _ _ _ _ us hl => match us, hl with | [_, _], _ => rfl
  have m1 := PySem.W.mg_of X G a1
  have F2 := fun_mk (st := sNext) l2 c2 k2
  have b2 := F2.binds (ps := ["_law_h", "_law_many"]) fun _ _ _ _ _ _ us hl => match us, hl with | [_, _], _ => rfl
  have m2 := PySem.W.mg_of X G a2
  have F3 := fun_mk (st := sNumber) l3 c3 k3
  have b3 := F3.binds (ps := ["_law_h"]) fun _ _ _ _ _ _ us hl => match us, hl with | [_], _ => rfl
  have m3 := PySem.W.mg_of X G a3
  have F4 := fun_mk (st := sMill) l4 c4 k4
  have b4 := F4.binds (ps := ["_law_h"]) fun _ _ _ _ _ _ us hl => match us, hl with | [_], _ => rfl
  have m4 := PySem.W.mg_of X G a4
  have F5 := fun_mk (st := sBoxes) l5 c5 k5
  have b5 := F5.binds (ps := ["_law_h"]) fun _ _ _ _ _ _ us hl => match us, hl with | [_], _ => rfl
  have m5 := PySem.W.mg_of X G a5
  have F6 := fun_mk (st := sDeed) l6 c6 k6
  have b6 := F6.binds (ps := ["_law_h", "_law_e"]) fun _ _ _ _ _ _ us hl => match us, hl with | [_, _], _ => rfl
  have m6 := PySem.W.mg_of X G a6
  have F7 := fun_mk (st := sJump) l7 c7 k7
  have b7 := F7.binds (ps := ["_law_h", "_law_e", "_law_at", "_law_rows"]) fun _ _ _ _ _ _ us hl => match us, hl with | [_, _, _, _], _ => rfl
  have m7 := PySem.W.mg_of X G a7
  have F8 := fun_mk (st := sPlain) l8 c8 k8
  have b8 := F8.binds (ps := ["_law_h", "_law_most"]) fun _ _ _ _ _ _ us hl => match us, hl with | [_, _], _ => rfl
  have m8 := PySem.W.mg_of X G a8
  have F9 := fun_mk (st := sWhole) l9 c9 k9
  have b9 := F9.binds (ps := ["x", "most"]) fun _ _ _ _ _ _ us hl => match us, hl with | [_, _], _ => rfl
  have m9 := PySem.W.mg_of X G a9
  have F10 := fun_mk (st := sMost) l10 c10 k10
  have b10 := F10.binds (ps := ["sign", "many"]) fun _ _ _ _ _ _ us hl => match us, hl with | [_, _], _ => rfl
  have m10 := PySem.W.mg_of X G a10
  have F11 := fun_mk (st := sRow) l11 c11 k11
  have b11 := F11.binds (ps := ["row", "many"]) fun _ _ _ _ _ _ us hl => match us, hl with | [_, _], _ => rfl
  have m11 := PySem.W.mg_of X G a11
  have F12 := fun_mk (st := s_first_flaw) l12 c12 k12
  have b12 := F12.binds (ps := ["rows", "many"]) fun _ _ _ _ _ _ us hl => match us, hl with | [_, _], _ => rfl
  have m12 := PySem.W.mg_of X G a12
  have F13 := fun_mk (st := sChkP) l13 c13 k13
  have b13 := F13.binds (ps := ["program"]) fun _ _ _ _ _ _ us hl => match us, hl with | [_], _ => rfl
  have m13 := PySem.W.mg_of X G a13
  have F14 := fun_mk (st := sChkM) l14 c14 k14
  have b14 := F14.binds (ps := ["mill"]) fun _ _ _ _ _ _ us hl => match us, hl with | [_], _ => rfl
  have m14 := PySem.W.mg_of X G a14
  have F15 := fun_mk (st := s_looked_at) l15 c15 k15
  have b15 := F15.binds (ps := ["row"]) fun _ _ _ _ _ _ us hl => match us, hl with | [_], _ => rfl
  have m15 := PySem.W.mg_of X G a15
  have F16 := fun_mk (st := sMade) l16 c16 k16
  have b16 := F16.binds (ps := ["row"]) fun _ _ _ _ _ _ us hl => match us, hl with | [_], _ => rfl
  have m16 := PySem.W.mg_of X G a16
  have F17 := fun_mk (st := sLate) l17 c17 k17
  have b17 := F17.binds (ps := ["row", "mill"]) fun _ _ _ _ _ _ us hl => match us, hl with | [_, _], _ => rfl
  have m17 := PySem.W.mg_of X G a17
  have F18 := fun_mk (st := s_place_behind) l18 c18 k18
  have b18 := F18.binds (ps := ["at", "going"]) fun _ _ _ _ _ _ us hl => match us, hl with | [_, _], _ => rfl
  have m18 := PySem.W.mg_of X G a18
  have F19 := fun_mk (st := s_places_behind) l19 c19 k19
  have b19 := F19.binds (ps := ["program", "mill", "state"]) fun _ _ _ _ _ _ us hl => match us, hl with | [_, _, _], _ => rfl
  have m19 := PySem.W.mg_of X G a19
  have F20 := fun_mk (st := s_waits_behind) l20 c20 k20
  have b20 := F20.binds (ps := ["row", "mill", "waits"]) fun _ _ _ _ _ _ us hl => match us, hl with | [_, _, _], _ => rfl
  have m20 := PySem.W.mg_of X G a20
  have F21 := fun_mk (st := s_jumps_badly) l21 c21 k21
  have b21 := F21.binds (ps := ["program", "mill", "state"]) fun _ _ _ _ _ _ us hl => match us, hl with | [_, _, _], _ => rfl
  have m21 := PySem.W.mg_of X G a21
  have F22 := fun_mk (st := s_broken) l22 c22 k22
  have b22 := F22.binds (ps := ["program", "mill", "state"]) fun _ _ _ _ _ _ us hl => match us, hl with | [_, _, _], _ => rfl
  have m22 := PySem.W.mg_of X G a22
  have F23 := fun_mk (st := s_way_to) l23 c23 k23
  have b23 := F23.binds (ps := ["came", "state"]) fun _ _ _ _ _ _ us hl => match us, hl with | [_, _], _ => rfl
  have m23 := PySem.W.mg_of X G a23
  have F24 := fun_mk (st := s_met_next) l24 c24 k24
  have b24 := F24.binds (ps := ["program", "mill", "states", "came"]) fun _ _ _ _ _ _ us hl => match us, hl with | [_, _, _, _], _ => rfl
  have m24 := PySem.W.mg_of X G a24
  have F25 := fun_mk (st := s_look) l25 c25 k25
  have b25 := F25.binds (ps := ["program", "mill"]) fun _ _ _ _ _ _ us hl => match us, hl with | [_, _], _ => rfl
  have m25 := PySem.W.mg_of X G a25
  have F26 := fun_mk (st := sLLate) l26 c26 k26
  have b26 := F26.binds (ps := ["_law_row", "_law_mill_here"]) fun _ _ _ _ _ _ us hl => match us, hl with | [_, _], _ => rfl
  have m26 := PySem.W.mg_of X G a26
  have F27 := fun_mk (st := s__law_looks) l27 c27 k27
  have b27 := F27.binds (ps := ["_law_row"]) fun _ _ _ _ _ _ us hl => match us, hl with | [_], _ => rfl
  have m27 := PySem.W.mg_of X G a27
  have F28 := fun_mk (st := s__law_broken) l28 c28 k28
  have b28 := F28.binds (ps := ["_law_program", "_law_mill_here", "_law_state"]) fun _ _ _ _ _ _ us hl => match us, hl with | [_, _, _], _ => rfl
  have m28 := PySem.W.mg_of X G a28
  have F29 := fun_mk (st := s__law_onward) l29 c29 k29
  have b29 := F29.binds (ps := ["_law_program", "_law_mill_here", "_law_state"]) fun _ _ _ _ _ _ us hl => match us, hl with | [_, _, _], _ => rfl
  have m29 := PySem.W.mg_of X G a29
  have F30 := fun_mk (st := s__law_look) l30 c30 k30
  have b30 := F30.binds (ps := ["_law_program", "_law_mill_here"]) fun _ _ _ _ _ _ us hl => match us, hl with | [_, _], _ => rfl
  have m30 := PySem.W.mg_of X G a30
  have F31 := fun_mk (st := s__law_rested) l31 c31 k31
  have b31 := F31.binds (ps := ["_law_h", "_law_program"]) fun _ _ _ _ _ _ us hl => match us, hl with | [_, _], _ => rfl
  have m31 := PySem.W.mg_of X G a31
  have F32 := fun_mk (st := s__law_just) l32 c32 k32
  have b32 := F32.binds (ps := ["_law_h"]) fun _ _ _ _ _ _ us hl => match us, hl with | [_], _ => rfl
  have m32 := PySem.W.mg_of X G a32
  have F33 := fun_mk (st := sAlike) l33 c33 k33
  have b33 := F33.binds (ps := ["_law_found", "_law_due"]) fun _ _ _ _ _ _ us hl => match us, hl with | [_, _], _ => rfl
  have m33 := PySem.W.mg_of X G a33
  have F34 := fun_mk (st := s__law_kind) l34 c34 k34
  have b34 := F34.binds (ps := ["_law_work"]) fun _ _ _ _ _ _ us hl => match us, hl with | [_], _ => rfl
  have m34 := PySem.W.mg_of X G a34
  have F35 := fun_mk (st := sLaw) l35 c35 k35
  have b35 := F35.binds (ps := ["_law_script"]) fun _ _ _ _ _ _ us hl => match us, hl with | [_], _ => rfl
  have m35 := PySem.W.mg_of X G a35
  have hP := own cL Pt _ _ _ _ _ _ l35 rfl rfl lcc v11
  refine ⟨PySem.W.fnOf "law" "law" (defArgs sLaw) (defBody sLaw) (defScope sLaw) .none kV35 dc35 pm35 an35 (.ref cL) ct35, [(cL, Pt)], spLaw K Pt, fun p hp => ?_, fun p hp => ?_, fun p hp => ?_, fun s v => .of_eq rfl, fun H a ns hl _ hT hS => ⟨a, ns, rfl, hS, hl, hT _ (List.mem_singleton.mpr rfl), fun _ => rfl⟩, fun base _ _ TBS => ?_⟩
  · rw [List.mem_singleton.mp hp]
    exact hP
  · rw [List.mem_singleton.mp hp]
    exact nT
  · rw [List.mem_singleton.mp hp]
    exact PySem.W.codeHd_of_K X hdT
  · skip
    have MX := Cal.mk' (P := l.prog) (w := w) (base := base) (ok_mix F1 B.b.list) m1 F1.kp b1
    have NX := Cal.mk' (P := l.prog) (w := w) (base := base) (ok_next F2 B.b.max B.b.len) m2 F2.kp b2
    have NU := Cal.mk' (P := l.prog) (w := w) (base := base) (ok_number F3 NX) m3 F3.kp b3
    have MI := Cal.mk' (P := l.prog) (w := w) (base := base) (ok_mill F4 NX B.b) m4 F4.kp b4
    have BO := Cal.mk' (P := l.prog) (w := w) (base := base) (ok_boxes F5 NX) m5 F5.kp b5
    have DE := Cal.mk' (P := l.prog) (w := w) (base := base) (ok_deed F6 NX NU B.b) m6 F6.kp b6
    have JU := Cal.mk' (P := l.prog) (w := w) (base := base) (ok_jump F7 NX B.b) m7 F7.kp b7
    have PL := Cal.mk' (P := l.prog) (w := w) (base := base) (ok_plain F8 NX BO DE JU B.b) m8 F8.kp b8
    have WH := Cal.mk' (P := l.prog) (w := w) (base := base) (ok_whole F9 B) m9 F9.kp b9
    have MO := Cal.mk' (P := l.prog) (w := w) (base := base) (ok_most F10 GB) m10 F10.kp b10
    have RW := row_d (Cal.mk' (P := l.prog) (w := w) (base := base) (ok_row F11 WH MO B GB) m11 F11.kp b11)
    have FF := Cal.mk' (P := l.prog) (w := w) (base := base) (ok_flaw F12 RW B hMOST_ROWS) m12 F12.kp b12
    have CP := chkP_old (Cal.mk' (P := l.prog) (w := w) (base := base) (ok_chkPn F13 FF B hMOST_ROWS) m13 F13.kp b13)
    have CM := Cal.mk' (P := l.prog) (w := w) (base := base) (ok_chkM F14 WH B GG) m14 F14.kp b14
    have LO := Cal.mk' (P := l.prog) (w := w) (base := base) (ok_looked F15 B GG) m15 F15.kp b15
    have MD := Cal.mk' (P := l.prog) (w := w) (base := base) (ok_made F16 GG) m16 F16.kp b16
    have LT := Cal.mk' (P := l.prog) (w := w) (base := base) (ok_late F17 GG) m17 F17.kp b17
    have PB := Cal.mk' (P := l.prog) (w := w) (base := base) (ok_plb F18 hNG) m18 F18.kp b18
    have PS := Cal.mk' (P := l.prog) (w := w) (base := base) (ok_places F19 PB hJUMP_AT hGOES) m19 F19.kp b19
    have WB := Cal.mk' (P := l.prog) (w := w) (base := base) (ok_waits F20 MD LT B) m20 F20.kp b20
    have JB := Cal.mk' (P := l.prog) (w := w) (base := base) (ok_jb F21 PS B hNG hLEAVES) m21 F21.kp b21
    have BR := Cal.mk' (P := l.prog) (w := w) (base := base) (ok_broken F22 LO MD LT JB) m22 F22.kp b22
    have WY := Cal.mk' (P := l.prog) (w := w) (base := base) (ok_way F23) m23 F23.kp b23
    have MN := Cal.mk' (P := l.prog) (w := w) (base := base) (ok_met F24 WB PS B) m24 F24.kp b24
    have LOK : CalX l.prog w K mg base _ "look" _ _ := ⟨_, _, ok_look F25 CP CM BR WY MN B GG hNG hMOST_STATES hOE, m25, F25.kp, b25⟩
    have LL := Cal.mk' (P := l.prog) (w := w) (base := base) (ok_llate F26) m26 F26.kp b26
    have LLK := Cal.mk' (P := l.prog) (w := w) (base := base) (ok_llooks F27 B) m27 F27.kp b27
    have LBR := lbr_d (Cal.mk' (P := l.prog) (w := w) (base := base) (ok_lbroken F28 LLK LL B) m28 F28.kp b28)
    have LON := lon_d (Cal.mk' (P := l.prog) (w := w) (base := base) (ok_lon F29 LL B) m29 F29.kp b29)
    have LLL := Cal.mk' (P := l.prog) (w := w) (base := base) (ok_llook F30 LBR LON B) m30 F30.kp b30
    have RE := Cal.mk' (P := l.prog) (w := w) (base := base) (ok_rested F31 NX B B3) m31 F31.kp b31
    have JS := Cal.mk' (P := l.prog) (w := w) (base := base) (ok_just F32 NX B) m32 F32.kp b32
    have AL := Cal.mk' (P := l.prog) (w := w) (base := base) (alike_all F33 m33 b33 B 4) m33 F33.kp b33
    exact ok_law l35 c35 (TBS _ (List.mem_singleton.mpr rfl)) ⟨m34, F34.kp, l34, c34, b34, hKi⟩ B MX PL NX MI RE JS LLL LOK AL
end LB
open PySem PySem.W PyProof.Rows
set_option maxRecDepth 100000 in
set_option maxHeartbeats 0 in
theorem PySem.Challenge.cw_lateboxes_k04_whole_looked_at_by_all_way_holds : PySem.Challenge.rw_lateboxes_k04_whole_looked_at_by_all_way.Holds := by
  w_on; o_law; k_head; (case hw => w_witness2)
  k_fill
  refine LamX.walk_ofOwn (l := PySem.Challenge.rw_lateboxes_k04_whole_looked_at_by_all_way) (n := 63) (k := 8) (x := "_law_script") (CX := fun _ => L2.CX0) rfl (by decide) rfl ⟨rfl, by decide, by decide⟩ (by kernel_rfl) (fun w h Y => PySem.W.km_in_of Y) ?F (fun _ _ _ _ _ h => h)
  case F =>
    intro w mg fa h _ KX G hmg own
    refine' LB.all_mk KX G hmg own ?a1 ?l1 ?c1 ?k1 ?a2 ?l2 ?c2 ?k2 ?a3 ?l3 ?c3 ?k3 ?a4 ?l4 ?c4 ?k4 ?a5 ?l5 ?c5 ?k5 ?a6 ?l6 ?c6 ?k6 ?a7 ?l7 ?c7 ?k7 ?a8 ?l8 ?c8 ?k8 ?a9 ?l9 ?c9 ?k9 ?a10 ?l10 ?c10 ?k10 ?a11 ?l11 ?c11 ?k11 ?a12 ?l12 ?c12 ?k12 ?a13 ?l13 ?c13 ?k13 ?a14 ?l14 ?c14 ?k14 ?a15 ?l15 ?c15 ?k15 ?a16 ?l16 ?c16 ?k16 ?a17 ?l17 ?c17 ?k17 ?a18 ?l18 ?c18 ?k18 ?a19 ?l19 ?c19 ?k19 ?a20 ?l20 ?c20 ?k20 ?a21 ?l21 ?c21 ?k21 ?a22 ?l22 ?c22 ?k22 ?a23 ?l23 ?c23 ?k23 ?a24 ?l24 ?c24 ?k24 ?a25 ?l25 ?c25 ?k25 ?a26 ?l26 ?c26 ?k26 ?a27 ?l27 ?c27 ?k27 ?a28 ?l28 ?c28 ?k28 ?a29 ?l29 ?c29 ?k29 ?a30 ?l30 ?c30 ?k30 ?a31 ?l31 ?c31 ?k31 ?a32 ?l32 ?c32 ?k32 ?a33 ?l33 ?c33 ?k33 ?a34 ?l34 ?c34 ?k34 ?a35 ?l35 ?c35 ?k35 ?zlen ?zlist ?zmax ?zmin ?ztuple ?zrange ?zisinstance ?zint ?zbool ?zstr ?zall ?zzip ?zenumerate ?zsum ?zany ?zsorted ?zset ?zdict ?gBOXES ?gMOST_HELD ?gMOST_ROWS ?gJUMP_AT ?gMOST_STATES ?rdS ?ldS ?litdS ?lowdS ?entdS ?rdL ?ldL ?litdL ?lowdL ?entdL ?rtM ?lttM ?lctM ?ldtM ?lstM ?lvtM ?rtG ?lttG ?lctG ?ldtG ?lstG ?lvtG ?rtL ?lttL ?lctL ?ldtL ?lstL ?lvtL ?rtN ?lttN ?lctN ?ldtN ?lstN ?lvtN ?gCL ?gCP ?gCM ?gCC ?gCF ?gCE ?gCT ?gCX ?zVE ?xe ?xk ?xs ?xt ?e1 ?e2 ?e4 ?e5 ?e6 ?e7 ?e8 ?e9 ?wCP ?wCM ?wCC ?wCF ?wCE ?wCT ?wCX ?wV ?lcc ?v11 ?nT ?hdT
    (case a1 => k_is)
    (case l1 => k_is)
    (case c1 => k_is)
    (case k1 => k_is)
    (case a2 => k_is)
    (case l2 => k_is)
    (case c2 => k_is)
    (case k2 => k_is)
    (case a3 => k_is)
    (case l3 => k_is)
    (case c3 => k_is)
    (case k3 => k_is)
    (case a4 => k_is)
    (case l4 => k_is)
    (case c4 => k_is)
    (case k4 => k_is)
    (case a5 => k_is)
    (case l5 => k_is)
    (case c5 => k_is)
    (case k5 => k_is)
    (case a6 => k_is)
    (case l6 => k_is)
    (case c6 => k_is)
    (case k6 => k_is)
    (case a7 => k_is)
    (case l7 => k_is)
    (case c7 => k_is)
    (case k7 => k_is)
    (case a8 => k_is)
    (case l8 => k_is)
    (case c8 => k_is)
    (case k8 => k_is)
    (case a9 => k_is)
    (case l9 => k_is)
    (case c9 => k_is)
    (case k9 => k_is)
    (case a10 => k_is)
    (case l10 => k_is)
    (case c10 => k_is)
    (case k10 => k_is)
    (case a11 => k_is)
    (case l11 => k_is)
    (case c11 => k_is)
    (case k11 => k_is)
    (case a12 => k_is)
    (case l12 => k_is)
    (case c12 => k_is)
    (case k12 => k_is)
    (case a13 => k_is)
    (case l13 => k_is)
    (case c13 => k_is)
    (case k13 => k_is)
    (case a14 => k_is)
    (case l14 => k_is)
    (case c14 => k_is)
    (case k14 => k_is)
    (case a15 => k_is)
    (case l15 => k_is)
    (case c15 => k_is)
    (case k15 => k_is)
    (case a16 => k_is)
    (case l16 => k_is)
    (case c16 => k_is)
    (case k16 => k_is)
    (case a17 => k_is)
    (case l17 => k_is)
    (case c17 => k_is)
    (case k17 => k_is)
    (case a18 => k_is)
    (case l18 => k_is)
    (case c18 => k_is)
    (case k18 => k_is)
    (case a19 => k_is)
    (case l19 => k_is)
    (case c19 => k_is)
    (case k19 => k_is)
    (case a20 => k_is)
    (case l20 => k_is)
    (case c20 => k_is)
    (case k20 => k_is)
    (case a21 => k_is)
    (case l21 => k_is)
    (case c21 => k_is)
    (case k21 => k_is)
    (case a22 => k_is)
    (case l22 => k_is)
    (case c22 => k_is)
    (case k22 => k_is)
    (case a23 => k_is)
    (case l23 => k_is)
    (case c23 => k_is)
    (case k23 => k_is)
    (case a24 => k_is)
    (case l24 => k_is)
    (case c24 => k_is)
    (case k24 => k_is)
    (case a25 => k_is)
    (case l25 => k_is)
    (case c25 => k_is)
    (case k25 => k_is)
    (case a26 => k_is)
    (case l26 => k_is)
    (case c26 => k_is)
    (case k26 => k_is)
    (case a27 => k_is)
    (case l27 => k_is)
    (case c27 => k_is)
    (case k27 => k_is)
    (case a28 => k_is)
    (case l28 => k_is)
    (case c28 => k_is)
    (case k28 => k_is)
    (case a29 => k_is)
    (case l29 => k_is)
    (case c29 => k_is)
    (case k29 => k_is)
    (case a30 => k_is)
    (case l30 => k_is)
    (case c30 => k_is)
    (case k30 => k_is)
    (case a31 => k_is)
    (case l31 => k_is)
    (case c31 => k_is)
    (case k31 => k_is)
    (case a32 => k_is)
    (case l32 => k_is)
    (case c32 => k_is)
    (case k32 => k_is)
    (case a33 => k_is)
    (case l33 => k_is)
    (case c33 => k_is)
    (case k33 => k_is)
    (case a34 => k_is)
    (case l34 => k_is)
    (case c34 => k_is)
    (case k34 => k_is)
    (case a35 => k_is)
    (case l35 => k_is)
    (case c35 => k_is)
    (case k35 => k_is)
    (case zlen => k_is)
    (case zlist => k_is)
    (case zmax => k_is)
    (case zmin => k_is)
    (case ztuple => k_is)
    (case zrange => k_is)
    (case zisinstance => k_is)
    (case zint => k_is)
    (case zbool => k_is)
    (case zstr => k_is)
    (case zall => k_is)
    (case zzip => k_is)
    (case zenumerate => k_is)
    (case zsum => k_is)
    (case zany => k_is)
    (case zsorted => k_is)
    (case zset => k_is)
    (case zdict => k_is)
    (case gBOXES => k_is)
    (case gMOST_HELD => k_is)
    (case gMOST_ROWS => k_is)
    (case gJUMP_AT => k_is)
    (case gMOST_STATES => k_is)
    (case rdS => k_is)
    (case ldS => k_is)
    (case litdS => exact ⟨⟨_, _, rfl, rfl⟩, ⟨_, _, rfl, rfl⟩, ⟨_, _, rfl, rfl⟩, ⟨_, _, rfl, rfl⟩, ⟨_, _, rfl, rfl⟩, ⟨_, _, rfl, rfl⟩, ⟨_, _, rfl, rfl⟩, ⟨_, _, rfl, rfl⟩, ⟨_, _, rfl, rfl⟩, ⟨_, _, rfl, rfl⟩, ⟨_, _, rfl, rfl⟩, ⟨_, _, rfl, rfl⟩, trivial⟩)
    (case lowdS => rfl)
    (case entdS => exact ⟨⟨_, rfl⟩, ⟨_, rfl⟩, ⟨_, rfl⟩, ⟨_, rfl⟩, ⟨_, rfl⟩, ⟨_, rfl⟩, ⟨_, rfl⟩, ⟨_, rfl⟩, ⟨_, rfl⟩, ⟨_, rfl⟩, ⟨_, rfl⟩, ⟨_, rfl⟩, ⟨_, rfl⟩, ⟨_, rfl⟩, ⟨_, rfl⟩, ⟨_, rfl⟩, ⟨_, rfl⟩, ⟨_, rfl⟩, ⟨_, rfl⟩, ⟨_, rfl⟩, ⟨_, rfl⟩, ⟨_, rfl⟩, ⟨_, rfl⟩, ⟨_, rfl⟩, trivial⟩)
    (case rdL => k_is)
    (case ldL => k_is)
    (case litdL => exact ⟨⟨_, _, rfl, rfl⟩, ⟨_, _, rfl, rfl⟩, ⟨_, _, rfl, rfl⟩, ⟨_, _, rfl, rfl⟩, ⟨_, _, rfl, rfl⟩, ⟨_, _, rfl, rfl⟩, trivial⟩)
    (case lowdL => rfl)
    (case entdL => exact ⟨⟨_, rfl⟩, ⟨_, rfl⟩, ⟨_, rfl⟩, ⟨_, rfl⟩, ⟨_, rfl⟩, ⟨_, rfl⟩, ⟨_, rfl⟩, ⟨_, rfl⟩, ⟨_, rfl⟩, ⟨_, rfl⟩, ⟨_, rfl⟩, ⟨_, rfl⟩, trivial⟩)
    (case rtM => k_is)
    (case lttM => k_is)
    (case lctM => rfl)
    (case ldtM => rfl)
    (case lstM => decide)
    (case lvtM => exact .cons ⟨_, rfl⟩ (.cons ⟨_, rfl⟩ (.cons ⟨_, rfl⟩ (.cons ⟨_, rfl⟩ .nil))))
    (case rtG => k_is)
    (case lttG => k_is)
    (case lctG => rfl)
    (case ldtG => rfl)
    (case lstG => decide)
    (case lvtG => exact .cons ⟨_, rfl⟩ (.cons ⟨_, rfl⟩ .nil))
    (case rtL => k_is)
    (case lttL => k_is)
    (case lctL => rfl)
    (case ldtL => rfl)
    (case lstL => decide)
    (case lvtL => exact .cons ⟨_, rfl⟩ (.cons ⟨_, rfl⟩ (.cons ⟨_, rfl⟩ .nil)))
    (case rtN => k_is)
    (case lttN => k_is)
    (case lctN => rfl)
    (case ldtN => rfl)
    (case lstN => decide)
    (case lvtN => exact .cons ⟨_, rfl⟩ (.cons ⟨_, rfl⟩ .nil))
    (case gCL => k_is)
    (case gCP => k_is)
    (case gCM => k_is)
    (case gCC => k_is)
    (case gCF => k_is)
    (case gCE => k_is)
    (case gCT => k_is)
    (case gCX => k_is)
    (case zVE => k_is)
    (case xe => kernel_rfl)
    (case xk => k_is)
    (case xs => k_is)
    (case xt => k_is)
    (case e1 => k_is)
    (case e2 => k_is)
    (case e4 => k_is)
    (case e5 => k_is)
    (case e6 => k_is)
    (case e7 => k_is)
    (case e8 => k_is)
    (case e9 => kernel_rfl)
    (case wCP => kernel_rfl)
    (case wCM => kernel_rfl)
    (case wCC => kernel_rfl)
    (case wCF => kernel_rfl)
    (case wCE => kernel_rfl)
    (case wCT => kernel_rfl)
    (case wCX => kernel_rfl)
    (case wV => kernel_rfl)
    (case lcc => k_is)
    (case v11 => rfl)
    (case nT => kernel_rfl)
    (case hdT => kernel_rfl)
